import PyProof.Rows.All
import Wide.All
import OpenK.AllK
import Wide.FinOn
import Lean
import PyProof.EqAt
import PyProof.EqKinds
import PyProof.TupleCall
import PyProof.StrOps
import PyProof.MeetsStr
import PyProof.StrLawsJoin
import PySem.Challenge.RW_leastdeeds_k12_rules_that_hold
set_option Elab.async false
set_option linter.all false
set_option maxRecDepth 100000
set_option autoImplicit true
set_option relaxedAutoImplicit true
set_option maxHeartbeats 0
noncomputable section
set_option hygiene false
local macro_rules
|`(#[0])=>`((by omega))
|`(#[1])=>`((by decide))
|`(#[2])=>`((model X.prog X.w))
|`(#[3])=>`((by decide +kernel))
|`(#[4])=>`((PySem.W.behindTheImports PySem.Challenge.pw_leastdeeds_k12_rules_that_hold))
|`(#[5])=>`((fun z=>hc (by rw [z];simp)))
|`(#[6])=>`((x==("__debug__":Str)))
|`(#[7])=>`((by simp;omega))
|`(#[8])=>`((model prog w))
|`(#[9])=>`((aP false (aa gN (aa uA (aa vW (aa (gS "") (aa (gS "turn") (aa (gS "join") (aa (gS "move") (aa (gS "put") (aa (gS "Turn") (aa (bL ah) (aa (aP false ah) (aa (au false .pow (gI 10) (gI 20)) (aa (fz (gI 1)) (aa (gI 0) ah))))))))))))))))
|`(#[10])=>`((ag (aJ (.one 8) (a8 (.list false) (aa (ae 5) ah))) (ag (dC (.one 9) (dm (au false .add (gI 1) (aq 31 c (aa (ae 1) (aa (gI 2) ah))))) (ag (aJ (.one 10) (aq 31 c (aa (ae 1) (aa (au false .add (a8 .len (aa (ae 8) ah)) (gI 1)) ah)))) (ag (aJ (.one 8) (au false .add (au false .add (cv false false true (ae 8) gN (ae 10)) (aP false (aa (aq 104 c (aa (ae 1) (aa (ae 3) ah))) ah))) (cv false true false (ae 8) (ae 10) gN))) aj))) (ag (jm (ae 6) (ae 8)) aj))))
|`(#[11])=>`((aR (aw (bQ .tuple (ae 1))) (ag (aJ (.one 8) (aP false (aa (a8 (.list false) (aa (ae 1) ah)) (aa (au false .add (ae 1) (cv false false true (ae 1) gN (gI 1))) (aa (cv false false true (ae 1) gN (fz (gI 1))) (aa (ow false (ae 1)) (aa (au false .add (ae 1) (bL (aa (ae 5) ah))) (aa (cv false true false (ae 1) (gI 1) gN) (aa (bL (aa (ae 1) ah)) ah))))))))) (ag (aK (aF (au false .add (ae 8) (aP false (aa (aF (ae 7) (ae 4)) ah))) (ae 3))) aj)) aj))
|`(#[12])=>`((aa (ae 0) (aa (ae 1) ah)))
|`(#[13])=>`((excClassObj nm q C N bs bm hdct sn sub ab col dd k0 k1 k2 k3 k5 "ValueError.__new__"))
|`(#[14])=>`((by kernel_rfl))
|`(#[15])=>`((Addr×Obj))
|`(#[16])=>`((ag (aR (aw (aL .ne (bX false 1 (.one 0) (eD (ae 3)) (k9 (aw (aL .notN (aq 90 c (aa (ae 1) (aa (ae 0) ah))) gN)) (bU (gI 1)))) (aP false ah))) (ag (aK (aP false (aa (gS "rule") (aa (ae 2) ah)))) aj) aj) (ag (aR (aw (aL .ne (aq 44 c (aa (ae 0) (aa (aF (ae 3) (gI 0)) ah))) (aq 44 c (aa (ae 0) (aa (aF (ae 3) (gI 1)) ah))))) (ag (aK (aP false (aa (gS "rule") (aa (ae 2) ah)))) aj) aj) aj)))
|`(#[17])=>`((.ListComp elt (⟨tg,iter,ifs,0⟩::rest) scope pos))
|`(#[18])=>`((bp fa X.K μ H Q))
|`(#[19])=>`((az (aN rfl) (az (aN rfl) rfl)))
|`(#[20])=>`((fun z=>nomatch z))
|`(#[21])=>`((aR (aw (aq 67 c (aa (ae 1) ah))) (ag (aK (aF (aP false (aa (au false .add (ae 1) (gI 1)) (aa (au false .sub (ae 1) (gI 1)) (aa (au false .sub (gI 0) (ae 1)) (aa (ae 5) (aa (ae 5) (aa (aL .eq (ae 1) (gI 1)) (aa (au false .sub (gI 3) (ae 1)) (aa (aF (ae 7) (ae 4)) ah))))))))) (ae 3))) aj) aj))
|`(#[22])=>`(((List.range n.toNat).map fun (k:Nat)=>D.int (k:Int)))
|`(#[23])=>`((au false .add (ae 7) (aP false (aa (gI 1) (aa (gI 4) (aa (bL (aa (gI 0) ah)) (aa (aP false (aa (gI 0) ah)) (aa (gS "0") (aa (gI 7) ah)))))))))
|`(#[24])=>`((fun _ s₂=>wpAny #[2] X.A (assign tg X.env v) (fun _ s₃=>wpAny #[2] X.A body (fun _ s₄=>∃m,m<n/\P m (i+1) s₄) FF s₃) FF s₂))
|`(#[25])=>`((ag (aJ (.one 11) (iq (aa (ae 8) ah))) (ag (aJ (.one 12) (aq 57 c (aa (ae 8) ah))) (ag (aR (eh (bE (aw (aq 40 c (aa (aq 102 c (aa (ae 3) (aa (ae 12) ah))) (aa (aq 103 c (aa (ae 3) (aa (ae 8) ah))) ah))))) (aw (aL .ne (iq (aa (ae 12) ah)) (ae 11)))) rF aj) aj))))
|`(#[26])=>`((bC I q (by simp)))
|`(#[27])=>`((EP X pins σ Q))
|`(#[28])=>`((w.withFollow "special-get-raises" false))
|`(#[29])=>`((.ListComp elt [⟨target,iter,[],0⟩,⟨t2,i2,[],0⟩] scope pos))
|`(#[30])=>`((ds.map some++List.replicate (d.slots-ds.length) none))
|`(#[31])=>`((aa (ae 0) ah))
|`(#[32])=>`((aF (ae 0) (gI 0)))
|`(#[33])=>`((w.withFollow "special-get-raises" true))
|`(#[34])=>`((fun _ z=>nomatch z))
|`(#[35])=>`((aF (ae 0) (gI 2)))
|`(#[36])=>`((fun _ _ _ _=>rfl))
|`(#[37])=>`((.frz (ns.map D.int)))
|`(#[38])=>`((ha pins s σ H _ I h))
|`(#[39])=>`((aa (ae 2) ah))
|`(#[40])=>`((wpAny_call_entry Na ht.typeIs entry_tuple_getitem ?_ (args_tuple_getitem _ _)))
|`(#[41])=>`((gp ⟨μ'.pub,μ1.priv⟩ M'.length a))
|`(#[42])=>`((false,eval a X.env))
|`(#[43])=>`((fB (gD P w) P w K mg base ["self",y] qual (aX st) f cdv A outer s H E))
|`(#[44])=>`((backTo pos (starEach es X.env)))
|`(#[45])=>`(((items.toList.drop (aS items.size 0 lo)).take (aS items.size items.size hi-aS items.size 0 lo)))
|`(#[46])=>`((HT.aS xs.length xs.length hi-HT.aS xs.length 0 lo))
|`(#[47])=>`(((c9 X.K H p ys/\∀l,H l=none->Q (.ref l) (upd H l (.tup ys)))\/(dO X.K H p ys/\Q (.ref p) H)))
|`(#[48])=>`((aP false (aa (gI 0) ah)))
|`(#[49])=>`((.ref s.heap.objs.size))
|`(#[50])=>`((aa (ae 3) ah))
|`(#[51])=>`((.ListComp elt [⟨t1,i1,f1,0⟩,⟨t2,i2,f2,0⟩] scope pos))
|`(#[52])=>`((fun r s'=>r=.ok (.ret (.bool true))/\OldK s₁.heap s'.heap/\s'.os=s₁.os/\Pu s'.gens))
|`(#[53])=>`((tqa (wpAny_onRaise ?_)))
|`(#[54])=>`((.ext (fu C (some d) e)))
|`(#[55])=>`((.builtin "object.__class__"))
|`(#[56])=>`((fB (gD P w) P w K mg base N qual scope f cd A outer s H E))
|`(#[57])=>`((.Call (.Attribute (.Name "DeedError" p1) "__init__" p2) [.Name "self" p3,.JoinedStr [.Constant (.str z) j p4,.FormattedValue (.Name y p5) (-1) none p6] p7] [] p8))
|`(#[58])=>`((.builtin "isinstance"))
|`(#[59])=>`((eval elt env >>= fun x=>call (.builtin "list.append") [acc,x] >>= fun _=>pure ()))
|`(#[60])=>`((A.under (.builtin "type.__call__" ⟨.ref C::us,kw⟩)))
|`(#[61])=>`(((p:Int)-1))
|`(#[62])=>`((ay h.is_deed rfl ?_))
|`(#[63])=>`((bc #[38] fun v s1 ⟨x,H1,I1,r1,q1⟩=>?_))
|`(#[64])=>`((s.heap.push {cls:=.type "range",data:=.fields #[.int lo t,.int hi u,.int 1 v]}))
|`(#[65])=>`((aR (bE (aw (aq 71 c #[31]))) (ag (aK (aP false (aa (gS "machine") ah))) aj) aj))
|`(#[66])=>`((.ListComp elt gens scope pos))
|`(#[67])=>`((a8 .len (aa (ae 1) ah)))
|`(#[68])=>`((((HT.aS its.toArray.size 0 lo:Nat):Int)==0&&(1:Int)==1&&(HT.aS its.toArray.size its.toArray.size hi-HT.aS its.toArray.size 0 lo)==its.toArray.size))
|`(#[69])=>`((h'.push {cls:=.type "tuple",data:=.seq [Value.ref D1,Value.ref D2].toArray}))
|`(#[70])=>`((ag (aR (bE (aw (aq 40 c (aa (aq 102 c (aa (ae 13) (aa (aq 57 c (aa (ae 8) ah)) ah))) (aa (aq 103 c (aa (ae 13) (aa (ae 8) ah))) ah))))) rF aj) aj))
|`(#[71])=>`((Str.ofString a))
|`(#[72])=>`((envOfC qual scope s.heap.objs.size f cd))
|`(#[73])=>`((if k=M.length then some p else μ.pub k))
|`(#[74])=>`((fun _ s'=>∃σ' H',Inv X pins σ' H' s'/\Q σ' H'))
|`(#[75])=>`((wpAny_setField_rec hz (by simp) fun h0 hz0 hs0=>?_))
|`(#[76])=>`((j8 s.heap b0 a0 b1 a1 b2 a2))
|`(#[77])=>`(((h.push {cls:=.type "tuple",data:=.seq rest.toArray}).push {cls:=.ref C,data:=.fields #[.ref h.objs.size,.none,.none,.none,.bool false,.none]}))
|`(#[78])=>`((tqb ⟨_,rfl,tqb h⟩))
|`(#[79])=>`((aa (ae 4) ah))
|`(#[80])=>`((m.deeds.map ba.d))
|`(#[81])=>`((PySem.W.fnOf x qual (gr st) (dw st) (aX st) .none kV doc pm an cdv ct))
|`(#[82])=>`((s.heap.push {cls:=.type "dict",data:=.dict #[]}))
|`(#[83])=>`((aa (gI 0) (aa (au false .sub (ae 2) (gI 1)) ah)))
|`(#[84])=>`((ag (aR (gO (aw (bQ .str (ae 1))) (aw (aL .lt (ae 3) (gI 3)))) (ag (aK (aq 66 c #[12])) aj) aj) (ag (aK (aF (ae 7) (ae 4))) aj)))
|`(#[85])=>`((.xd [(fO c,.int i)]))
|`(#[86])=>`((upd H2 s2.heap.objs.size (.lst [])))
|`(#[87])=>`((Builtin.SmallTypes.nextOf (.ref (n+1)) >>= _))
|`(#[88])=>`((upd H' h'.objs.size (.tup [.ref D1,.ref D2])))
|`(#[89])=>`((aa (gI 0) (aa (au false .sub (a8 .len (aa #[35] ah)) (gI 1)) ah)))
|`(#[90])=>`((aF (ae 0) (gI 1)))
|`(#[91])=>`((HT.aS xs.length 0 lo=0/\HT.aS xs.length xs.length hi=xs.length))
|`(#[92])=>`((rc.e o hx))
|`(#[93])=>`((hi pins s σ H (fun J H1=>∃μ1,Ext μ H μ1 H1/\RelM fa X.K μ1 H1 M1/\eF fa X.K μ1 H1 w J) I ⟨μ,Z,M,hE,hM,?_⟩))
|`(#[94])=>`((.Call (.Name x p) (a::es) [] pos))
|`(#[95])=>`((∀x c,X.env.cells.lookup x=some c->c≠b))
|`(#[96])=>`((Str.ofString c))
|`(#[97])=>`((Builtin.SmallTypes.nextOf (.ref n) >>= _))
|`(#[98])=>`((iK fun d' M'=>Th (k+1) (L+1) d'/\aH M' p (B+3)/\aZ p M M'))
|`(#[99])=>`((.bl false))
|`(#[100])=>`((d4 j0_0 p0_0 e0 fun h1 j0_1 hs1=>tqb ?_))
|`(#[101])=>`((by simpa using hi))
|`(#[102])=>`((.builtin "ValueError.__init__"))
|`(#[103])=>`((FormattedValue_plain (bc (ha pins _ σ H _ (I.tok _) h) fun u s1 ⟨v,H1,I1,r1,i,ev,⟨f1,f2,f3⟩,q⟩=>?_)))
|`(#[104])=>`((.tail _ (.head _)))
|`(#[105])=>`((((aS items.size 0 lo:Nat):Int)==0&&(1:Int)==1&&(aS items.size items.size hi-aS items.size 0 lo)==items.size))
|`(#[106])=>`((.type "BaseException"))
|`(#[107])=>`((pL (c:=3) (ds:=a::b::c::d::r) rfl (fun z=>by simp at z)))
|`(#[108])=>`((az (aN rfl) (az (aN rfl) (az rfl rfl))))
|`(#[109])=>`((List.replicate j.toNat x))
|`(#[110])=>`((.Slice none none (some st) p2))
|`(#[111])=>`((ds.map (cy n M)))
|`(#[112])=>`((i8 hTO1 (by simp) fun h2 hTO2 hs2=>?_))
|`(#[113])=>`((g.inC own scope))
|`(#[114])=>`((by exact .cons ⟨rfl,rfl⟩ (.cons ⟨rfl,rfl⟩ (.cons ⟨rfl,rfl⟩ (.cons ⟨rfl,rfl⟩ (.nil))))))
|`(#[115])=>`((fun v s₁=>wpAny #[2] X.A (eval b X.env) (fun u s₂=>wpAny #[2] X.A (f v u) Q X.xe s₂) X.xe s₁))
|`(#[116])=>`((by simpa using q))
|`(#[117])=>`((I7.pin (b,o) (Nq _ (Nq _ (jw hb e)))))
|`(#[118])=>`((.builtin "getset_descriptor.__get__"))
|`(#[119])=>`((fB CX P w K mg base N qual scope f cdv A outer s H E))
|`(#[120])=>`((HT.aS xs.length 0 lo))
|`(#[121])=>`((Builtin.«tuple.__mul__» ⟨[.ref l,.int x u],[]⟩))
|`(#[122])=>`((Z.set i (some x)))
|`(#[123])=>`(("__static_attributes__"))
|`(#[124])=>`((fun z=>hx (by simp [z])))
|`(#[125])=>`((bc (h pos pins s σ H _ I hq) fun us s1 ⟨xs,H1,I1,r,z,q⟩=>⟨by rw [<- r.length];exact z,?_⟩))
|`(#[126])=>`((.Call (.Name "isinstance" p2) [a,.Name x p1] [] pos))
|`(#[127])=>`(((List.range n.toNat).map fun (k:Nat)=>V.int (k:Int)))
|`(#[128])=>`((j<=i/\∃a b,fl=.next [some m.d,some (.lst ds),a,b]))
|`(#[129])=>`((wpAny_sequenceKey ht.typeIs #[1] ?_))
|`(#[130])=>`((.Compare a [.NotIn] [.Name x p] pos))
|`(#[131])=>`((.inl rfl))
|`(#[132])=>`((∃o,h'.get? e=some o/\o.cls=.type "StopIteration"))
|`(#[133])=>`((.JoinedStr [.Constant (.str z) j p1,.FormattedValue a (-1) none p2,.Constant (.str y) j2 p3] pos))
|`(#[134])=>`(("__firstlineno__"))
|`(#[135])=>`((bc (ha pos pins s σ H _ I h) fun us s1 ⟨vs,H1,I1,r1,q1⟩=>hc pins s1 σ H1 vs us Q I1 r1 q1))
|`(#[136])=>`((upd H a (.lst ws)))
|`(#[137])=>`((cV M (bx o x y M)))
|`(#[138])=>`((b∈X.ex\/X.s₀.heap.objs.size<=b))
|`(#[139])=>`((wpAny_call_entry OC hit.typeIs F.entry_tuple_iterator_next ?_ (F.args_tuple_iterator_next_1 _)))
|`(#[140])=>`((tqf hz rfl (x:=.bool false) rfl ?_))
|`(#[141])=>`((tqf hz rfl (x:=.none) rfl (tqb ?_)))
|`(#[142])=>`((aq 31 c (aa (ae 0) (aa (gI 5) ah))))
|`(#[143])=>`((if v<0 then (v+(n:Int)).toNat else min v.toNat n))
|`(#[144])=>`((Ext.alloc hM hp))
|`(#[145])=>`(([head,.ref L,.none,rawInt L,.none]++(if pl.isEmpty then List.replicate 6 Value.none else pl)))
|`(#[146])=>`((min a xs.length))
|`(#[147])=>`((tqf hz rfl (x:=.ref (n+3)) rfl ?_))
|`(#[148])=>`((hs1.extBut _ _ #[5] (k0 c o hc e)))
|`(#[149])=>`((ag (aK (aL .notin vW (bX false 2 (.tup [0,1]) (nq (ae 0) (ae 1)) (bU (aq 40 c #[12]))))) aj))
|`(#[150])=>`((if (xs++ys).length<=sz then (if false=true then _ else Res.ok (D.lst (xs++ys)) M) else .bad))
|`(#[151])=>`((aJ (.one 3) (aq 34 c (aa (aq 30 c (aa (ae 1) ah)) (aa (gI 3) (aa (gI 2) (aa (gI 5) ah)))))))
|`(#[152])=>`((a9 1 2 b&&(fQ c&&(pD c).all (fb (eC a) (eC b)))))
|`(#[153])=>`((aE rfl (bA rfl (xh (qK rfl rfl)) ⟨rfl,rfl⟩)))
|`(#[154])=>`((lB s.heap b0 a0 b1 a1))
|`(#[155])=>`((rc.e o hy))
|`(#[156])=>`((.bool true))
|`(#[157])=>`((I.base.keep b o e n hb hx))
|`(#[158])=>`((fun b ob q=>Mp _ q))
|`(#[159])=>`((List.replicate k.toNat xs))
|`(#[160])=>`((j1_0.extBut hs1.extBut (aI #[0])))
|`(#[161])=>`((p1_0.extBut hs1.extBut (aI #[0])))
|`(#[162])=>`((aP false ah))
|`(#[163])=>`((aq 35 c (aa (ae 0) (aa (ae 1) (aa (gI 3) ah)))))
|`(#[164])=>`((wpAny_standAt (tqa (wpAny_mono h (fun it' s' h'=>tqb (And.intro rfl h')) fun _ _ x=>x))))
|`(#[165])=>`((fun b hb=>⟨(hf b hb).2.2.2.1,(hf b hb).2.1,(hf b hb).2.2.2.2.1,(hf b hb).2.2.2.2.2⟩))
|`(#[166])=>`((hs.2 b (Nt (MQ (MJ e) (I.ok.cab x c hfn hc)))))
|`(#[167])=>`((aR (aw (aL .ne (a8 .len #[39]) (gI 3))) rF aj))
|`(#[168])=>`((hb pins s1 σ H1 _ I1 q1))
|`(#[169])=>`((x==("__classdict__":Str)))
|`(#[170])=>`((.bl true))
|`(#[171])=>`((WB fa X.K a μ H Z Q))
|`(#[172])=>`((wpAny_letGo (tqb ?_)))
|`(#[173])=>`((.type "type"))
|`(#[174])=>`((List Nat))
|`(#[175])=>`((aa (bL (aa (au false .mul #[48] (gI 40)) (aa (au false .mul #[48] (gI 40)) ah))) ah))
|`(#[176])=>`((I.ok.hd hc))
|`(#[177])=>`((fun x1 x2=>x1++x2))
|`(#[178])=>`((∀μ' H',RelM fa X.K μ' H' M1->∀v,Rep fa X.K μ' H' x v->∃ds,fS M1 x=some ds))
|`(#[179])=>`((HT.aS z.cps.size z.cps.size hi))
|`(#[180])=>`((fun o=>{o with dict:=some s.heap.objs.size}))
|`(#[181])=>`((aF (aP false (aa (gI 1) (aa (fz (gI 1)) ah))) (aq 31 c (aa (ae 0) (aa (gI 2) ah)))))
|`(#[182])=>`((ak P (n+2)))
|`(#[183])=>`((.JoinedStr [.Constant (.str z) j p4,.FormattedValue (.Name y p5) (-1) none p6] p7))
|`(#[184])=>`((ds.map ba.d))
|`(#[185])=>`((Co ha hb I h fun v u s2 x y H2 I2 rx ry q=>ho pins s2 σ H2 x y v u Q I2 rx ry q))
|`(#[186])=>`(((ga Z M).bind fun x M=>(gb Z M).bind fun y M=>#[137].bind fun b M=>.ok (.bl b) M))
|`(#[187])=>`((∃σ' H',Inv X pins σ' H' s₁/\Q σ' H'))
|`(#[188])=>`((wpAny_isInstance (T:="StopIteration") (b:=true) ⟨o,ho,hcl⟩ isSubtype_stop ?_))
|`(#[189])=>`((fun vs H1=>∃μ1,Ext μ H μ1 H1/\RelM fa X.K μ1 H1 M1/\aT fa X.K μ1 H1 ds vs))
|`(#[190])=>`((ag (aR t A aj) rest Z M))
|`(#[191])=>`((.builtin "ValueError.__new__"))
|`(#[192])=>`((.BoolOp .And (a::b::rest) pos))
|`(#[193])=>`((∀b∈fp,H' b=none))
|`(#[194])=>`((.builtin "object.__setattr__"))
|`(#[195])=>`((wpAny_newObj_type #[78] htake))
|`(#[196])=>`((Str×Addr))
|`(#[197])=>`((Builtin.Tuple.tupleItemsOf (.ref t) >>= _))
|`(#[198])=>`((if k=M'.length then some a else μ'.pub k))
|`(#[199])=>`((∀c o,c∉[n,(n+1),(n+2),(n+4),(n+5)]->s.heap.get? c=some o->h'.get? c=some o))
|`(#[200])=>`((PySem.W.fnOf "__init__" qual (gr st) (dw st) (aX st) .none kV doc pm an cdv ct))
|`(#[201])=>`((.body #[4] kE))
|`(#[202])=>`((I.base.free b o e n hx))
|`(#[203])=>`((.BoolOp .Or (a::b::rest) pos))
|`(#[204])=>`((.ref s3.heap.objs.size))
|`(#[205])=>`((by simpa [aA] using hp))
|`(#[206])=>`(((x1.trans x2).trans x3))
|`(#[207])=>`((hs1.extBut _ _ (aI #[0]) hz0))
|`(#[208])=>`((Mp _ (Mp _ (MG _ rfl))))
|`(#[209])=>`((O cl C fp s H))
|`(#[210])=>`((aa (ae 5) ah))
|`(#[211])=>`((a9 0 #[61] a&&a9 1 3 c))
|`(#[212])=>`((fun _ _ _ e=>rfl))
|`(#[213])=>`((boot_heap w.params))
|`(#[214])=>`((false,eval e X.env))
|`(#[215])=>`((.cell M.length))
|`(#[216])=>`((bp fa K μ H Q))
|`(#[217])=>`((hE.ext x1))
|`(#[218])=>`((∀b∈ch,New b/\H b=none/\∃o vs,s.heap.get? b=some o/\o.data=.fields vs))
|`(#[219])=>`((d4 j1_2 p1_2 e1 fun h3 j1_3 hs3=>tqb ?_))
|`(#[220])=>`((.ext (fu C none e)))
|`(#[221])=>`((some (.builtin "type.__getattribute__")))
|`(#[222])=>`(((w:Int)-1))
|`(#[223])=>`((tqa (m:=Builtin.Tuple.tupleExact _) (wpAny_newObj_type (tqb #[78]) htake)))
|`(#[224])=>`((fun _ _ _ _ _=>⟨ds,rfl⟩))
|`(#[225])=>`((fun x y H Q=>∃k,x=.str k/\y=.ref ad/\Q (.bl (!(kvs.lookup k).isSome)) H))
|`(#[226])=>`((upd H' a (.ext (wg C dx a))))
|`(#[227])=>`((aK (aq 0 c (aa (ae 1) (aa (gI 0) (aa (au false .sub (ae 0) (gI 1)) ah))))))
|`(#[228])=>`((by simp;exact ⟨rfl,rfl⟩))
|`(#[229])=>`((ho pins s2 σ H2 x y v u _ I2 r1 r2 q2))
|`(#[230])=>`((∀c o,c∉[n,(n+1),(n+3),(n+4)]->s.heap.get? c=some o->h'.get? c=some o))
|`(#[231])=>`((r.map nD))
|`(#[232])=>`((ag (f6 (ae 0) (gI 2) (au false .fdiv #[35] (ae 1))) (ag (aK (ae 4)) aj)))
|`(#[233])=>`((ag _ aj [some m.d,some (.lst ds),some (.int ((0+j:Nat):Int)),some y] M'))
|`(#[234])=>`((.BoolOp .And (b::rest) pos))
|`(#[235])=>`((wpAny_seqItems hTO1 rfl ?_))
|`(#[236])=>`((i8 hTO3 (by simp) fun h4 hTO4 hs4=>?_))
|`(#[237])=>`((aa (ae 1) #[50]))
|`(#[238])=>`((k==NameKind.free&&env.scope.kind==.function&&env.kindOf n==some .cell))
|`(#[239])=>`((.Call (.Name "list" p1) [.Call (.Name "range" p2) [a] [] pos2] [] pos))
|`(#[240])=>`((excClassObj nm q C N bs bm hdct sn sub ab col dd k0 k1 k2 k3 k5 newId))
|`(#[241])=>`((gC (.int (c:Int))))
|`(#[242])=>`((MQ (MJ e) I.ok.above))
|`(#[243])=>`((bp.ext h1 x1))
|`(#[244])=>`((by rw [z];exact NO _))
|`(#[245])=>`((fun z=>absurd (show 0<0 from z) #[1]))
|`(#[246])=>`((Mw.mp hd))
|`(#[247])=>`((List.range w))
|`(#[248])=>`((.Name x pos))
|`(#[249])=>`((.BoolOp .Or (b::rest) pos))
|`(#[250])=>`((fun b o hb e=>eb b o hb e))
|`(#[251])=>`((wpAny_seqItems hTI rfl ?_))
|`(#[252])=>`((e.N.take e.ps))
|`(#[253])=>`((prs.map pairD))
|`(#[254])=>`((PySem.Str.ofString "turn"))
|`(#[255])=>`((PySem.Str.ofString "join"))
|`(#[256])=>`((PySem.Str.ofString "move"))
|`(#[257])=>`((aa (au false .sub (ae 1) (gI 1)) ah))
|`(#[258])=>`((aP false (aa (aq 72 c (aa (ae 0) (aa (gI 0) (aa (gI 0) ah)))) ah)))
|`(#[259])=>`(("leastdeeds.errors"))
|`(#[260])=>`((fun _=>rfl))
|`(#[261])=>`((pyNext (.ref it)))
|`(#[262])=>`((I1.hok.fresh (My _)))
|`(#[263])=>`((.int xs.length))
|`(#[264])=>`((Value.ref h₁.objs.size))
|`(#[265])=>`((List.replicate n none++Z))
|`(#[266])=>`((aa (ae 7) (aa (ae 8) ah)))
|`(#[267])=>`((PySem.Str.ofString "put"))
|`(#[268])=>`((fun v s1=>wpAny #[2] X.A (pyIter v) (Dt X pins σ tg R) X.xe s1))
|`(#[269])=>`((PySem.W.fnOf name qual params body scope dV kV doc pm an cdv ct))
|`(#[270])=>`((.call (.ref fa) ⟨[.ref a],[]⟩))
|`(#[271])=>`((hs3.extBut _ _ #[5] (k2 c o hc e)))
|`(#[272])=>`((fun c o hc x=>hs2.extBut _ _ #[5] (hs1 _ _ #[5] (k0 c o hc x))))
|`(#[273])=>`((fun c o hc x=>hs4.extBut _ _ #[5] (hs3 _ _ #[5] (k2 c o hc x))))
|`(#[274])=>`((apos.endLine==cpos.line))
|`(#[275])=>`((fun z=>hb (by simp [z])))
|`(#[276])=>`((Value.ref a==Value.none))
|`(#[277])=>`((fB (gD P w) P w K mg base N qual (aX st) ad cdv A outer s H E))
|`(#[278])=>`((.Call (.Attribute (.Name x p1) "__init__" apos) [a,b] [] cpos))
|`(#[279])=>`((blockOf b env c pos [topFrame q]))
|`(#[280])=>`(("__module__"))
|`(#[281])=>`((eval a X.env))
|`(#[282])=>`((.Call (.Name x p) (e::es) [] pos))
|`(#[283])=>`((.builtin id))
|`(#[284])=>`((I.hok.fresh (My _)))
|`(#[285])=>`(((items.size:Int)-1))
|`(#[286])=>`((fun b hb=>⟨(hch b hb).1.1,(hch b hb).2.2,(hch b hb).1.2⟩))
|`(#[287])=>`((cA (R.e g) (a::es)))
|`(#[288])=>`((fun i Z M'=>Sub M M'/\∃a b,Z=[some m.d,some (.lst ds),a,b]))
|`(#[289])=>`(("/claim/cut.py"))
|`(#[290])=>`((mU fa X μ H D'))
|`(#[291])=>`((.ListComp elt [⟨t1,i1,[],0⟩,⟨t2,i2,[],0⟩] scope pos))
|`(#[292])=>`((.tup xs.reverse))
|`(#[293])=>`((aa (ae 1) #[39]))
|`(#[294])=>`((aa (ae 0) #[39]))
|`(#[295])=>`((min b xs.length))
|`(#[296])=>`((bc (he pins s σ H _ I h) fun v s1 ⟨x,H1,I1,r1,q1⟩=>?_))
|`(#[297])=>`((z++(toString i:Str)++y))
|`(#[298])=>`((aw (aL .isN (ae 3) gN)))
|`(#[299])=>`((ds.map fun _=>.bl true))
|`(#[300])=>`((M++[s.map nD]))
|`(#[301])=>`((b7 ha (b7 (jG hgt h1 (v:=.ref D) rfl hdb) eA (by rfl)) he))
|`(#[302])=>`((σ.set i (some v)))
|`(#[303])=>`((X.env.scope.kind==.module&&X.env.locals != X.env.globals))
|`(#[304])=>`((letOwnedTupleGo tg (.ref it) v))
|`(#[305])=>`((fun i Z M'=>M'=M/\∃a b,Z=[some m.d,some (.lst ds),a,b]))
|`(#[306])=>`((assignEach [tg] X.env))
|`(#[307])=>`((by simpa [aA] using h))
|`(#[308])=>`((HT.aS z.cps.size 0 lo))
|`(#[309])=>`((ag (aR (aw (aL .eq #[32] (gC (.str w)))) A aj) rest Z M))
|`(#[310])=>`((Str.ofString d))
|`(#[311])=>`((fun _=>some ds))
|`(#[312])=>`((iu X own bn scope cl C fp s H))
|`(#[313])=>`((Builtin.SmallTypes.ownedTupleIsFree (.ref (n+4)) >>= _))
|`(#[314])=>`((Builtin.SmallTypes.ownedTupleIsFree (.ref (n+5)) >>= _))
|`(#[315])=>`((A.deeper (envOfC qual (aX st) s.heap.objs.size ad cdv)))
|`(#[316])=>`((jG (v:=.ref ad) hg hm rfl hdb))
|`(#[317])=>`((fun x M'=>XW fa X μ H x Z M'))
|`(#[318])=>`((upd H2 d (.xd [(fld,.int i)])))
|`(#[319])=>`((signs allSigns))
|`(#[320])=>`((du (ak P (n+13)) [some m.d,some (.lst ds),none,none] M))
|`(#[321])=>`((bc (hc pins s σ H _ I h) fun d s1 ⟨H1,I1,q1⟩=>?_))
|`(#[322])=>`((aa (aF (ae 0) (fz (gI 1))) (aa (gI 1) (aa (gI 3) ah))))
|`(#[323])=>`((aa (ae 5) (aa (aF (ae 6) (fz (gI 1))) (aa #[162] ah))))
|`(#[324])=>`((k1.trans k2))
|`(#[325])=>`((ag _ _ [some d,some x,some .non,some (.int 0),none] M))
|`(#[326])=>`((cY (ak P (n+6)) [some m.d,some (.lst ds),none,none] M))
|`(#[327])=>`((by simpa using e))
|`(#[328])=>`((X.env.kindOf x=some .cell\/X.env.kindOf x=some .free))
|`(#[329])=>`((.Slice lo hi none p2))
|`(#[330])=>`((c9 X.K H p ys\/dO X.K H p ys))
|`(#[331])=>`((ns.map V.int))
|`(#[332])=>`((cut xs l h))
|`(#[333])=>`((ns.map D.int))
|`(#[334])=>`((List.foldl #[177] #[] (List.replicate x.toNat items)))
|`(#[335])=>`((∀x c,cl.lookup x=some c->env.cells.lookup x=some c))
|`(#[336])=>`((hs3.extBut _ _ (aI #[0]) hz2))
|`(#[337])=>`((slicePart_none (tqa (slicePart_none (tqa (tqb ?_))))))
|`(#[338])=>`((aL .gt #[67] (gI 40)))
|`(#[339])=>`((ag (f6 (ae 0) (gI 2) (aq 28 c (aa (ae 3) #[39]))) aj))
|`(#[340])=>`((dA.any fun y=>bq y x))
|`(#[341])=>`((.tup [.int 4,.int 5]))
|`(#[342])=>`((bA (aM ?_) rfl ⟨rfl,rfl⟩))
|`(#[343])=>`((some (i:Int)))
|`(#[344])=>`((lJ h ha hr_ n hm h1 h2 hL h3))
|`(#[345])=>`((!(Builtin.Str.occurrences j i 0 j.length 1).isEmpty))
|`(#[346])=>`((fB CX P w K mg base N qual scope f cd A outer s H E))
|`(#[347])=>`((wpAny_setField_rec hz6 (by simp) fun h7 hz7 hs7=>?_))
|`(#[348])=>`(((List.range m.words).map fun (k:Nat)=>D.int (k:Int)))
|`(#[349])=>`((importedModules p.main.body))
|`(#[350])=>`((so s.heap b0 a0 b1 a1 b2 a2))
|`(#[351])=>`((.bl (!(fs.lookup k).isSome)))
|`(#[352])=>`((au false .add (ae 2) (gI 1)))
|`(#[353])=>`((au false .mod (au false .add (ae 5) (gI 1)) (ae 2)))
|`(#[354])=>`((aL .notN (aq 90 (ak P (n+6)) (aa (ae 1) #[31])) gN))
|`(#[355])=>`((aM (by simp [kc hw (n+1) (fN hm) #[1] #[1],fv hm])))
abbrev tqa:=@PySem.wpAny_bind
abbrev tqb:=@PySem.wpAny_pure
abbrev tqf:=@PySem.wpAny_field
abbrev tqo:=@PySem.wpAny_holding
abbrev tqp:=@PySem.wpAny_truthy_bool
abbrev Mp:=@PySem.Heap.get?_push_of_some
abbrev Mq:=@PySem.Value
abbrev Mr:=@PySem.W.Frag
abbrev Ms:=@Bool.and_eq_true
abbrev Mw:=@List.getElem?_eq_some_iff
abbrev Mx:=@PySem.Shared
abbrev My:=@Nat.le_refl
abbrev Mz:=@List.mem_cons
abbrev MA:=@Option.some.inj
abbrev MB:=@List.size_toArray
abbrev MC:=@List.all_eq_true
abbrev ME:=@List.mem_cons_of_mem
abbrev MF:=@Nat.le_trans
abbrev MG:=@PySem.Heap.get?_push_size
abbrev MJ:=@PySem.Heap.lt_size
abbrev MK:=@List.not_mem_nil
abbrev MM:=@List.mem_cons_self
abbrev MN:=@List.length_map
abbrev MO:=@List.mem_of_getElem?
abbrev MP:=@PySem.Program
abbrev MQ:=@Nat.lt_of_lt_of_le
abbrev MU:=@List.getElem?_cons_zero
abbrev MY:=@List.getElem?_set_ne
abbrev MZ:=@Option.map_eq_some_iff
abbrev Na:=@PyProof.Rows.slot_tuple_getitem
abbrev Nb:=@List.getElem?_cons_succ
abbrev Nc:=@List.mem_singleton
abbrev Nd:=@PySem.World
abbrev Nf:=@Bool.false_ne_true
abbrev Ng:=@List.getElem?_append_left
abbrev Nh:=@List.mem_append
abbrev Ni:=@Option.some.injEq
abbrev Nj:=@Array.getElem?_eq_some_iff
abbrev Nk:=@Option.getD_some
abbrev Nl:=@Nat.le_of_ble_eq_true
abbrev Nm:=@List.getElem?_map
abbrev Nn:=@List.lookup_cons
abbrev Np:=@PySem.Env
abbrev Nq:=@List.mem_append_right
abbrev Nr:=@PySem.Around
abbrev Nt:=@Nat.ne_of_lt
abbrev Nu:=@List.mem_map
abbrev Nv:=@List.getElem?_set_self
abbrev Nw:=@List.mem_of_mem_take
abbrev Nx:=@List.length_append
abbrev Ny:=@PySem.W.kia_one
abbrev Nz:=@List.getElem_mem
abbrev NA:=@List.getElem?_eq_getElem
abbrev NB:=@List.all_cons
abbrev NC:=@PySem.Heap.get?_update_other
abbrev ND:=@beq_eq_false_iff_ne
abbrev NF:=@PySem.W.SharedT
abbrev NG:=@Iff.rfl
abbrev NH:=@PyProof.Rows.callWith_type1
abbrev NI:=@Nat.ne_of_gt
abbrev NJ:=@PySem.OsState
abbrev NK:=@List.getElem?_append_right
abbrev NL:=@List.getD_eq_getElem?_getD
abbrev NM:=@Ne.symm
abbrev NN:=@PySem.Heap.size_push
abbrev NO:=@Nat.lt_irrefl
abbrev NP:=@Int.emod_lt_of_pos
abbrev NQ:=@Option.bind_eq_some_iff
abbrev NR:=@PySem.Obj.data_mapFields
abbrev NS:=@List.take_succ
abbrev NT:=@List.take_of_length_le
abbrev NU:=@List.exists_of_findSome?_eq_some
abbrev NV:=@PySem.Params
abbrev NW:=@List.nil_append
abbrev NX:=@Int.emod_nonneg
abbrev NY:=@List.getElem?_eq_none
abbrev NZ:=@Option.bind_some
abbrev N0:=@PySem.W.mg_of
abbrev N1:=@PySem.Heap.get?_update_self
abbrev N2:=@List.mem_append_left
abbrev N3:=@List.replicate_succ
abbrev N4:=@List.map_cons
abbrev N5:=@List.length_take
abbrev N6:=@PySem.W.InstAt
abbrev N7:=@Bool.false_eq_true
abbrev N8:=@Bool.eq_iff_iff
abbrev N9:=@List.mem_of_mem_drop
abbrev Oa:=@PySem.F.slot_zip_next
abbrev Ob:=@PySem.IsZip
abbrev Oc:=@PySem.Heap.get?_none_of_le
abbrev Od:=@List.mem_range
abbrev Oe:=@List.getElem?_replicate
abbrev Of:=@List.cons_append
abbrev Og:=@List.set_cons_zero
abbrev Oh:=@List.set_cons_succ
abbrev Oi:=@List.forIn_cons
abbrev Oj:=@Bool.or_eq_true
abbrev Ol:=@List.length_range
abbrev Om:=@List.flatten_cons
abbrev Oo:=@Bool.not_eq_true'
abbrev Oq:=@Nat.zero_le
abbrev Ot:=@Bool.and_eq_true_iff
abbrev Ou:=@PySem.DictEntry
abbrev Ov:=@PySem.Obj.isFreed_of_fields
abbrev Ow:=@Nat.zero_add
abbrev Ox:=@PySem.mem_of_lookup
abbrev Oy:=@List.filterMap_cons
abbrev Oz:=@Int.toNat_of_nonneg
abbrev OA:=@PySem.Paired
abbrev OB:=@PySem.FuncData
abbrev OC:=@PySem.F.slot_tuple_iterator_next
abbrev OD:=@Nat.lt_of_le_of_lt
abbrev OE:=@PySem.W.Looks
abbrev OF:=@PySem.W.kitx_list
abbrev OG:=@PySem.Comprehension
abbrev OH:=@List.map_nil
abbrev OI:=@Function.comp_def
abbrev OJ:=@List.length_replicate
abbrev OK:=@Bool.and_eq_false_iff
abbrev OL:=@List.length_drop
abbrev OM:=@Bool.not_true
abbrev ON:=@Option.map_some
abbrev OO:=@List.getElem?_range
abbrev OP:=@PySem.F.slot_tuple_mul
abbrev OQ:=@PySem.W.callWith_K
abbrev OR:=@PySem.F.excBase_ValueError
abbrev OS:=@List.forIn_nil
abbrev OT:=@List.reverse_cons
abbrev OU:=@Int.toNat_natCast
abbrev OV:=@PySem.Heap.SameBut
abbrev OW:=@PySem.F.args_tuple_add_2
abbrev OX:=@PySem.F.plainAttrs_list
abbrev OY:=@PySem.F.entry_tuple_add
abbrev OZ:=@PySem.Calls.spliced_cons
abbrev O0:=@PySem.Calls.Constant_str
abbrev O1:=@Nat.le_add_right
abbrev O2:=@List.zipIdx_cons
abbrev O3:=@List.length_eq_zero_iff
abbrev O4:=@List.length_cons
abbrev O5:=@beq_iff_eq
abbrev O6:=@PySem.F.slot_tuple_add
abbrev O7:=@PySem.Obj.cls_mapFields
abbrev O8:=@PySem.F.args_zip_next_1
abbrev O9:=@Nat.min_eq_left
abbrev Pa:=@List.zipIdx_nil
abbrev Pb:=@List.nodup_cons
abbrev Pc:=@List.append_nil
abbrev Pd:=@Int.natCast_mul
abbrev Pe:=@List.take_append_drop
abbrev Pf:=@List.length_filter_le
abbrev Ph:=@PySem.W.byRow2
abbrev Pj:=@PySem.NameKind
abbrev Pk:=@PySem.F.entry_zip_next
abbrev Pm:=@PySem.W.looks_mroIn
abbrev Pn:=@List.length_pos_iff
abbrev Po:=@Array.length_toList
abbrev Pp:=@PySem.F.slot_int_rmul
abbrev Pq:=@List.map_take
abbrev Pt:=@PySem.W.isNs_of_in
abbrev Pu:=@PyProof.Rows.AllBare
abbrev Pw:=@List.find?_eq_none
abbrev Px:=@List.findIdx?_eq_some_iff_getElem
abbrev Py:=@List.any_eq_false
namespace HD
open PySem PySem.W
def kS (tb:String->Option Builtin)(p:MP)(w:Nd)(n0:Nat)(ann:Option Mq):Nat->NF->Thread->Option NF
 |0,_,_=>none
 | n + 1, s, t => match through t with
   |true=>some s
   | false => match stepOk n0 ann t with
     |false=>none
     | true => match stepT (denote tb) p w s t with
       |some (s',t')=>kS tb p w n0 ann n s' t'
       |none=>none
theorem qT {tb:String->Option Builtin}{p:MP}{w:Nd}{n0:Nat}{ann:Option Mq}:∀{n:Nat}{s s':NF}{t:Thread},kS tb p w n0 ann n s t=some s'->topRun tb p w n0 ann n s.abs t=some s'.abs
 |0,_,_,_,h=>by cases h
 | n + 1, s, s', t, h => by
   unfold kS at h
   unfold topRun
   cases he:through t with
   |true=>rw [he] at h;cases h;rfl
   | false =>
     rw [he] at h
     cases hk:stepOk n0 ann t with
     |false=>rw [hk] at h;cases h
     | true =>
       rw [hk] at h
       cases hs:stepT (denote tb) p w s t with
       |none=>rw [hs] at h;cases h
       |some r=>obtain ⟨s2,t2⟩:=r;rw [hs] at h;rw [stepT_spec hs];exact qT h
def treeOf:List Obj->Nat->BT->BT
 |[],_,t=>t
 |o::r,n,t=>treeOf r (n+1) (t.ins n o)
def xN (P:NV)(os:NJ):NF:=⟨treeOf (boot_heap P).objs.toList 0 .nil,(boot_heap P).objs.toList.length,(boot_heap P).life,#[],boot_drawn,boot_toks,os⟩
theorem boot_abs (P:NV)(os:NJ):(xN P os).abs=⟨boot_heap P,#[],boot_drawn,boot_toks,os⟩:=by kernel_rfl
def xj (p q:MP)(loose:List Str)(Xt:Mx->Bool)(g0:Bool)(h0:Heap){α:Type}(Yf:Mx->α)(s:Mx):=
 ((staticsOk #[349] h0 s.heap&&namesBound p s.heap&&gensDone s&&laidKept h0 s.heap),openSeen q loose #[349] Xt g0 s,Yf s)
end HD
namespace HD
open PySem PySem.W
def vV (tb:String->Option Builtin)(p:MP)(w:Nd)(n0:Nat)(ann:Option Mq):Nat->NF->Thread->Option (NF×Thread)
 |0,s,t=>some (s,t)
 | n + 1, s, t => match through t with
   |true=>none
   | false => match stepOk n0 ann t with
     |false=>none
     | true => match stepT (denote tb) p w s t with
       |some (s',t')=>vV tb p w n0 ann n s' t'
       |none=>none
def lL (tb:String->Option Builtin)(p:MP)(w:Nd)(n0:Nat)(ann:Option Mq):Nat->NF->Thread->Option (Flow×NF×Code×Pos)
 |0,_,_=>none
 | n + 1, s, t => match endAt 1 t with
   |some f=>some (f,s,t.code,t.pos)
   | none => match stepOk n0 ann t with
     |false=>none
     | true => match stepT (denote tb) p w s t with
       |some (s',t')=>lL tb p w n0 ann n s' t'
       |none=>none
section
variable {tb:String->Option Builtin}{p:MP}{w:Nd}{n0:Nat}{ann:Option Mq}
theorem zL:∀{n:Nat}{s s':NF}{t t':Thread},vV tb p w n0 ann n s t=some (s',t')->topGo tb p w n0 ann n s.abs t=some (s'.abs,t')
 |0,s,s',t,t',h=>by cases h;rfl
 | n + 1, s, s', t, t', h => by
   unfold vV at h
   unfold topGo
   cases he:through t with
   |true=>rw [he] at h;cases h
   | false =>
     rw [he] at h
     cases hk:stepOk n0 ann t with
     |false=>rw [hk] at h;cases h
     | true =>
       rw [hk] at h
       cases hs:stepT (denote tb) p w s t with
       |none=>rw [hs] at h;cases h
       |some q=>obtain ⟨s2,t2⟩:=q;rw [hs] at h;rw [stepT_spec hs];exact zL h
theorem qb:∀{n:Nat}{s s':NF}{t:Thread}{f:Flow}{c:Code}{q:Pos},lL tb p w n0 ann n s t=some (f,s',c,q)->segRun tb p w n0 ann 1 n s.abs t=some (f,s'.abs,c,q)
 |0,_,_,_,_,_,_,h=>by cases h
 | n + 1, s, s', t, f, c, q, h => by
   unfold lL at h
   unfold segRun
   cases he:endAt 1 t with
   |some g=>rw [he] at h;cases h;rfl
   | none =>
     rw [he] at h
     cases hk:stepOk n0 ann t with
     |false=>rw [hk] at h;cases h
     | true =>
       rw [hk] at h
       cases hs:stepT (denote tb) p w s t with
       |none=>rw [hs] at h;cases h
       |some x=>obtain ⟨s2,t2⟩:=x;rw [hs] at h;rw [stepT_spec hs];exact qb h
theorem uK {n3 N:Nat}{s s2:NF}{env:Env}{c:Code}{p' p2 q:Pos}{b:List Stmt}{J:Nat}{α:Type}{f:Mx->α}{a:α}
 (h3:lL tb p w n0 ann n3 s (piecesOf (b.take J) env c p' [topFrame q])=some (.next,s2,c,p2))
 (h4:(topRun tb p w n0 ann N s2.abs (restOf (b.drop J) env c p2 [topFrame q])).map f=some a):(topRun tb p w n0 ann (n3+N) s.abs (restOf b env c p' [topFrame q])).map f=some a:=by
 obtain ⟨r,e3,e4⟩:=MZ.mp h4
 have k4:=piece_app (qb h3) e3
 rw [Pe] at k4
 rw [k4]
 exact congrArg some e4
theorem Cj {N:Nat}{s2:NF}{t:Thread}{α:Type}{f:Mx->α}{a:α}
 (h4:(kS tb p w n0 ann N s2 t).map (fun s=>f s.abs)=some a):(topRun tb p w n0 ann N s2.abs t).map f=some a:=by
 obtain ⟨r,e3,e4⟩:=MZ.mp h4
 rw [qT e3]
 exact congrArg some e4
theorem zX {n1 n2 N:Nat}{s s':NF}{env:Env}{c:Code}{pos p' q:Pos}{t:Thread}{b:List Stmt}{J:Nat}{α:Type}{f:Mx->α}{a:α}
 (h1:(vV tb p w n0 ann n1 s t).map (·.2)=some ⟨denote tb (.body b env),c,pos,[topFrame q]⟩) (h0:endAt 1 #[279]=some .next)
 (h2:((vV tb p w n0 ann n1 s t).bind fun x=>lL tb p w n0 ann n2 x.1 (piecesOf (b.take J) env c pos [topFrame q]))=some (.next,s',c,p'))
 (h3:(topRun tb p w n0 ann N s'.abs (restOf (b.drop J) env c p' [topFrame q])).map f=some a):(topRun tb p w n0 ann (n1+(1+(n2+N))) s.abs t).map f=some a:=by
 obtain ⟨⟨s1,t1⟩,e1,e2⟩:=MZ.mp h1
 have e2:t1=⟨denote tb (.body b env),c,pos,[topFrame q]⟩:=e2
 subst e2
 rw [e1] at h2
 have h2:lL tb p w n0 ann n2 s1 (piecesOf (b.take J) env c pos [topFrame q])=some (.next,s',c,p'):=h2
 obtain ⟨r,e3,e4⟩:=MZ.mp h3
 have k3:=piece_app (qb h2) e3
 rw [Pe] at k3
 have hb:segRun tb p w n0 ann 1 1 s1.abs #[279]=some (.next,s1.abs,c,pos):=by
  show (match endAt 1 #[279] with|some f=>some (f,s1.abs,c,pos)|none=>_)=_
  rw [h0]
 have k2:=piece_block hb k3
 rw [go_top (zL e1) k2]
 exact congrArg some e4
end
theorem vc {p q:MP}{loose:List Str}{Xt:Mx->Bool}{α:Type}{Yf:Mx->α}{Ya:Nd->α}{N:Nat}{g0:Bool}{m0:Nat}{ann:Option Mq}
 (open_:∀w:Nd,(fencedOpening treeTable p w N).map (fun s=>(s.heap,s.gens,s.drawn,s.toks))=some (boot_heap w.params,Array.mk [],boot_drawn,boot_toks))
 (size:∀w:Nd,(#[213].isNs mainGlobals&&(Array.mk ([]:List GenState)).size==0,#[213].objs.size,#[213].nsMap mainGlobals "__annotations__")=(true,m0,ann))
 (run:∀(w:Nd) (os:NJ),(topRun treeTable p w m0 ann N (xN w.params os).abs (topStub p)).map (xj p q loose Xt g0 #[213] Yf)=some (true,openGood q loose,Ya w)):LeftO p q loose Xt Yf Ya N g0:=fun w=>by
 obtain ⟨⟨h,gs,d,k,os⟩,e,e'⟩:=MZ.mp (open_ w)
 obtain ⟨rfl,rfl,rfl,rfl⟩:h=boot_heap w.params/\gs=Array.mk []/\d=boot_drawn/\k=boot_toks:=by simpa using e'
 obtain ⟨z1,z2,z3⟩:_/\_/\_:=by simpa only [Prod.mk.injEq] using size w
 obtain ⟨s1,r,l⟩:=MZ.mp (run w os)
 obtain ⟨l1,l2,l3⟩:_/\_/\_:=by simpa only [xj,Prod.mk.injEq] using l
 rw [boot_abs] at r
 have t:topFrom treeTable p w N ⟨boot_heap w.params,Array.mk [],boot_drawn,boot_toks,os⟩=some s1:=by
  unfold topFrom
  dsimp only
  rw [z1,z2,z3,r]
  show (match staticsOk #[349] #[213] s1.heap&&namesBound p s1.heap&&gensDone s1&&laidKept #[213] s1.heap with|true=>_|false=>_)=_
  rw [l1]
 unfold openEnds
 rw [e]
 show (topFrom treeTable p w N _).map _=_
 rw [t]
 exact congrArg some (Prod.ext l2 l3)
end HD
namespace K12
open PySem
abbrev eN (P:NV)(x:Str)(n:Nat)(v:Mq):Ou:=⟨PyData.keyHash P x,.str x n,v⟩
abbrev d5:String:="law_leastdeeds_k12_rules_that_hold"
def qr (s:Stmt):Stmt:=match s with
 |.ClassDef _ _ _ (b::_) _ _ _ _ _ _ _=>b
 |_=>s
def jn (i:Nat):Stmt:=PySem.Challenge.pw_leastdeeds_k12_rules_that_hold.main.body.getD i (.Pass ⟨0,0,0,0⟩)
def sH (s:Stmt):Arguments:=match s with
 |.FunctionDef _ a _ _ _ _ _ _ _ _=>a
 |_=>⟨[],[],none,[],[],none,[]⟩
def sG (s:Stmt):List Stmt:=match s with
 |.FunctionDef _ _ b _ _ _ _ _ _ _=>b
 |_=>[]
def pC (s:Stmt):Scope:=match s with
 |.FunctionDef _ _ _ _ _ _ sc _ _ _=>sc
 |_=>{kind:=.function,names:=[],isGenerator:=false,isCoroutine:=false}
def o1:Obj:={cls:=.type "tuple" ,data:=.seq #[]}
def o2 (a:String)(b:Nat)(c:Int)(d:Nat)(e:Int):Obj:={cls:=.type "code" ,data:=.fields #[.str #[71] b ,.str #[71] (b+1) ,.str #[289] (b+2) ,.int c 0 ,.int 0 0 ,.int 0 0 ,.int 0 0 ,.int 0 0 ,.ref d ,.bool false ,.int 181 0 ,.ref (d+1) ,.none ,.none ,.none ,.none ,.int e 0 ,.int c 0 ,.str #[289] (b+4)]}
def o3 (a:Nat)(b:Nat)(c:String)(d:Nat):Obj:={cls:=.type "frame" ,slots:=#[some (.ref a) ,some (.ref 3) ,some (.ref b) ,none ,some (.str #[96] d) ,none ,some (.ref 0)]}
def o4:Obj:={cls:=.type "builtin_function_or_method" ,data:=.fields #[.builtin "type.__prepare__" ,.type "type"]}
def o5 (P:NV)(a:Nat)(b:String)(c:Int)(d:Nat):Obj:={cls:=.type "dict" ,data:=.dict #[{hash:=PyData.keyHash P #[280] ,key:=.str #[280] a ,val:=.str #[259] 187} ,{hash:=PyData.keyHash P ("__qualname__") ,key:=.str ("__qualname__") (a+2) ,val:=.str (Str.ofString b) (a+1)} ,{hash:=PyData.keyHash P #[134] ,key:=.str #[134] (a+4) ,val:=.int c (a+3)} ,{hash:=PyData.keyHash P #[123] ,key:=.str #[123] (a+5) ,val:=.ref d}] 4}
def o6:Obj:={cls:=.none ,data:=.fields #[]}
def o7 (P:NV)(a:Nat)(b:Int)(c:String)(d:Nat)(e:Nat)(f:String)(g:Nat)(h:Nat):Obj:={cls:=.type "dict" ,data:=.dict #[{hash:=PyData.keyHash P #[280] ,key:=.str #[280] a ,val:=.str #[259] 187} ,{hash:=PyData.keyHash P #[134] ,key:=.str #[134] (a+4) ,val:=.int b (a+3)} ,{hash:=PyData.keyHash P #[96] ,key:=.str #[96] d ,val:=.ref e} ,{hash:=PyData.keyHash P (Str.ofString f) ,key:=.str (Str.ofString f) (d+2) ,val:=.ref g} ,{hash:=PyData.keyHash P ("__doc__") ,key:=.str ("__doc__") (d+3) ,val:=.none}] h}
def o8 (a:Nat):Obj:={cls:=.type "super" ,data:=.fields #[.ref a ,.ref a ,.ref a]}
def o9 (a:Nat):Obj:={cls:=.type "builtin_function_or_method" ,data:=.fields #[.builtin "object.__init_subclass__" ,.ref a]}
def km:Obj:={cls:=.type "tuple" ,data:=.seq #[.ref 24]}
def Hi (P:NV)(a:Nat)(b:String)(c:Int)(d:Nat):Obj:={cls:=.type "dict" ,data:=.dict #[{hash:=PyData.keyHash P #[280] ,key:=.str #[280] a ,val:=.str #[259] 187} ,{hash:=PyData.keyHash P ("__qualname__") ,key:=.str ("__qualname__") (a+2) ,val:=.str (Str.ofString b) (a+1)} ,{hash:=PyData.keyHash P #[134] ,key:=.str #[134] (a+4) ,val:=.int c (a+3)} ,{hash:=PyData.keyHash P ("__init__") ,key:=.str ("__init__") (a+12) ,val:=.ref d} ,{hash:=PyData.keyHash P #[123] ,key:=.str #[123] (a+14) ,val:=.ref (d+1)}] 5}
def Hh (a:Int)(b:Nat):Obj:={cls:=.none ,data:=.fields #[.int a 0 ,.int 4 0 ,.ref b]}
def nO (a:String)(b:Nat)(c:String):Obj:={cls:=.type "tuple" ,data:=.seq #[.str #[71] b ,.str #[96] (b+1)]}
def Hg (a:String)(b:Nat):Obj:={cls:=.none ,data:=.func {name:="__init__" ,qualname:=Str.ofString a ,params:=sH (qr (jn b)) ,body:=PySem.FuncBody.stmts (sG (qr (jn b))) ,scope:=pC (qr (jn b)) ,globals:=0 ,closure:=[] ,defaults:=.none ,kwdefaults:=.none ,pyModule:=.none ,code:=.none}}
def cL (a:String)(b:Nat)(c:String)(d:Int)(e:Int)(f:Nat)(g:Int)(h:Nat):Obj:={cls:=.type "code" ,data:=.fields #[.str #[71] b ,.str #[96] (b+1) ,.str #[289] (b+2) ,.int d 0 ,.int e 0 ,.int 0 0 ,.int 0 0 ,.int 3 0 ,.ref f ,.bool true ,.int 181 0 ,.ref (f+1) ,.none ,.ref (f+2) ,.ref (f+3) ,.ref (f+4) ,.int g 0 ,.int d 0 ,.str #[289] h]}
def Hf (a:String)(b:Nat)(c:Nat):Obj:={cls:=.type "function" ,data:=.func {name:="__init__" ,qualname:=Str.ofString a ,params:=sH (qr (jn b)) ,body:=PySem.FuncBody.stmts (sG (qr (jn b))) ,scope:=pC (qr (jn b)) ,globals:=3 ,closure:=[] ,defaults:=.none ,kwdefaults:=.none ,pyModule:=.str #[259] 187 ,code:=.ref c}}
def rq (a:String)(b:Nat):Obj:={cls:=.type "tuple" ,data:=.seq #[.str #[71] b]}
def kj (a:String)(b:Nat)(c:Nat)(d:Nat)(e:Nat):Obj:={cls:=.type "type" ,data:=.cls {name:=Str.ofString a ,bases:=[.ref 24] ,mro:=[.ref b ,.ref 24 ,.type "ValueError" ,.type "Exception" ,.type "BaseException" ,.type "object"] ,ns:=c ,qualname:=Str.ofString a} ,slots:=#[some (.ref d) ,none ,some (.str #[71] e) ,some (.str #[71] (e+8)) ,some #[191] ,some #[156]]}
def mB (P:NV)(a:Nat)(b:Int)(c:Nat):Obj:={cls:=.type "dict" ,data:=.dict #[{hash:=PyData.keyHash P #[280] ,key:=.str #[280] a ,val:=.str #[259] 187} ,{hash:=PyData.keyHash P #[134] ,key:=.str #[134] (a+4) ,val:=.int b (a+3)} ,{hash:=PyData.keyHash P #[123] ,key:=.str #[123] (a+5) ,val:=.ref c} ,{hash:=PyData.keyHash P ("__doc__") ,key:=.str ("__doc__") (a+6) ,val:=.none}] 2}
def CW (a:String)(b:Nat)(c:String)(d:String):Obj:={cls:=.type "tuple" ,data:=.seq #[.str #[71] b ,.str #[96] (b+1) ,.str #[310] (b+2)]}
def bS (a:String)(b:Nat):Obj:={cls:=.none ,data:=.func {name:=Str.ofString a ,qualname:=Str.ofString a ,params:=sH (jn b) ,body:=PySem.FuncBody.stmts (sG (jn b)) ,scope:=pC (jn b) ,globals:=0 ,closure:=[] ,defaults:=.none ,kwdefaults:=.none ,pyModule:=.none ,code:=.none}}
def bR (a:String)(b:Nat)(c:String)(d:Nat)(e:Nat):Obj:={cls:=.type "function" ,data:=.func {name:=Str.ofString a ,qualname:=Str.ofString a ,params:=sH (jn b) ,body:=PySem.FuncBody.stmts (sG (jn b)) ,scope:=pC (jn b) ,globals:=3 ,closure:=[] ,defaults:=.none ,kwdefaults:=.none ,pyModule:=.str #[96] d ,code:=.ref e}}
def iC (a:String)(b:Nat)(c:Int)(d:Int)(e:Nat)(f:Int):Obj:={cls:=.type "code" ,data:=.fields #[.str #[71] b ,.str #[71] (b+1) ,.str #[289] (b+2) ,.int c 0 ,.int d 0 ,.int 0 0 ,.int 0 0 ,.int 3 0 ,.ref e ,.bool true ,.int 181 0 ,.ref (e+1) ,.none ,.none ,.none ,.ref (e+2) ,.int f 0 ,.int c 0 ,.str #[289] (b+4)]}
def rn (a:String)(b:Nat)(c:String)(d:String)(e:String)(f:String)(g:String):Obj:={cls:=.type "tuple" ,data:=.seq #[.str #[71] b ,.str #[96] (b+1) ,.str #[310] (b+2) ,.str (Str.ofString e) (b+3) ,.str (Str.ofString f) (b+4) ,.str (Str.ofString g) (b+5)]}
def Ks (a:String)(b:Nat)(c:String)(d:String):Obj:={cls:=.type "tuple" ,data:=.seq #[.str #[71] b ,.str #[96] (b+1) ,.str #[310] (b+2) ,.str ("at") (b+3) ,.str ("other") (b+4) ,.str ("table") (b+5) ,.str ("price") (b+6)]}
def Kr (P:NV)(a:Nat)(b:Nat):Obj:={cls:=.type "dict" ,data:=.dict #[{hash:=PyData.keyHash P ("turn") ,key:=.str ("turn") a ,val:=.ref b} ,{hash:=PyData.keyHash P ("join") ,key:=.str ("join") (a+1) ,val:=.ref (b+7)} ,{hash:=PyData.keyHash P ("move") ,key:=.str ("move") (a+2) ,val:=.ref (b+14)} ,{hash:=PyData.keyHash P ("put") ,key:=.str ("put") (a+3) ,val:=.ref (b+21)}] 4}
def vJ (a:String)(b:Nat)(c:String)(d:String)(e:String)(f:String):Obj:={cls:=.type "tuple" ,data:=.seq #[.str #[71] b ,.str #[96] (b+1) ,.str #[310] (b+2) ,.str (Str.ofString e) (b+3) ,.str (Str.ofString f) (b+4)]}
def ub (a:String)(b:Nat)(c:String)(d:String)(e:String):Obj:={cls:=.type "tuple" ,data:=.seq #[.str #[71] b ,.str #[96] (b+1) ,.str #[310] (b+2) ,.str (Str.ofString e) (b+3)]}
def Kq (a:String)(b:Nat)(c:String)(d:String)(e:String)(f:String)(g:String)(h:String)(i:String):Obj:={cls:=.type "tuple" ,data:=.seq #[.str #[71] b ,.str #[96] (b+1) ,.str #[310] (b+2) ,.str (Str.ofString e) (b+3) ,.str (Str.ofString f) (b+4) ,.str (Str.ofString g) (b+5) ,.str (Str.ofString h) (b+6) ,.str (Str.ofString i) (b+7)]}
def o30:Obj:={cls:=.type "type" ,data:=.cls {name:="DeedError" ,bases:=[.type "ValueError"] ,mro:=[.ref 24 ,.type "ValueError" ,.type "Exception" ,.type "BaseException" ,.type "object"] ,ns:=23 ,qualname:="DeedError" ,subclasses:=[.ref 44 ,.ref 63 ,.ref 82 ,.ref 94 ,.ref 106 ,.ref 118 ,.ref 130 ,.ref 142 ,.ref 154 ,.ref 166 ,.ref 178 ,.ref 190 ,.ref 202 ,.ref 214]} ,slots:=#[some (.ref 15) ,none ,some (.str ("DeedError") 189) ,some (.str ("DeedError") 197) ,some #[191] ,some #[156]]}
def Kw (P:NV):List Ou:=[eN P "__doc__" 166 (.none),eN P "__package__" 167 (.none),eN P "__loader__" 168 (.builtin "__main__.__loader__#opaque"),eN P "__spec__" 169 (.none),eN P "__annotations__" 170 (.ref 6),eN P "__builtins__" 171 (.ref 4),eN P "__file__" 173 (.str "/claim/cut.py" 172),eN P "__cached__" 174 (.none),eN P "DeedError" 206 (.ref 24),eN P "NoRow" 231 (.ref 44),eN P "NoRule" 256 (.ref 63),eN P "NoStep" 281 (.ref 82),eN P "NoMachine" 297 (.ref 94),eN P "TooLong" 313 (.ref 106),eN P "NoWord" 329 (.ref 118),eN P "NoWork" 345 (.ref 130)]
def Kv (P:NV):List Ou:=Kw P++[eN P "NoBound" 361 (.ref 142),eN P "TooMany" 377 (.ref 154),eN P "NoPlace" 393 (.ref 166),eN P "NoDeed" 409 (.ref 178),eN P "Nothing" 425 (.ref 190),eN P "NoText" 441 (.ref 202),eN P "NoLine" 457 (.ref 214),eN P "is_between" 468 (.ref 223),eN P "LEAST_WORDS" 472 (.int 2 471),eN P "MOST_WORDS" 474 (.int 4 473),eN P "MOST_PLACES" 476 (.int 2 475),eN P "MOST_DEEDS" 478 (.int 6 477),eN P "MOST_COST" 480 (.int 3 479),eN P "LONGEST_ROW" 482 (.int 40 481),eN P "is_word" 490 (.ref 230),eN P "is_place" 498 (.ref 237),eN P "is_cost" 505 (.ref 244),eN P "is_tuple_of" 513 (.ref 251),eN P "is_table" 519 (.ref 256),eN P "is_double_table" 525 (.ref 261),eN P "is_turn" 537 (.ref 268),eN P "is_join" 550 (.ref 275),eN P "is_move" 562 (.ref 282),eN P "is_put" 574 (.ref 289),eN P "SORTS" 583 (.ref 290)]
noncomputable def Ku (P:NV):List Ou:=Kv P++[eN P "is_deed" 594 (.ref 297),eN P "is_machine" 600 (.ref 302),eN P "need_machine" 607 (.ref 309),eN P "beginnings" 613 (.ref 314),eN P "is_deed_number" 621 (.ref 321),eN P "need_numbers" 631 (.ref 328),eN P "need_row" 639 (.ref 335),eN P "turned" 653 (.ref 342),eN P "joined" 666 (.ref 349),eN P "moved" 678 (.ref 356),eN P "put_in" 690 (.ref 363),eN P "NEW_WORDS" 699 (.ref 364),eN P "done" 709 (.ref 371),eN P "all_standing" 720 (.ref 378),eN P "ends_of" 726 (.ref 383),eN P "behaviour" 734 (.ref 390),eN P "parted" 750 (.ref 397),eN P "is_row" 758 (.ref 404),eN P "is_rule" 768 (.ref 411),eN P "need_rules" 778 (.ref 418),eN P "_law_spread" 792 (.ref 425),eN P "_law_open" 802 (.ref 432),eN P "_law_anew" 809 (.ref 439),eN P "_law_take" 820 (.ref 446),eN P "_law_sign_but" 826 (.ref 451),eN P "_law_any_sign" 833 (.ref 458),eN P "_law_signed" 842 (.ref 465),eN P "_law_is_whole" 849 (.ref 472),eN P "_law_same" 855 (.ref 477),eN P "_law_tab" 861 (.ref 482),eN P "_law_deed" 867 (.ref 487),eN P "_law_machine" 881 (.ref 494),eN P "_law_row" 887 (.ref 499),eN P "_law_after" 897 (.ref 506),eN P "_law_begins" 903 (.ref 511),eN P "_law_ends" 914 (.ref 518),eN P "_law_is_in" 923 (.ref 525),eN P "_law_numbers" 929 (.ref 530),eN P "_law_is_deed" 935 (.ref 535),eN P "_law_is_machine" 941 (.ref 540),eN P "_law_row_due" 951 (.ref 547),eN P "_law_bent" 966 (.ref 554),eN P "_law_refusal" 975 (.ref 561),eN P "_law_alike_pairs" 981 (.ref 566),eN P "_law_unlike_pair" 992 (.ref 573),eN P "_law_copied" 998 (.ref 578),eN P "_law_told" 1009 (.ref 585),eN P "_law_due" 1015 (.ref 590),eN P "_law_odd_rule" 1027 (.ref 597)]
def kg3 (P:NV):List Ou:=Ku P++[eN P "law" 1033 (.ref 602)]
noncomputable def Kz (P:NV):List Obj:=[o1,
 {cls:=.none,data:=.fields #[.int 2 0,.int 0 0,.ref 20,.int 4 0,.int 0 0,.ref 33,.int 9 0,.int 0 0,.ref 52,.int 14 0,.int 0 0,.ref 71,.int 19 0,.int 0 0,.ref 90,.int 21 0,.int 0 0,.ref 102,.int 23 0,.int 0 0,.ref 114,.int 25 0,.int 0 0,.ref 126]},
 o2 "<module>" 182 1 11 185,
 o3 13 3 "__main__" 164,
 {cls:=.type "tuple",data:=.seq #[.type "ValueError"]},
 o4,
 o5 P 196 "DeedError" 2 22,
 o1,
 o6,
 o2 "DeedError" 191 2 18 194,
 o3 20 17 "leastdeeds.errors" 187,
 o1,
 o7 P 196 2 "__static_attributes__" 201 22 "__weakref__" 25 3,
 {cls:=.type "type",data:=.cls {name:="DeedError",bases:=[.type "ValueError"],mro:=[.ref 24,.type "ValueError",.type "Exception",.type "BaseException",.type "object"],ns:=23,qualname:="DeedError",subclasses:=[.ref 44,.ref 63,.ref 82,.ref 94,.ref 106,.ref 118,.ref 130]},slots:=#[some (.ref 15),none,some (.str "DeedError" 189),some (.str "DeedError" 197),some #[191],some #[156]]},
 {cls:=.type "getset_descriptor",data:=.fields #[.str "__weakref__" 202,.ref 24,.builtin "ExceptionGroup.__weakref__",.none]},
 o8 24,
 o9 24,
 km,
 o4,
 Hi P 214 "NoRow" 4 41,
 o1,
 Hh 6 40,
 o2 "NoRow" 209 4 31 212,
 o3 33 30 "leastdeeds.errors" 187,
 o1,
 o6,
 nO "self" 222 "place",
 o1,
 Hg "NoRow.__init__" 2,
 cL "__init__" 219 "NoRow.__init__" 6 2 35 224 225,
 Hf "NoRow.__init__" 2 40,
 rq "place" 227,
 o7 P 214 4 "__init__" 226 41 "__static_attributes__" 42 2,
 kj "NoRow" 44 43 28 207,
 o8 44,
 o9 44,
 km,
 o4,
 Hi P 239 "NoRule" 9 60,
 o1,
 Hh 11 59,
 o2 "NoRule" 234 9 50 237,
 o3 52 49 "leastdeeds.errors" 187,
 o1,
 o6,
 nO "self" 247 "number",
 o1,
 Hg "NoRule.__init__" 3,
 cL "__init__" 244 "NoRule.__init__" 11 2 54 249 250,
 Hf "NoRule.__init__" 3 59,
 rq "number" 252,
 o7 P 239 9 "__init__" 251 60 "__static_attributes__" 61 2,
 kj "NoRule" 63 62 47 232,
 o8 63,
 o9 63,
 km,
 o4,
 Hi P 264 "NoStep" 14 79,
 o1,
 Hh 16 78,
 o2 "NoStep" 259 14 69 262,
 o3 71 68 "leastdeeds.errors" 187,
 o1,
 o6,
 nO "self" 272 "place",
 o1,
 Hg "NoStep.__init__" 4,
 cL "__init__" 269 "NoStep.__init__" 16 2 73 274 275,
 Hf "NoStep.__init__" 4 78,
 rq "place" 277,
 o7 P 264 14 "__init__" 276 79 "__static_attributes__" 80 2,
 kj "NoStep" 82 81 66 257,
 o8 82,
 o9 82,
 km,
 o4,
 o5 P 289 "NoMachine" 19 92,
 o1,
 o6,
 o2 "NoMachine" 284 19 88 287,
 o3 90 87 "leastdeeds.errors" 187,
 o1,
 mB P 289 19 92,
 kj "NoMachine" 94 93 85 282,
 o8 94,
 o9 94,
 km,
 o4,
 o5 P 305 "TooLong" 21 104,
 o1,
 o6,
 o2 "TooLong" 300 21 100 303,
 o3 102 99 "leastdeeds.errors" 187,
 o1,
 mB P 305 21 104,
 kj "TooLong" 106 105 97 298,
 o8 106,
 o9 106,
 km,
 o4,
 o5 P 321 "NoWord" 23 116,
 o1,
 o6,
 o2 "NoWord" 316 23 112 319,
 o3 114 111 "leastdeeds.errors" 187,
 o1,
 mB P 321 23 116,
 kj "NoWord" 118 117 109 314,
 o8 118,
 o9 118,
 km,
 o4,
 o5 P 337 "NoWork" 25 128,
 o1,
 o6,
 o2 "NoWork" 332 25 124 335,
 o3 126 123 "leastdeeds.errors" 187,
 o1,
 mB P 337 25 128,
 kj "NoWork" 130 129 121 330,
 o8 130,
 o9 130]
noncomputable def Ky (P:NV):List Obj:=(((Kz P).set 1 ({cls:=.none,data:=.fields #[.int 2 0,.int 0 0,.ref 20,.int 4 0,.int 0 0,.ref 33,.int 9 0,.int 0 0,.ref 52,.int 14 0,.int 0 0,.ref 71,.int 19 0,.int 0 0,.ref 90,.int 21 0,.int 0 0,.ref 102,.int 23 0,.int 0 0,.ref 114,.int 25 0,.int 0 0,.ref 126,.int 27 0,.int 0 0,.ref 138,.int 29 0,.int 0 0,.ref 150,.int 31 0,.int 0 0,.ref 162,.int 33 0,.int 0 0,.ref 174,.int 35 0,.int 0 0,.ref 186,.int 37 0,.int 0 0,.ref 198,.int 39 0,.int 0 0,.ref 210,.int 42 0,.int 0 0,.ref 222,.int 53 0,.int 0 0,.ref 229,.int 55 0,.int 0 0,.ref 236,.int 57 0,.int 0 0,.ref 243,.int 59 0,.int 0 0,.ref 250,.int 61 0,.int 0 0,.ref 255,.int 63 0,.int 0 0,.ref 260,.int 65 0,.int 0 0,.ref 267,.int 70 0,.int 0 0,.ref 274,.int 77 0,.int 0 0,.ref 281,.int 82 0,.int 0 0,.ref 288]})).set 13 (o30))++[km,
 o4,
 o5 P 353 "NoBound" 27 140,
 o1,
 o6,
 o2 "NoBound" 348 27 136 351,
 o3 138 135 "leastdeeds.errors" 187,
 o1,
 mB P 353 27 140,
 kj "NoBound" 142 141 133 346,
 o8 142,
 o9 142,
 km,
 o4,
 o5 P 369 "TooMany" 29 152,
 o1,
 o6,
 o2 "TooMany" 364 29 148 367,
 o3 150 147 "leastdeeds.errors" 187,
 o1,
 mB P 369 29 152,
 kj "TooMany" 154 153 145 362,
 o8 154,
 o9 154,
 km,
 o4,
 o5 P 385 "NoPlace" 31 164,
 o1,
 o6,
 o2 "NoPlace" 380 31 160 383,
 o3 162 159 "leastdeeds.errors" 187,
 o1,
 mB P 385 31 164,
 kj "NoPlace" 166 165 157 378,
 o8 166,
 o9 166,
 km,
 o4,
 o5 P 401 "NoDeed" 33 176,
 o1,
 o6,
 o2 "NoDeed" 396 33 172 399,
 o3 174 171 "leastdeeds.errors" 187,
 o1,
 mB P 401 33 176,
 kj "NoDeed" 178 177 169 394,
 o8 178,
 o9 178,
 km,
 o4,
 o5 P 417 "Nothing" 35 188,
 o1,
 o6,
 o2 "Nothing" 412 35 184 415,
 o3 186 183 "leastdeeds.errors" 187,
 o1,
 mB P 417 35 188,
 kj "Nothing" 190 189 181 410,
 o8 190,
 o9 190,
 km,
 o4,
 o5 P 433 "NoText" 37 200,
 o1,
 o6,
 o2 "NoText" 428 37 196 431,
 o3 198 195 "leastdeeds.errors" 187,
 o1,
 mB P 433 37 200,
 kj "NoText" 202 201 193 426,
 o8 202,
 o9 202,
 km,
 o4,
 o5 P 449 "NoLine" 39 212,
 o1,
 o6,
 o2 "NoLine" 444 39 208 447,
 o3 210 207 "leastdeeds.errors" 187,
 o1,
 mB P 449 39 212,
 kj "NoLine" 214 213 205 442,
 o8 214,
 o9 214,
 o1,
 o6,
 CW "thing" 463 "low" "high",
 o1,
 bS "is_between" 17,
 cL "is_between" 460 "is_between" 42 3 217 466 467,
 bR "is_between" 17 "leastdeeds.wholes" 458 222,
 o1,
 o6,
 nO "words" 486 "thing",
 o1,
 bS "is_word" 25,
 cL "is_word" 483 "is_word" 53 2 224 488 489,
 bR "is_word" 25 "leastdeeds.machines" 469 229,
 o1,
 o6,
 nO "places" 494 "thing",
 o1,
 bS "is_place" 26,
 cL "is_place" 491 "is_place" 55 2 231 496 497,
 bR "is_place" 26 "leastdeeds.machines" 469 236,
 o1,
 o6,
 rq "thing" 502,
 o1,
 bS "is_cost" 27,
 cL "is_cost" 499 "is_cost" 57 1 238 503 504,
 bR "is_cost" 27 "leastdeeds.machines" 469 243,
 o1,
 o6,
 nO "long" 509 "thing",
 o1,
 bS "is_tuple_of" 28,
 cL "is_tuple_of" 506 "is_tuple_of" 59 2 245 511 512,
 bR "is_tuple_of" 28 "leastdeeds.machines" 469 250,
 o1,
 o6,
 bS "is_table" 29,
 iC "is_table" 514 61 2 252 517,
 bR "is_table" 29 "leastdeeds.machines" 469 255,
 o1,
 o6,
 bS "is_double_table" 30,
 iC "is_double_table" 520 63 2 257 523,
 bR "is_double_table" 30 "leastdeeds.machines" 469 260,
 o1,
 o6,
 rn "words" 529 "places" "parts" "at" "table" "price",
 o1,
 bS "is_turn" 31,
 cL "is_turn" 526 "is_turn" 65 3 262 535 536,
 bR "is_turn" 31 "leastdeeds.machines" 469 267,
 o1,
 o6,
 Ks "words" 541 "places" "parts",
 o1,
 bS "is_join" 32,
 cL "is_join" 538 "is_join" 70 3 269 548 549,
 bR "is_join" 32 "leastdeeds.machines" 469 274,
 o1,
 o6,
 rn "words" 554 "places" "parts" "at" "other" "price",
 o1,
 bS "is_move" 33,
 cL "is_move" 551 "is_move" 77 3 276 560 561,
 bR "is_move" 33 "leastdeeds.machines" 469 281,
 o1,
 o6,
 rn "words" 566 "places" "parts" "at" "word" "price",
 o1,
 bS "is_put" 34,
 cL "is_put" 563 "is_put" 82 3 283 572 573,
 bR "is_put" 34 "leastdeeds.machines" 469 288,
 Kr P 575 268]
noncomputable def Kx (P:NV):List Obj:=((Ky P).set 1 ({cls:=.none,data:=.fields #[.int 2 0,.int 0 0,.ref 20,.int 4 0,.int 0 0,.ref 33,.int 9 0,.int 0 0,.ref 52,.int 14 0,.int 0 0,.ref 71,.int 19 0,.int 0 0,.ref 90,.int 21 0,.int 0 0,.ref 102,.int 23 0,.int 0 0,.ref 114,.int 25 0,.int 0 0,.ref 126,.int 27 0,.int 0 0,.ref 138,.int 29 0,.int 0 0,.ref 150,.int 31 0,.int 0 0,.ref 162,.int 33 0,.int 0 0,.ref 174,.int 35 0,.int 0 0,.ref 186,.int 37 0,.int 0 0,.ref 198,.int 39 0,.int 0 0,.ref 210,.int 42 0,.int 0 0,.ref 222,.int 53 0,.int 0 0,.ref 229,.int 55 0,.int 0 0,.ref 236,.int 57 0,.int 0 0,.ref 243,.int 59 0,.int 0 0,.ref 250,.int 61 0,.int 0 0,.ref 255,.int 63 0,.int 0 0,.ref 260,.int 65 0,.int 0 0,.ref 267,.int 70 0,.int 0 0,.ref 274,.int 77 0,.int 0 0,.ref 281,.int 82 0,.int 0 0,.ref 288,.int 88 0,.int 0 0,.ref 296,.int 96 0,.int 0 0,.ref 301,.int 105 0,.int 0 0,.ref 308,.int 108 0,.int 0 0,.ref 313,.int 115 0,.int 0 0,.ref 320,.int 117 0,.int 0 0,.ref 327,.int 123 0,.int 0 0,.ref 334,.int 129 0,.int 0 0,.ref 341,.int 132 0,.int 0 0,.ref 348,.int 135 0,.int 0 0,.ref 355,.int 138 0,.int 0 0,.ref 362,.int 142 0,.int 0 0,.ref 370,.int 146 0,.int 0 0,.ref 377,.int 151 0,.int 0 0,.ref 382,.int 153 0,.int 0 0,.ref 389,.int 157 0,.int 0 0,.ref 396,.int 164 0,.int 0 0,.ref 403,.int 170 0,.int 0 0,.ref 410,.int 175 0,.int 0 0,.ref 417,.int 181 0,.int 0 0,.ref 424,.int 190 0,.int 0 0,.ref 431,.int 195 0,.int 0 0,.ref 438,.int 198 0,.int 0 0,.ref 445,.int 211 0,.int 0 0,.ref 450,.int 216 0,.int 0 0,.ref 457,.int 218 0,.int 0 0,.ref 464,.int 221 0,.int 0 0,.ref 471,.int 223 0,.int 0 0,.ref 476,.int 237 0,.int 0 0,.ref 481,.int 253 0,.int 0 0,.ref 486,.int 265 0,.int 0 0,.ref 493,.int 276 0,.int 0 0,.ref 498,.int 283 0,.int 0 0,.ref 505,.int 295 0,.int 0 0,.ref 510,.int 299 0,.int 0 0,.ref 517,.int 306 0,.int 0 0,.ref 524,.int 308 0,.int 0 0,.ref 529,.int 312 0,.int 0 0,.ref 534,.int 330 0,.int 0 0,.ref 539,.int 336 0,.int 0 0,.ref 546,.int 345 0,.int 0 0,.ref 553,.int 362 0,.int 0 0,.ref 560,.int 378 0,.int 0 0,.ref 565,.int 386 0,.int 0 0,.ref 572,.int 393 0,.int 0 0,.ref 577,.int 395 0,.int 0 0,.ref 584,.int 403 0,.int 0 0,.ref 589,.int 412 0,.int 0 0,.ref 596]}))++[o1,
 o6,
 vJ "words" 587 "places" "thing" "sort" "is_sort",
 o1,
 bS "is_deed" 36,
 cL "is_deed" 584 "is_deed" 88 3 291 592 593,
 bR "is_deed" 36 "leastdeeds.machines" 469 296,
 o1,
 o6,
 bS "is_machine" 37,
 iC "is_machine" 595 96 1 298 598,
 bR "is_machine" 37 "leastdeeds.machines" 469 301,
 o1,
 o6,
 rq "thing" 604,
 o1,
 bS "need_machine" 38,
 cL "need_machine" 601 "need_machine" 105 1 303 605 606,
 bR "need_machine" 38 "leastdeeds.machines" 469 308,
 o1,
 o6,
 bS "beginnings" 39,
 iC "beginnings" 608 108 1 310 611,
 bR "beginnings" 39 "leastdeeds.machines" 469 313,
 o1,
 o6,
 nO "machine" 617 "thing",
 o1,
 bS "is_deed_number" 40,
 cL "is_deed_number" 614 "is_deed_number" 115 2 315 619 620,
 bR "is_deed_number" 40 "leastdeeds.machines" 469 320,
 o1,
 o6,
 ub "machine" 625 "row" "place" "thing",
 o1,
 bS "need_numbers" 41,
 cL "need_numbers" 622 "need_numbers" 117 2 322 629 630,
 bR "need_numbers" 41 "leastdeeds.machines" 469 327,
 o1,
 o6,
 nO "machine" 635 "row",
 o1,
 bS "need_row" 42,
 cL "need_row" 632 "need_row" 123 2 329 637 638,
 bR "need_row" 42 "leastdeeds.machines" 469 334,
 o1,
 o6,
 rn "deed" 645 "standing" "sort" "at" "table" "price",
 o1,
 bS "turned" 44,
 cL "turned" 642 "turned" 129 2 336 651 652,
 bR "turned" 44 "leastdeeds.runs" 640 341,
 o1,
 o6,
 Ks "deed" 657 "standing" "sort",
 o1,
 bS "joined" 45,
 cL "joined" 654 "joined" 132 2 343 664 665,
 bR "joined" 45 "leastdeeds.runs" 640 348,
 o1,
 o6,
 rn "deed" 670 "standing" "sort" "at" "other" "price",
 o1,
 bS "moved" 46,
 cL "moved" 667 "moved" 135 2 350 676 677,
 bR "moved" 46 "leastdeeds.runs" 640 355,
 o1,
 o6,
 rn "deed" 682 "standing" "sort" "at" "word" "price",
 o1,
 bS "put_in" 47,
 cL "put_in" 679 "put_in" 138 2 357 688 689,
 bR "put_in" 47 "leastdeeds.runs" 640 362,
 Kr P 691 342,
 o1,
 o6,
 ub "deed" 703 "standing" "new_word" "at",
 o1,
 bS "done" 49,
 cL "done" 700 "done" 142 2 365 707 708,
 bR "done" 49 "leastdeeds.runs" 640 370,
 o1,
 o6,
 vJ "machine" 713 "row" "beginning" "standings" "number",
 o1,
 bS "all_standing" 50,
 cL "all_standing" 710 "all_standing" 146 3 372 718 719,
 bR "all_standing" 50 "leastdeeds.runs" 640 377,
 o1,
 o6,
 bS "ends_of" 51,
 iC "ends_of" 721 151 2 379 724,
 bR "ends_of" 51 "leastdeeds.runs" 640 382,
 o1,
 o6,
 nO "machine" 730 "row",
 o1,
 bS "behaviour" 52,
 cL "behaviour" 727 "behaviour" 153 2 384 732 733,
 bR "behaviour" 52 "leastdeeds.runs" 640 389,
 o1,
 o6,
 Kq "machine" 740 "one" "other" "one_ends" "other_ends" "start" "one_end" "other_end",
 o1,
 bS "parted" 54,
 cL "parted" 737 "parted" 157 3 391 748 749,
 bR "parted" 54 "leastdeeds.alike" 735 396,
 o1,
 o6,
 nO "machine" 754 "thing",
 o1,
 bS "is_row" 55,
 cL "is_row" 751 "is_row" 164 2 398 756 757,
 bR "is_row" 55 "leastdeeds.alike" 735 403,
 o1,
 o6,
 ub "machine" 762 "thing" "one" "other",
 o1,
 bS "is_rule" 56,
 cL "is_rule" 759 "is_rule" 170 2 405 766 767,
 bR "is_rule" 56 "leastdeeds.alike" 735 410,
 o1,
 o6,
 ub "machine" 772 "rules" "number" "rule",
 o1,
 bS "need_rules" 57,
 cL "need_rules" 769 "need_rules" 175 2 412 776 777,
 bR "need_rules" 57 "leastdeeds.alike" 735 417,
 o1,
 o6,
 rn "cell" 784 "at" "primes" "one" "two" "three",
 o1,
 bS "_law_spread" 59,
 cL "_law_spread" 781 "_law_spread" 181 2 419 790 791,
 bR "_law_spread" 59 d5 779 424,
 o1,
 o6,
 ub "script" 796 "cells" "k" "cell",
 o1,
 bS "_law_open" 60,
 cL "_law_open" 793 "_law_open" 190 1 426 800 801,
 bR "_law_open" 60 d5 779 431,
 o1,
 o6,
 rq "pen" 806,
 o1,
 bS "_law_anew" 61,
 cL "_law_anew" 803 "_law_anew" 195 1 433 807 808,
 bR "_law_anew" 61 d5 779 438,
 o1,
 o6,
 vJ "pen" 813 "many" "at" "cell" "found",
 o1,
 bS "_law_take" 62,
 cL "_law_take" 810 "_law_take" 198 2 440 818 819,
 bR "_law_take" 62 d5 779 445,
 o1,
 o6,
 bS "_law_sign_but" 63,
 iC "_law_sign_but" 821 211 2 447 824,
 bR "_law_sign_but" 63 d5 779 450,
 o1,
 o6,
 rq "pen" 830,
 o1,
 bS "_law_any_sign" 64,
 cL "_law_any_sign" 827 "_law_any_sign" 216 1 452 831 832,
 bR "_law_any_sign" 64 d5 779 457,
 o1,
 o6,
 CW "pen" 837 "text" "at",
 o1,
 bS "_law_signed" 65,
 cL "_law_signed" 834 "_law_signed" 218 2 459 840 841,
 bR "_law_signed" 65 d5 779 464,
 o1,
 o6,
 rq "thing" 846,
 o1,
 bS "_law_is_whole" 66,
 cL "_law_is_whole" 843 "_law_is_whole" 221 1 466 847 848,
 bR "_law_is_whole" 66 d5 779 471,
 o1,
 o6,
 bS "_law_same" 67,
 iC "_law_same" 850 223 2 473 853,
 bR "_law_same" 67 d5 779 476,
 o1,
 o6,
 bS "_law_tab" 68,
 iC "_law_tab" 856 237 2 478 859,
 bR "_law_tab" 68 d5 779 481,
 o1,
 o6,
 bS "_law_deed" 69,
 iC "_law_deed" 862 253 3 483 865,
 bR "_law_deed" 69 d5 779 486,
 o1,
 o6,
 Kq "pen" 871 "words" "places" "most" "deeds" "k" "again" "deed",
 o1,
 bS "_law_machine" 70,
 cL "_law_machine" 868 "_law_machine" 265 4 488 879 880,
 bR "_law_machine" 70 d5 779 493,
 o1,
 o6,
 bS "_law_row" 71,
 iC "_law_row" 882 276 3 495 885,
 bR "_law_row" 71 d5 779 498,
 o1,
 o6,
 ub "deed" 891 "end" "here" "own",
 o1,
 bS "_law_after" 72,
 cL "_law_after" 888 "_law_after" 283 2 500 895 896,
 bR "_law_after" 72 d5 779 505,
 o1,
 o6,
 bS "_law_begins" 73,
 iC "_law_begins" 898 295 1 507 901,
 bR "_law_begins" 73 d5 779 510,
 o1,
 o6,
 vJ "machine" 907 "row" "found" "end" "number",
 o1,
 bS "_law_ends" 74,
 cL "_law_ends" 904 "_law_ends" 299 2 512 912 913,
 bR "_law_ends" 74 d5 779 517,
 o1,
 o6,
 CW "thing" 918 "low" "high",
 o1,
 bS "_law_is_in" 75,
 cL "_law_is_in" 915 "_law_is_in" 306 3 519 921 922,
 bR "_law_is_in" 75 d5 779 524,
 o1,
 o6,
 bS "_law_numbers" 76,
 iC "_law_numbers" 924 308 4 526 927,
 bR "_law_numbers" 76 d5 779 529,
 o1,
 o6,
 bS "_law_is_deed" 77,
 iC "_law_is_deed" 930 312 3 531 933,
 bR "_law_is_deed" 77 d5 779 534,
 o1,
 o6,
 bS "_law_is_machine" 78,
 iC "_law_is_machine" 936 330 1 536 939,
 bR "_law_is_machine" 78 d5 779 539,
 o1,
 o6,
 ub "machine" 945 "row" "place" "number",
 o1,
 bS "_law_row_due" 79,
 cL "_law_row_due" 942 "_law_row_due" 336 2 541 949 950,
 bR "_law_row_due" 79 d5 779 546,
 o1,
 o6,
 {cls:=.type "tuple",data:=.seq #[.str "pen" 955,.str "thing" 956,.str "deep" 957,.str "kind" 958,.str "pick" 959,.str "number" 960,.str "at" 961,.str "odd" 962,.str "some" 963]},
 o1,
 bS "_law_bent" 80,
 cL "_law_bent" 952 "_law_bent" 345 3 548 964 965,
 bR "_law_bent" 80 d5 779 553,
 o1,
 o6,
 CW "caught" 970 "some" "words",
 o1,
 bS "_law_refusal" 81,
 cL "_law_refusal" 967 "_law_refusal" 362 1 555 973 974,
 bR "_law_refusal" 81 d5 779 560,
 o1,
 o6,
 bS "_law_alike_pairs" 82,
 iC "_law_alike_pairs" 976 378 2 562 979,
 bR "_law_alike_pairs" 82 d5 779 565,
 o1,
 o6,
 vJ "pen" 985 "machine" "k" "one" "other",
 o1,
 bS "_law_unlike_pair" 83,
 cL "_law_unlike_pair" 982 "_law_unlike_pair" 386 2 567 990 991,
 bR "_law_unlike_pair" 83 d5 779 572,
 o1,
 o6,
 bS "_law_copied" 84,
 iC "_law_copied" 993 393 1 574 996,
 bR "_law_copied" 84 d5 779 577,
 o1,
 o6,
 vJ "machine" 1002 "rules" "caught" "found" "e",
 o1,
 bS "_law_told" 85,
 cL "_law_told" 999 "_law_told" 395 2 579 1007 1008,
 bR "_law_told" 85 d5 779 584,
 o1,
 o6,
 bS "_law_due" 86,
 iC "_law_due" 1010 403 2 586 1013,
 bR "_law_due" 86 d5 779 589,
 o1,
 o6,
 rn "pen" 1019 "machine" "way" "one" "at" "found",
 o1,
 bS "_law_odd_rule" 87,
 cL "_law_odd_rule" 1016 "_law_odd_rule" 412 2 591 1025 1026,
 bR "_law_odd_rule" 87 d5 779 596]
def kh:NV->Mr:=fun P=>[(2,{cls:=.none,data:=.dict #[]}),
 (3,{cls:=.type "dict",data:=.dict (eN P "__name__" 165 (.str d5 779)::kg3 P).toArray 92}),
 (601,iC "law" 1028 425 1 598 1031),
 (602,bR "law" 88 d5 779 601)]++List.map (fun a=>(a,(Kx P).getD (a-11) o1)) [23,24,40,41,43,44,59,60,62,63,81,82,93,94,105,106,117,118,129,130,141,142,153,154,165,166,177,178,189,190,201,202,213,214,222,223,229,230,236,237,243,244,250,251,255,256,260,261,267,268,274,275,281,282,288,289,290,296,297,301,302,308,309,313,314,320,321,327,328,334,335,341,342,348,349,355,356,362,363,364,370,371,377,378,382,383,389,390,396,397,403,404,410,411,417,418,424,425,431,432,438,439,445,446,450,451,457,458,464,465,471,472,476,477,481,482,486,487,493,494,498,499,505,506,510,511,517,518,524,525,529,530,534,535,539,540,546,547,553,554,560,561,565,566,572,573,577,578,584,585,589,590,596,597]
def Hz:List Addr:=[2,3,601,602]++[23,24,40,41,43,44,59,60,62,63,81,82,93,94,105,106,117,118,129,130,141,142,153,154,165,166,177,178,189,190,201,202,213,214,222,223,229,230,236,237,243,244,250,251,255,256,260,261,267,268,274,275,281,282,288,289,290,296,297,301,302,308,309,313,314,320,321,327,328,334,335,341,342,348,349,355,356,362,363,364,370,371,377,378,382,383,389,390,396,397,403,404,410,411,417,418,424,425,431,432,438,439,445,446,450,451,457,458,464,465,471,472,476,477,481,482,486,487,493,494,498,499,505,506,510,511,517,518,524,525,529,530,534,535,539,540,546,547,553,554,560,561,565,566,572,573,577,578,584,585,589,590,596,597]
theorem Lv:∀P,Hz=(kh P).map (·.1):=fun _=>by kernel_rfl
def kq:MP:=PySem.W.view PySem.Challenge.pw_leastdeeds_k12_rules_that_hold [1,2,3,4,5,6,7,8,9,10,11,12,13,14,15,17,19,20,21,22,23,24,25,26,27,28,29,30,31,32,33,34,35,36,37,38,39,40,41,42,44,45,46,47,48,49,50,51,52,54,55,56,57,59,60,61,62,63,64,65,66,67,68,69,70,71,72,73,74,75,76,77,78,79,80,81,82,83,84,85,86,87,88]
abbrev kH:PySem.W.Hook:=PySem.W.kHook kh Hz Lv
def pB:List Str:=["SORTS","NEW_WORDS"]
abbrev xt:=PySem.Challenge.rw_leastdeeds_k12_rules_that_hold.row
abbrev kX:Mx->Bool:=fun s=>PySem.W.xlAt kq [] s&&PySem.W.recOk (PySem.W.RowW.records xt.toRowW) s
def C9 (P:NV)(os:NJ):NF:=⟨HD.treeOf ((((PySem.W.boot_heap P).objs.toList.set 3 ({cls:=.type "dict",data:=.dict (eN P "__name__" 165 (.str "leastdeeds.errors" 187)::Kw P).toArray 17})))++Kz P) 0 .nil,133,{},#[],{},346,os⟩
def C8 (P:NV)(os:NJ):NF:=⟨HD.treeOf ((((PySem.W.boot_heap P).objs.toList.set 3 ({cls:=.type "dict",data:=.dict (eN P "__name__" 165 (.str "leastdeeds.machines" 469)::Kv P).toArray 42})))++Ky P) 0 .nil,291,{},#[],{},584,os⟩
def C7 (P:NV)(os:NJ):NF:=⟨HD.treeOf ((((PySem.W.boot_heap P).objs.toList.set 3 ({cls:=.type "dict",data:=.dict (eN P "__name__" 165 (.str d5 779)::Ku P).toArray 91})))++Kx P) 0 .nil,598,{},#[],{},1028,os⟩
def kE:Env:={scope:=PySem.Challenge.pw_leastdeeds_k12_rules_that_hold.main.scope,locals:=mainNs,globals:=mainNs,cells:=[],code:=.ref 13,frame:=some 14}
def kP (w:Nd)(os:NJ):=HD.vV treeTable PySem.Challenge.pw_leastdeeds_k12_rules_that_hold w 11 (some (.ref 6)) 12 (HD.xN w.params os) (PySem.W.topStub PySem.Challenge.pw_leastdeeds_k12_rules_that_hold)
def C6 (w:Nd)(os:NJ):=(kP w os).bind fun x=>HD.lL treeTable PySem.Challenge.pw_leastdeeds_k12_rules_that_hold w 11 (some (.ref 6)) 1783 x.1 (PySem.W.piecesOf (#[4].take 9) kE #[201] ⟨0,0,0,0⟩ [PySem.W.topFrame ⟨0,0,0,0⟩])
def C3 (w:Nd)(os:NJ):Option (Flow×NF×Code×Pos):=some (.next,C9 w.params os,#[201],⟨25,0,26,8⟩)
def C5 (w:Nd)(os:NJ):=HD.lL treeTable PySem.Challenge.pw_leastdeeds_k12_rules_that_hold w 11 (some (.ref 6)) 1977 (C9 w.params os) (PySem.W.piecesOf ((#[4].drop 9).take 27) kE #[201] ⟨25,0,26,8⟩ [PySem.W.topFrame ⟨0,0,0,0⟩])
def C1 (w:Nd)(os:NJ):Option (Flow×NF×Code×Pos):=some (.next,C8 w.params os,#[201],⟨87,0,87,5⟩)
def C4 (w:Nd)(os:NJ):=HD.lL treeTable PySem.Challenge.pw_leastdeeds_k12_rules_that_hold w 11 (some (.ref 6)) 1557 (C8 w.params os) (PySem.W.piecesOf (((#[4].drop 9).drop 27).take 52) kE #[201] ⟨87,0,87,5⟩ [PySem.W.topFrame ⟨0,0,0,0⟩])
def C0 (w:Nd)(os:NJ):Option (Flow×NF×Code×Pos):=some (.next,C7 w.params os,#[201],⟨412,0,424,90⟩)
def kR (w:Nd)(os:NJ):=(HD.kS treeTable PySem.Challenge.pw_leastdeeds_k12_rules_that_hold w 11 (some (.ref 6)) 5476 (C7 w.params os) (PySem.W.restOf (((#[4].drop 9).drop 27).drop 52) kE #[201] ⟨412,0,424,90⟩ [PySem.W.topFrame ⟨0,0,0,0⟩])).map fun s=>HD.xj PySem.Challenge.pw_leastdeeds_k12_rules_that_hold kq pB kX true (PySem.W.boot_heap w.params) (fun s=>Hz.map s.heap.get?) s.abs
def kG (w:Nd):=some (true,PySem.W.openGood kq pB,(kh w.params).map fun p=>some p.2)
def _root_.PySem.W.Fast.tw9690949461866578230:MP:=PySem.Challenge.pw_leastdeeds_k12_rules_that_hold
theorem _root_.PySem.W.Fast.te9690949461866578230:PySem.Challenge.pw_leastdeeds_k12_rules_that_hold=PySem.W.Fast.tw9690949461866578230:=rfl
def _root_.PySem.W.Fast.tw7218829874013591153:NV->Mr:=K12.kh
theorem _root_.PySem.W.Fast.te7218829874013591153:K12.kh=PySem.W.Fast.tw7218829874013591153:=rfl
def _root_.PySem.W.Fast.tw16079908458713031982:NV->NJ->NF:=K12.C9
theorem _root_.PySem.W.Fast.te16079908458713031982:K12.C9=PySem.W.Fast.tw16079908458713031982:=rfl
def _root_.PySem.W.Fast.tw10296002958304378808:NV->NJ->NF:=K12.C8
theorem _root_.PySem.W.Fast.te10296002958304378808:K12.C8=PySem.W.Fast.tw10296002958304378808:=rfl
def _root_.PySem.W.Fast.tw12872713374967936883:NV->NJ->NF:=K12.C7
theorem _root_.PySem.W.Fast.te12872713374967936883:K12.C7=PySem.W.Fast.tw12872713374967936883:=rfl
theorem kRs:kR=kR:=rfl
name_quick kq12 for kR by kRs
theorem kGs:kG=kG:=rfl
name_quick kg12 for kG by kGs
theorem LC:C6=C6:=rfl
name_quick kua12 for C6 by LC
theorem Ly:C3=C3:=rfl
name_quick kva12 for C3 by Ly
theorem LA:C5=C5:=rfl
name_quick kub12 for C5 by LA
theorem Lx:C1=C1:=rfl
name_quick kvb12 for C1 by Lx
theorem Lz:C4=C4:=rfl
name_quick kuc12 for C4 by Lz
theorem Lw:C0=C0:=rfl
name_quick kvc12 for C0 by Lw
theorem zD:∀(w:Nd) (os:NJ),PySem.W.Fast.kua12 #[28] os=PySem.W.Fast.kva12 #[28] os:=fun w os=>by kernel_rfl
theorem BU:∀(w:Nd) (os:NJ),PySem.W.Fast.kua12 #[33] os=PySem.W.Fast.kva12 #[33] os:=fun w os=>by kernel_rfl
theorem ka0:∀(w:Nd) (os:NJ),C6 w os=C3 w os:=fun w os=>by
 rw [PySem.W.Fast.kua12_eq,PySem.W.Fast.kva12_eq]
 exact Ph "special-get-raises" (P:=fun w=>PySem.W.Fast.kua12 w os=PySem.W.Fast.kva12 w os) (fun w=>zD w os) (fun w=>BU w os) w
theorem zC:∀(w:Nd) (os:NJ),PySem.W.Fast.kub12 #[28] os=PySem.W.Fast.kvb12 #[28] os:=fun w os=>by kernel_rfl
theorem BS:∀(w:Nd) (os:NJ),PySem.W.Fast.kub12 #[33] os=PySem.W.Fast.kvb12 #[33] os:=fun w os=>by kernel_rfl
theorem ka1:∀(w:Nd) (os:NJ),C5 w os=C1 w os:=fun w os=>by
 rw [PySem.W.Fast.kub12_eq,PySem.W.Fast.kvb12_eq]
 exact Ph "special-get-raises" (P:=fun w=>PySem.W.Fast.kub12 w os=PySem.W.Fast.kvb12 w os) (fun w=>zC w os) (fun w=>BS w os) w
theorem zB:∀(w:Nd) (os:NJ),PySem.W.Fast.kuc12 #[28] os=PySem.W.Fast.kvc12 #[28] os:=fun w os=>by kernel_rfl
theorem BR:∀(w:Nd) (os:NJ),PySem.W.Fast.kuc12 #[33] os=PySem.W.Fast.kvc12 #[33] os:=fun w os=>by kernel_rfl
theorem ka2:∀(w:Nd) (os:NJ),C4 w os=C0 w os:=fun w os=>by
 rw [PySem.W.Fast.kuc12_eq,PySem.W.Fast.kvc12_eq]
 exact Ph "special-get-raises" (P:=fun w=>PySem.W.Fast.kuc12 w os=PySem.W.Fast.kvc12 w os) (fun w=>zB w os) (fun w=>BR w os) w
theorem BQ:∀(w:Nd) (os:NJ),PySem.W.Fast.kq12 #[28] os=PySem.W.Fast.kg12 #[28]:=fun w os=>by kernel_rfl
theorem E1:∀(w:Nd) (os:NJ),PySem.W.Fast.kq12 #[33] os=PySem.W.Fast.kg12 #[33]:=fun w os=>by kernel_rfl
theorem kl:∀(w:Nd) (os:NJ),kR w os=kG w:=fun w os=>by
 rw [PySem.W.Fast.kq12_eq,PySem.W.Fast.kg12_eq]
 exact Ph "special-get-raises" (P:=fun w=>PySem.W.Fast.kq12 w os=PySem.W.Fast.kg12 w) (fun w=>BQ w os) (fun w=>E1 w os) w
theorem kp:∀(w:Nd) (os:NJ),(kP w os).map (·.2)=some ⟨denote treeTable #[201],#[201],⟨0,0,0,0⟩,[PySem.W.topFrame ⟨0,0,0,0⟩]⟩:=fun w os=>by kernel_rfl
theorem JC:PySem.W.LeftO xt.prog kq pB kX kH.obs kH.val 10806:=HD.vc (m0:=11) (ann:=some (.ref 6)) (PySem.W.boot_open (by rfl) #[1] #[260]) (fun w=>by kernel_rfl) fun w os=>HD.zX (J:=9) (kp w os) #[14] (ka0 w os) (HD.uK (J:=27) (ka1 w os) (HD.uK (J:=52) (ka2 w os) (HD.Cj (kl w os))))
end K12
namespace L2
open PySem PySem.Spec PyProof.Rows
abbrev Key:=Sum Int Str
def sF:Key->Mq->Bool
 |.inl k,v=>Value.isInt k v
 |.inr x,v=>Value.isStrOf x v
def Lu (w:Nd):Key->Int
 |.inl k=>hashInt k
 |.inr x=>hashStr w x
theorem dE:∀{k:Key}{v:Mq},sF k v=true->(∃i t,k=Sum.inl i/\v=Value.int i t)\/(∃x t,k=Sum.inr x/\v=Value.str x t)
 | .inl i, v, h => by
   obtain ⟨t,e⟩:=Value.isInt_shape (k:=i) (v:=v) h
   exact .inl ⟨i,t,rfl,e⟩
 | .inr x, v, h => by
   obtain ⟨t,e⟩:=Value.isStrOf_shape (x:=x) (v:=v) h
   exact .inr ⟨x,t,rfl,e⟩
theorem ko (x:Str)(t:Tok):sF (.inr x) (.str x t)=true:=by simp [sF,Value.isStrOf]
theorem Hy (a b:Int):decide ((Sum.inl a:Key)=Sum.inl b)=(a==b):=by
 by_cases e:a=b
 ·subst e;simp
 ·have h:¬ (Sum.inl a:Key)=Sum.inl b:=fun q=>e (Sum.inl.inj q)
  rw [decide_eq_false h]
  exact (ND.mpr e).symm
theorem Hv (a b:Str):decide ((Sum.inr a:Key)=Sum.inr b)=decide (a=b):=by
 by_cases e:a=b
 ·subst e;simp
 ·have h:¬ (Sum.inr a:Key)=Sum.inr b:=fun q=>e (Sum.inr.inj q)
  rw [decide_eq_false h,decide_eq_false e]
theorem Hx (a:Int)(b:Str):decide ((Sum.inl a:Key)=Sum.inr b)=false:=decide_eq_false (fun q=>nomatch q)
theorem Hw (a:Str)(b:Int):decide ((Sum.inr a:Key)=Sum.inl b)=false:=decide_eq_false (fun q=>nomatch q)
def kW (prog:MP)(w:Nd):PySem.KeyKind prog w Key where
 is:=sF
 hash:=Lu w
 inj:=fun v a b ha hb=>by
  rcases dE ha with ⟨i,t,rfl,rfl⟩|⟨x,t,rfl,rfl⟩
  ·rcases dE hb with ⟨j,u,rfl,e⟩|⟨y,u,rfl,e⟩
   ·injection e with e1 _;rw [e1]
   ·exact nomatch e
  ·rcases dE hb with ⟨j,u,rfl,e⟩|⟨y,u,rfl,e⟩
   ·exact nomatch e
   ·injection e with e1 _;rw [e1]
 byValue:=fun k v h=>by
  rcases dE h with ⟨i,t,rfl,rfl⟩|⟨x,t,rfl,rfl⟩<;>rfl
 pyHash:=fun hv h=>by
  rcases dE hv with ⟨i,t,rfl,rfl⟩|⟨x,t,rfl,rfl⟩
  ·exact wpAny_pyHash_int h
  ·exact wpAny_pyHash_str h
 eqBool:=fun hu hv h=>by
  rcases dE hu with ⟨i,t,rfl,rfl⟩|⟨x,t,rfl,rfl⟩
  ·rcases dE hv with ⟨j,u,rfl,rfl⟩|⟨y,u,rfl,rfl⟩
   ·rw [Hy] at h;exact wpAny_eqBool_int h
   ·rw [Hx] at h;exact SeqAt.EqAt.int_str i t y u _ _ _ _ h
  ·rcases dE hv with ⟨j,u,rfl,rfl⟩|⟨y,u,rfl,rfl⟩
   ·rw [Hw] at h;exact SeqAt.EqAt.str_int x t j u _ _ _ _ h
   ·rw [Hv] at h;exact wpAny_eqBool_str h
 «strs»:=fun k x t v h=>by
  rcases dE h with ⟨i,u,rfl,e⟩|⟨y,u,rfl,e⟩
  ·exact nomatch e
  ·injection e with e1 _
   subst e1
   cases v<;>rfl
end L2
namespace L2
open PySem PySem.Spec PyProof.Rows
inductive V where
 |non|bl (b:Bool)|int (i:Int)|str (x:Str)|byt (b:Array UInt8)|flt (b:UInt64)|ref (a:Addr)|ty (n:String)
 deriving DecidableEq
def RelV:V->Mq->Prop
 |.non,u=>u=Value.none
 |.bl b,u=>u=Value.bool b
 |.int i,u=>∃t,u=Value.int i t
 |.str x,u=>∃t,u=Value.str x t
 |.byt b,u=>∃t,u=Value.bytes b t
 |.flt b,u=>∃t,u=Value.float b t
 |.ref a,u=>u=Value.ref a
 |.ty n,u=>u=Value.type n
abbrev Vals:List V->List Mq->Prop:=OA RelV
theorem Vals.length {xs:List V}{us:List Mq}(r:Vals xs us):xs.length=us.length:=Paired.length r
theorem Vals.get:∀{xs:List V}{us:List Mq}{i:Nat}{x:V},Vals xs us->xs[i]?=some x->∃u,us[i]?=some u/\RelV x u
 |_,_,_,_,.nil,e=>by simp at e
 |_,_,0,_,.cons r _,e=>by simp at e;subst e;exact ⟨_,rfl,r⟩
 | _, _, i + 1, x, .cons _ t, e => by
   obtain ⟨u,h1,h2⟩:=Vals.get (i:=i) (x:=x) t #[327]
   exact ⟨u,by simpa using h1,h2⟩
theorem Vals.set {x:V}{u:Mq}(r:RelV x u):∀{xs:List V}{us:List Mq} (i:Nat),Vals xs us->Vals (xs.set i x) (us.set i u)
 |_,_,_,.nil=>.nil
 |_,_,0,.cons _ t=>.cons r t
 |_,_,i+1,.cons q t=>.cons q (Vals.set r i t)
theorem Vals.append:∀{xs ys:List V}{us ws:List Mq},Vals xs us->Vals ys ws->Vals (xs++ys) (us++ws)
 |_,_,_,_,.nil,s=>s
 |_,_,_,_,.cons r t,s=>.cons r (Vals.append t s)
theorem Vals.take:∀{xs:List V}{us:List Mq} (n:Nat),Vals xs us->Vals (xs.take n) (us.take n)
 |_,_,0,_=>.nil
 |_,_,_+1,.nil=>.nil
 |_,_,n+1,.cons r t=>.cons r (Vals.take n t)
theorem Vals.drop:∀{xs:List V}{us:List Mq} (n:Nat),Vals xs us->Vals (xs.drop n) (us.drop n)
 |_,_,0,r=>r
 |_,_,_+1,.nil=>.nil
 |_,_,n+1,.cons _ t=>Vals.drop n t
def qN:Option V->Option Mq->Prop
 |some v,some u=>RelV v u
 |none,none=>True
 |_,_=>False
def KV {κ:Type}:List (κ×V)->List (κ×Mq)->Prop:=OA fun (p:κ×V) (q:κ×Mq)=>p.1=q.1/\RelV p.2 q.2
def kV:Key->V
 |.inl i=>.int i
 |.inr x=>.str x
inductive HO where
 |lst (xs:List V)
 |tup (xs:List V)
 |dK (kvs:List (Key×V))|dT (kvs:List (List Key×V))
 |set (S:Int->Bool) (n:Nat)
 |ins (C dx:Addr) (fs:List (Str×V))
 |own (x:Addr)
 |xd (fs:List (Str×V))
 |met (f x:Addr)
 |rng (lo hi:Int)
 |frz (o:Obj) (u:HO)
 |tbl (ps:Array Mq)
 |ext (φ:Heap->Prop)
abbrev Hp:=Addr->Option HO
def upd (H:Hp)(a:Addr)(o:HO):Hp:=fun b=>if b=a then some o else H b
theorem bV {H:Hp}{a:Addr}{o:HO}:upd H a o a=some o:=by unfold upd;rw [if_pos rfl]
theorem aO {H:Hp}{a b:Addr}{o:HO}(h:b≠a):upd H a o b=H b:=by unfold upd;rw [if_neg h]
theorem bg {H:Hp}{a b:Addr}{o:HO}(h:H a=some o)(h':H b=none):a≠b:=by
 intro e;subst e;rw [h] at h';cases h'
section
variable (P:MP)(w:Nd)
def dg (H:Hp)(h:Heap)(a:Addr):HO->Prop
 |.lst xs=>xs.length<=sizeLine/\∃(its:List Mq) (n:Nat),Vals xs its/\h.get? a=some {cls:=.type "list",data:=.seq its.toArray n}
 |.tup xs=>xs.length<=sizeLine/\∃its:List Mq,Vals xs its/\IsTup h a its.toArray
 |.dK kvs=>kvs.length<=sizeLine/\(a==sysModules)=false/\∃vs,KV kvs vs/\h.DictOf (kW P w) a vs
 |.dT kvs=>kvs.length<=sizeLine/\(a==sysModules)=false/\∃xs:List (List Key×Addr×Mq),
  OA (fun (p:List Key×V) (q:List Key×Addr×Mq)=>p.1=q.1/\H q.2.1=some (.tup (p.1.map kV))/\RelV p.2 q.2.2) kvs xs/\
  ∃o es ep,h.get? a=some o/\o.ExactDict/\o.data=.dict es ep/\es.toList=xs.map (entryOfKey (tupleKind (kW P w)))/\(xs.map (·.1)).Nodup
 |.set S n=>h.SetOf (intKind P w) a S n
 |.ins C dx fs=>H dx=some (.own a)/\fs.length<=1000/\dx≠a/\h.get? a=some (PySem.W.instObj C dx)/\
  ∃mA,h.Ns1 dx mA/\(∀f,qN (fs.lookup f) (mA f))/\PySem.Within mA (fs.map (·.1))
 |.own _=>∃o,h.get? a=some o
 |.xd fs=>∃mA,h.Ns1 a mA/\∀f,qN (fs.lookup f) (mA f)
 |.rng lo hi=>∃t u v,h.get? a=some {cls:=.type "range",data:=.fields #[.int lo t,.int hi u,.int 1 v]}
 |.frz o u=>h.get? a=some o/\dg H h a u
 |.tbl ps=>h.get? a=some {cls:=.none,data:=.fields ps}
 |.met f x=>h.get? a=some (PySem.W.methodObj (.ref f) (.ref x))
 |.ext φ=>φ h/\(∃o,h.get? a=some o)/\∀h1 h2:Heap,φ h1->(∀o,h1.get? a=some o->h2.get? a=some o)->φ h2
def eY (H:Hp)(h:Heap):Prop:=∀a o,H a=some o->dg P w H h a o
end
section
variable {P:MP}{w:Nd}{H H':Hp}{h h':Heap}{a:Addr}{o:HO}
theorem dg.lt (x:dg P w H h a o):a<h.objs.size:=by
 cases o with
 |lst xs=>obtain ⟨_,_,_,_,e⟩:=x;exact MJ e
 |tup xs=>obtain ⟨_,_,_,p⟩:=x;exact p.lt
 |dK kvs=>obtain ⟨_,_,_,_,o,_,_,e,_⟩:=x;exact MJ e
 |dT kvs=>obtain ⟨_,_,_,_,o,_,_,e,_⟩:=x;exact MJ e
 |set S n=>obtain ⟨o,_,_,_,e,_⟩:=x;exact MJ e
 |ins C dx fs=>obtain ⟨_,_,_,e,_⟩:=x;exact MJ e
 |own y=>obtain ⟨_,e⟩:=x;exact MJ e
 |xd fs=>obtain ⟨_,⟨_,_,_,e,_⟩,_⟩:=x;exact MJ e
 |rng lo hi=>obtain ⟨_,_,_,e⟩:=x;exact MJ e
 |frz ob u=>obtain ⟨e,_⟩:=x;exact MJ e
 |tbl ps=>exact MJ (show h.get? a=some _ from x)
 |met f y=>exact MJ (show h.get? a=some _ from x)
 |ext φ=>obtain ⟨_,⟨_,e⟩,_⟩:=x;exact MJ e
theorem OA.mapP {α β:Type}{F G:α->β->Prop}:∀{l₁:List α}{l₂:List β},OA F l₁ l₂->(∀a b,F a b->G a b)->OA G l₁ l₂
 |_,_,.nil,_=>.nil
 |_,_,.cons r t,f=>.cons (f _ _ r) (OA.mapP t f)
theorem dg.stay (x:dg P w H h a o)(k:∀b u,(b=a\/H b=some (.own a))->h.get? b=some u->h'.get? b=some u)
 (ho:∀b,H b=some (.own a)->H' b=some (.own a)) (ht:∀b xs,H b=some (.tup xs)->H' b=some (.tup xs)):dg P w H' h' a o:=by
 induction o with
 |lst xs=>obtain ⟨z,its,n,r,e⟩:=x;exact ⟨z,its,n,r,k _ _ #[131] e⟩
 |tup xs=>obtain ⟨z,its,r,ob,e,c⟩:=x;exact ⟨z,its,r,ob,k _ _ #[131] e,c⟩
 |dK kvs=>obtain ⟨z,y,vs,r,ob,es,ep,e,c⟩:=x;exact ⟨z,y,vs,r,ob,es,ep,k _ _ #[131] e,c⟩
 | dT kvs =>
   obtain ⟨z,y,xs,r,ob,es,ep,e,c⟩:=x
   exact ⟨z,y,xs,OA.mapP r fun p q z=>⟨z.1,ht _ _ z.2.1,z.2.2⟩,ob,es,ep,k _ _ #[131] e,c⟩
 |set S n=>obtain ⟨ob,es,ep,t,e,c⟩:=x;exact ⟨ob,es,ep,t,k _ _ #[131] e,c⟩
 | ins C dx fs =>
   obtain ⟨d,z,ne,e,mA,⟨od,es,ep,e2,c⟩,r⟩:=x
   exact ⟨ho _ d,z,ne,k _ _ #[131] e,mA,⟨od,es,ep,k _ _ (.inr d) e2,c⟩,r⟩
 |own y=>obtain ⟨ob,e⟩:=x;exact ⟨ob,k _ _ #[131] e⟩
 |xd fs=>obtain ⟨mA,⟨od,es,ep,e,c⟩,r⟩:=x;exact ⟨mA,⟨od,es,ep,k _ _ #[131] e,c⟩,r⟩
 |rng lo hi=>obtain ⟨t,u,v,e⟩:=x;exact ⟨t,u,v,k _ _ #[131] e⟩
 |frz ob u ih=>obtain ⟨e,q⟩:=x;exact ⟨k _ _ #[131] e,ih q⟩
 | tbl ps =>
   have e:h.get? a=some {cls:=.none,data:=.fields ps}:=x
   show h'.get? a=some {cls:=.none,data:=.fields ps}
   exact k a _ #[131] e
 | met f y =>
   have e:h.get? a=some (PySem.W.methodObj (.ref f) (.ref y)):=x
   show h'.get? a=some (PySem.W.methodObj (.ref f) (.ref y))
   exact k a _ #[131] e
 |ext φ=>obtain ⟨p,⟨o,e⟩,st⟩:=x;exact ⟨st _ _ p fun o q=>k _ _ #[131] q,⟨o,k _ _ #[131] e⟩,st⟩
theorem eY.lt (x:eY P w H h)(e:H a=some o):a<h.objs.size:=(x a o e).lt
theorem eY.fresh (x:eY P w H h)(e:h.objs.size<=a):H a=none:=by
 cases q:H a with
 |none=>rfl
 |some u=>exact absurd (MQ (x.lt q) e) (NO _)
theorem eY.kept (x:eY P w H h)(k:∀b u,h.get? b=some u->h'.get? b=some u):eY P w H h':=fun a o e=>
 (x a o e).stay (fun b u _ q=>k b u q) (fun _ q=>q) fun _ _ q=>q
theorem eY.laid (x:eY P w H h)(k:∀b u,h.get? b=some u->h'.get? b=some u)(hp:h.objs.size<=a)(new:dg P w (upd H a o) h' a o):eY P w (upd H a o) h':=fun b u e=>by
 have hn:=x.fresh hp
 by_cases hb:b=a
 ·subst hb;rw [bV] at e;cases e;exact new
 ·rw [aO hb] at e
  exact (x b u e).stay (fun c v _ q=>k c v q) (fun c q=>by rw [aO (bg q hn)];exact q) fun c xs q=>by rw [aO (bg q hn)];exact q
end
def Rd (H:Hp)(a:Addr)(u:HO):Prop:=H a=some u\/∃o,H a=some (.frz o u)
theorem Rd.ok {P:MP}{w:Nd}{H:Hp}{h:Heap}{a:Addr}{u:HO}(r:Rd H a u)(x:eY P w H h):dg P w H h a u:=by
 rcases r with r|⟨o,r⟩
 ·exact x a u r
 ·obtain ⟨_,q⟩:=x a _ r
  exact q
def Du:Option HO->Prop
 |some (.lst _)=>True
 |some (.dK _)=>True
 |some (.dT _)=>True
 |some (.set _ _)=>True
 |some (.ins _ _ _)=>True
 |some (.ext _)=>True
 |_=>False
section
variable {P:MP}{w:Nd}{H:Hp}{h h':Heap}{x e:Addr}{o':HO}
theorem eY.write (ok:eY P w H h)(mu:Du (H x))(he:e=x\/H e=some (.own x))(k:∀b u,b≠e->h.get? b=some u->h'.get? b=some u)(heo:∃u,h'.get? e=some u)
 (new:dg P w (upd H x o') h' x o'):eY P w (upd H x o') h':=fun b u q=>by
 have nown:∀c y,H c=some (.own y)->c≠x:=fun c y r z=>by subst z;rw [r] at mu;exact mu
 have ntup:∀c xs,H c=some (.tup xs)->c≠x:=fun c xs r z=>by subst z;rw [r] at mu;exact mu
 by_cases hb:b=x
 ·subst hb;rw [bV] at q;cases q;exact new
 ·rw [aO hb] at q
  by_cases hbe:b=e
  ·have q':H b=some (.own x):=by
    rcases he with z|z
    ·exact absurd (hbe.trans z) hb
    ·rw [hbe];exact z
   rw [q] at q';cases q'
   obtain ⟨v,hv⟩:=heo
   exact ⟨v,by rw [hbe];exact hv⟩
  ·refine (ok b u q).stay (fun c v hc r=>k c v ?_ r) (fun c r=>by rw [aO (nown c b r)];exact r) fun c xs r=>by rw [aO (ntup c xs r)];exact r
   rcases hc with rfl|hc
   ·exact hbe
   ·rintro rfl
    rcases he with z|z
    ·exact nown c b hc z
    ·rw [hc] at z;cases z;exact hb rfl
end
structure Un (fs ex:List Addr) (H H':Hp) (h h':Heap):Prop where
 keep:∀b o,h.get? b=some o->H b=none->b∉fs->b∉ex->h'.get? b=some o
 slot:∀b o,h.get? b=some o->H b=none->b∈fs->b∉ex->∃sl,h'.get? b=some {o with slots:=sl}
 free:∀b o,h.get? b=some o->H b=none->b∉ex->H' b=none
 there:∀b o,h.get? b=some o->b∉ex->∃o',h'.get? b=some o'
 tups:∀b xs,H b=some (.tup xs)->H' b=some (.tup xs)
 frzs:∀b o u,H b=some (.frz o u)->H' b=some (.frz o u)
 tbls:∀b ps,H b=some (.tbl ps)->∃more,H' b=some (.tbl (ps++more))
section
variable {fs fs' ex ex':List Addr}{H H1 H2:Hp}{h h1 h2 h':Heap}{a x e:Addr}{o:HO}
theorem Un.any (u:Un fs ex H H1 h h1){b:Addr}{ob:Obj}(q:h.get? b=some ob)(n:H b=none)(hx:b∉ex):∃sl,h1.get? b=some {ob with slots:=sl}:=by
 by_cases hb:b∈fs
 ·exact u.slot b ob q n hb hx
 ·exact ⟨ob.slots,u.keep b ob q n hb hx⟩
theorem Un.kept (k:∀b u,h.get? b=some u->h'.get? b=some u):Un fs ex H H h h':=
 ⟨fun b ob q _ _ _=>k b ob q,fun b ob q _ _ _=>⟨ob.slots,k b ob q⟩,fun _ _ _ n _=>n,fun b ob q _=>⟨ob,k b ob q⟩,fun _ _ q=>q,fun _ _ _ q=>q,fun _ ps q=>⟨#[],by rw [q];simp⟩⟩
theorem Un.refl:Un fs ex H H h h:=Un.kept fun _ _ q=>q
theorem Un.laid (k:∀b u,h.get? b=some u->h'.get? b=some u)(hp:h.objs.size<=a)(hn:H a=none):Un fs ex H (upd H a o) h h' where
 keep:=fun b u q _ _ _=>k b u q
 slot:=fun b u q _ _ _=>⟨u.slots,k b u q⟩
 free:=fun b u q n _=>by rw [aO (Nt (MQ (MJ q) hp))];exact n
 there:=fun b u q _=>⟨u,k b u q⟩
 tups:=fun b xs q=>by rw [aO (bg q hn)];exact q
 frzs:=fun b u xs q=>by rw [aO (bg q hn)];exact q
 tbls:=fun b ps q=>⟨#[],by rw [aO (bg q hn),q];simp⟩
theorem Un.write (mu:Du (H x))(he:e=x\/H e=some (.own x))(k:∀b u,b≠e->h.get? b=some u->h'.get? b=some u)(heo:∃u,h'.get? e=some u):Un fs ex H (upd H x o) h h':=by
 have hx:∀b,H b=none->b≠x:=fun b n z=>by subst z;rw [n] at mu;exact mu
 have hb:∀b,H b=none->b≠e:=fun b n z=>by
  subst z
  rcases he with r|r
  ·exact hx b n r
  ·rw [n] at r;cases r
 have hm:∀b u,H b=some u->¬ Du (some u)->b≠x:=fun b u q nm z=>by subst z;rw [q] at mu;exact nm mu
 refine ⟨fun b u q n _ _=>k b u (hb b n) q,fun b u q n _ _=>⟨u.slots,k b u (hb b n) q⟩,fun b u q n _=>by rw [aO (hx b n)];exact n,fun b u q _=>?_,
  fun b xs q=>by rw [aO (hm b _ q fun z=>z)];exact q,fun b u xs q=>by rw [aO (hm b _ q fun z=>z)];exact q,fun b ps q=>⟨#[],by rw [aO (hm b _ q fun z=>z),q];simp⟩⟩
 by_cases hbe:b=e
 ·subst hbe;exact heo
 ·exact ⟨u,k b u hbe q⟩
end
def CH (h:Heap)(H:Hp):List Addr:=(List.range h.objs.size).filter fun a=>(H a).isSome
def lV (h:Heap)(H:Hp):Heap:=PySem.W.hideAll h (CH h H)
theorem zK (h:Heap)(H:Hp):(lV h H).objs.size=h.objs.size:=PySem.W.hideAll_size _ _
theorem BW {h:Heap}{H:Hp}{b:Addr}{o:Obj}(e:h.get? b=some o)(n:H b=none):(lV h H).get? b=some o:=
 PySem.W.hideAll_get _ e fun hm=>by
  have q:(H b).isSome=true:=(List.mem_filter.mp hm).2
  rw [n] at q;simp at q
theorem ES {h:Heap}{H:Hp}{b:Addr}{o:Obj}(e:(lV h H).get? b=some o):h.get? b=some o/\H b=none:=by
 have e':h.get? b=some o:=PySem.W.of_hideAll (CH h H) e
 refine ⟨e',?_⟩
 cases q:H b with
 |none=>rfl
 | some x =>
   have hm:b∈CH h H:=List.mem_filter.mpr ⟨Od.mpr (MJ e'),by simp [q]⟩
   have z:(lV h H).get? b=none:=PySem.W.hideAll_none (CH h H) hm
   rw [z] at e;cases e
end L2
namespace L2
open PySem PySem.Spec PyProof.Rows
structure Mod (K:Mr) (mg:Str->Option Mq) (base:Heap):Prop where
 kin:K.In base
 glob:base.Ns mainGlobals mg
 blt:∃mb,base.Ns builtinsNs mb/\∀x:Str,x≠"__name__"->mb x=bootBuiltins x
 nolimit:base.NoLimit
structure Cx where
 prog:MP
 w:Nd
 K:Mr
 mg:Str->Option Mq
 base:Heap
 A:Nr
 N:List Str
 s₀:Mx
 H₀:Hp
 env:Env
 outer:List Env
 stack:List Env
 ex:List Addr
 fn:Str->Bool
 calm:Bool
 pn:List #[15]
 xe:Mq->Mx->Prop
def f7 (l:List Env):List Addr:=l.filterMap (·.frame)
abbrev Cx.fs (X:Cx):List Addr:=f7 X.outer
def rZ (sc:Scope)(x:Str):Prop:=sc.names.lookup x=some .local\/sc.names.lookup x=some .cell\/sc.names.lookup x=some .free
def Loc (sc:Scope)(x:Str):Prop:=sc.names.lookup x=some .local\/sc.names.lookup x=some .cell
def Look (env:Env)(h:Heap)(m:Str->Option Mq)(x:Str)(u:Mq):Prop:=
 (env.kindOf x=some .local/\m x=some u)\/((env.kindOf x=some .cell\/env.kindOf x=some .free)/\∃c,env.cells.lookup x=some c/\h.IsCell c (some u))
structure Cx.Ok (X:Cx):Prop where
 mod:Mod X.K X.mg X.base
 kind:X.env.scope.kind=.function
 glob:X.env.globals=mainGlobals
 blt:X.env.builtins=builtinsNs
 above:X.s₀.heap.objs.size<=X.env.locals
 inj:∀x y c,X.env.cells.lookup x=some c->X.env.cells.lookup y=some c->x=y
 has:∀x,#[328]->∃c,X.env.cells.lookup x=some c
 cab:∀x c,X.fn x=true->X.env.cells.lookup x=some c->X.s₀.heap.objs.size<=c
 hd:X.calm=true->X.A.handled=none
 frames:X.A.frames=some X.stack
 stk:X.stack=X.outer\/(X.stack=X.env::X.outer/\X.env.frame=some X.env.locals)
 exf:∀b∈X.ex,b≠X.env.locals/\∀x c,X.env.cells.lookup x=some c->c≠b
 bs:∀b o,X.base.get? b=some o->X.s₀.heap.get? b=some o/\X.H₀ b=none
 bsz:X.base.objs.size<=X.s₀.heap.objs.size
 noex:∀b o,X.base.get? b=some o->b∉X.ex
 exfs:∀b∈X.ex,b∉X.fs
 funs:X.s₀.heap.FunFrames X.base X.outer
 frf:∀b∈X.fs,X.H₀ b=none
structure Inv (X:Cx) (pins:List #[15]) (σ:List (Option V)) (H:Hp) (s:Mx):Prop where
 ok:X.Ok
 os:s.os=X.s₀.os
 bare:Pu s.gens
 base:Un X.fs X.ex X.H₀ H X.s₀.heap s.heap
 loc:∃m,s.heap.Ns X.env.locals m/\∀(i:Nat) (x:Str) (v:V),X.N[i]?=some x->σ[i]?=some (some v)->rZ X.env.scope x->∃u,RelV v u/\Look X.env s.heap m x u
 cell:∀x c,X.env.cells.lookup x=some c->∃v,s.heap.IsCell c v
 free:H X.env.locals=none
 freeC:∀x c,X.env.cells.lookup x=some c->H c=none
 pin:∀p∈X.pn++pins,s.heap.get? p.1=some p.2/\H p.1=none/\p.1≠X.env.locals/\p.1∉X.fs/\∀v,p.2.data≠.cell v
 hok:eY X.prog X.w H s.heap
 len:σ.length=X.N.length
section
variable {X:Cx}{pins:List #[15]}{σ:List (Option V)}{H H':Hp}{s:Mx}{h':Heap}
theorem Cx.Ok.nofr (ok:X.Ok){b:Addr}{o:Obj}(e:X.base.get? b=some o):b∉X.fs:=fun hb=>by
 have:=(ok.funs.mem hb).1
 rw [e] at this;cases this
theorem Inv.bs (I:Inv X pins σ H s):∀b o,X.base.get? b=some o->s.heap.get? b=some o/\H b=none:=fun b o e=>
 ⟨I.base.keep b o (I.ok.bs b o e).1 (I.ok.bs b o e).2 (I.ok.nofr e) (I.ok.noex b o e),I.base.free b o (I.ok.bs b o e).1 (I.ok.bs b o e).2 (I.ok.noex b o e)⟩
theorem Inv.bk (I:Inv X pins σ H s):∀b o,X.base.get? b=some o->s.heap.get? b=some o:=fun b o e=>(I.bs b o e).1
theorem Inv.mod (I:Inv X pins σ H s):Mod X.K X.mg X.base:=I.ok.mod
theorem Inv.kIn (I:Inv X pins σ H s):X.K.In s.heap:=I.ok.mod.kin.keeps I.bk
theorem Inv.lt (I:Inv X pins σ H s):X.env.locals<s.heap.objs.size:=let ⟨_,hn,_⟩:=I.loc;hn.lt
theorem Inv.sz (I:Inv X pins σ H s):X.s₀.heap.objs.size<=s.heap.objs.size:=MF I.ok.above (Nat.le_of_lt I.lt)
theorem Inv.nofs (I:Inv X pins σ H s){a:Addr}(h:s.heap.objs.size<=a):a∉X.fs:=fun hb=>by
 obtain ⟨_,o,ho,_⟩:=I.ok.funs.mem hb
 exact absurd (MQ (MJ ho) (MF I.sz h)) (NO _)
theorem Inv.cne (I:Inv X pins σ H s):∀x c,X.env.cells.lookup x=some c->c≠X.env.locals:=fun x c e z=>by
 obtain ⟨v,o,ho,hd⟩:=I.cell x c e
 obtain ⟨m,⟨o',es,ep,ho',hd',_⟩,_⟩:=I.loc
 rw [z,ho'] at ho;cases ho;rw [hd'] at hd;cases hd
theorem Inv.funs (I:Inv X pins σ H s):s.heap.FunFrames X.base X.outer:=by
 have all:∀(l:List Env),(∀b∈f7 l,b∈X.fs)->X.s₀.heap.FunFrames X.base l->s.heap.FunFrames X.base l:=by
  intro l
  induction l with
  |nil=>intro _ _;trivial
  | cons env r ih =>
    intro hs hl
    obtain ⟨hk,⟨L,o,hf,hn,ho,hd⟩,hr⟩:=hl
    have hL:L∈X.fs:=hs L (by unfold f7;rw [Oy,hf];exact MM)
    obtain ⟨sl,e⟩:=I.base.slot L o ho (I.ok.frf L hL) hL fun z=>I.ok.exfs L z hL
    exact ⟨hk,⟨L,_,hf,hn,e,hd⟩,ih (fun b hb=>hs b (by unfold f7;rw [Oy,hf];exact ME _ hb)) hr⟩
 exact all X.outer (fun _ hb=>hb) I.ok.funs
theorem Inv.stack (I:Inv X pins σ H s):s.heap.FunFrames X.base X.stack:=by
 rcases I.ok.stk with e|⟨e,hf⟩
 ·rw [e];exact I.funs
 ·rw [e]
  obtain ⟨m,hn,_⟩:=I.loc
  refine .cons (by rw [I.ok.kind];decide) hf hn ?_ I.funs
  exact Oc (MF I.ok.bsz I.ok.above)
theorem Inv.stkSub (I:Inv X pins σ H s):∀b∈f7 X.stack,b∈X.env.locals::X.fs:=fun b hb=>by
 rcases I.ok.stk with e|⟨e,hf⟩
 ·rw [e] at hb;exact ME _ hb
 ·rw [e] at hb
  unfold f7 at hb
  rw [Oy,hf] at hb
  exact hb
theorem Inv.stkFree (I:Inv X pins σ H s):∀b∈f7 X.stack,H b=none:=fun b hb=>by
 rcases Mz.mp (I.stkSub b hb) with e|hb
 ·rw [e];exact I.free
 ·obtain ⟨_,o,ho,_⟩:=I.ok.funs.mem hb
  exact I.base.free b o ho (I.ok.frf b hb) fun z=>I.ok.exfs b z hb
theorem Inv.step {g':Array GenState}{t':Nat}{d':Drawn}{ch:List Addr}(I:Inv X pins σ H s)
 (hch:∀b∈ch,#[138]/\b≠X.env.locals/\#[95]/\∀p∈X.pn++pins,p.1≠b)
 (keep:∀b o,b≠X.env.locals->b∉X.fs->b∉ch->s.heap.get? b=some o->H b=none->h'.get? b=some o)
 (slot:∀b o,b≠X.env.locals->b∈X.fs->b∉ch->s.heap.get? b=some o->H b=none->∃sl,h'.get? b=some {o with slots:=sl}) (free:∀b o,b∉ch->s.heap.get? b=some o->H b=none->H' b=none)
 (there:∀b o,b∉ch->s.heap.get? b=some o->∃o',h'.get? b=some o')
 (tups:∀b xs,H b=some (.tup xs)->H' b=some (.tup xs)) (frzs:∀b o u,H b=some (.frz o u)->H' b=some (.frz o u)) (tbls:∀b ps,H b=some (.tbl ps)->∃more,H' b=some (.tbl (ps++more)))
 (ns:∀m,s.heap.Ns X.env.locals m->h'.Ns X.env.locals m) (hok:eY X.prog X.w H' h') (hg:Pu g') :
 Inv X pins σ H' {s with heap:=h',gens:=g',drawn:=d',toks:=t'}:=by
 have neL:∀b o,X.s₀.heap.get? b=some o->b≠X.env.locals:=fun b o e=>Nt #[242]
 have neC:∀b o,X.s₀.heap.get? b=some o->b∉X.ex->b∉ch:=fun b o e hx hb=>by
  rcases (hch b hb).1 with z|z
  ·exact hx z
  ·exact absurd (MQ (MJ e) z) (NO _)
 have cellK:∀x c,X.env.cells.lookup x=some c->∀v,s.heap.IsCell c v->h'.IsCell c v:=fun x c e v ⟨o,ho,hd⟩=>by
  have nch:c∉ch:=fun z=>(hch c z).2.2.1 x c e rfl
  by_cases hc:c∈X.fs
  ·obtain ⟨sl,q⟩:=slot c o (I.cne x c e) hc nch ho (I.freeC x c e)
   exact ⟨_,q,hd⟩
  ·exact ⟨o,keep c o (I.cne x c e) hc nch ho (I.freeC x c e),hd⟩
 refine ⟨I.ok,I.os,hg,⟨fun b o e n hb hx=>?_,fun b o e n hb hx=>?_,fun b o e n hx=>?_,fun b o e hx=>?_,fun b xs e=>tups b xs (I.base.tups b xs e),fun b o xs e=>frzs b o xs (I.base.frzs b o xs e),fun b ps e=>?_⟩,?_,fun x c e=>?_,?_,fun x c e=>?_,fun p hp=>?_,hok,I.len⟩
 ·exact keep b o (neL b o e) hb (neC b o e hx) #[157] #[202]
 ·obtain ⟨sl,e1⟩:=I.base.slot b o e n hb hx
  obtain ⟨sl',e2⟩:=slot b _ (neL b o e) hb (neC b o e hx) e1 #[202]
  exact ⟨sl',e2⟩
 ·obtain ⟨o',e1⟩:=I.base.there b o e hx
  exact free b o' (neC b o e hx) e1 #[202]
 ·obtain ⟨o',e1⟩:=I.base.there b o e hx
  exact there b o' (neC b o e hx) e1
 ·obtain ⟨m1,e1⟩:=I.base.tbls b ps e
  obtain ⟨m2,e2⟩:=tbls b _ e1
  exact ⟨m1++m2,by rw [e2,Array.append_assoc]⟩
 ·obtain ⟨m,hn,hl⟩:=I.loc
  refine ⟨m,ns m hn,fun i x v e1 e2 e3=>?_⟩
  obtain ⟨u,r,l⟩:=hl i x v e1 e2 e3
  refine ⟨u,r,?_⟩
  rcases l with l|⟨k,c,e,z⟩
  ·exact .inl l
  ·exact .inr ⟨k,c,e,cellK x c e _ z⟩
 ·obtain ⟨v,z⟩:=I.cell x c e
  exact ⟨v,cellK x c e v z⟩
 ·obtain ⟨m,⟨o,_,_,ho,_⟩,_⟩:=I.loc
  exact free _ o (fun z=>(hch _ z).2.1 rfl) ho I.free
 ·obtain ⟨v,o,ho,hd⟩:=I.cell x c e
  exact free c o (fun z=>(hch c z).2.2.1 x c e rfl) ho (I.freeC x c e)
 ·obtain ⟨e,n,ne,nf,d⟩:=I.pin p hp
  have nch:p.1∉ch:=fun z=>(hch p.1 z).2.2.2 p hp rfl
  exact ⟨keep p.1 p.2 ne nf nch e n,free p.1 p.2 nch e n,ne,nf,d⟩
theorem Inv.un {t':Nat}(I:Inv X pins σ H s)(u:Un X.fs [] H H' s.heap h')(hok:eY X.prog X.w H' h'):Inv X pins σ H' {s with heap:=h',toks:=t'}:=by
 obtain ⟨m,⟨o,es,ep,ho,r⟩,_⟩:=id I.loc
 obtain ⟨sl,hL⟩:=u.any ho I.free (by simp)
 exact I.step (g':=s.gens) (d':=s.drawn) (ch:=[]) #[34] (fun b o _ hb _ e n=>u.keep b o e n hb (by simp)) (fun b o _ hb _ e n=>u.slot b o e n hb (by simp)) (fun b o _ e n=>u.free b o e n (by simp)) (fun b o _ e=>u.there b o e (by simp)) u.tups u.frzs u.tbls (fun m' hm=>by
  obtain ⟨o',es',ep',ho',r'⟩:=hm
  rw [ho] at ho';cases ho'
  exact ⟨_,es',ep',hL,r'⟩) hok I.bare
theorem Inv.call {g':Array GenState}{t':Nat}{d':Drawn}{ch:List Addr}(I:Inv X pins σ H s)(u:Un (f7 X.stack) ch H H' s.heap h')(hok:eY X.prog X.w H' h')(hg:Pu g')
 (hch:∀b∈ch,#[138]/\b≠X.env.locals/\#[95]/\∀p∈X.pn++pins,p.1≠b) :
 Inv X pins σ H' {s with heap:=h',gens:=g',drawn:=d',toks:=t'}:=by
 obtain ⟨m,⟨o,es,ep,ho,r⟩,_⟩:=id I.loc
 obtain ⟨sl,hL⟩:=u.any ho I.free fun z=>(hch _ z).2.1 rfl
 exact I.step (ch:=ch) hch (fun b o hL hb hc e n=>u.keep b o e n (fun z=>(Mz.mp (I.stkSub b z)).elim hL hb) hc) (fun b o _ _ hc e n=>u.any e n hc) (fun b o hc e n=>u.free b o e n hc) (fun b o hc e=>u.there b o e hc) u.tups u.frzs u.tbls (fun m' hm=>by
  obtain ⟨o',es',ep',ho',r'⟩:=hm
  rw [ho] at ho';cases ho'
  exact ⟨_,es',ep',hL,r'⟩) hok hg
theorem Inv.turned {t':Nat}{it:Addr}(I:Inv X pins σ H s)(k:∀b o,b≠it->s.heap.get? b=some o->h'.get? b=some o)(hn:H it=none)(hL:it≠X.env.locals)
 (h1:it∈X.ex\/X.s₀.heap.objs.size<=it) (h2:∀x c,X.env.cells.lookup x=some c->c≠it) (h3:∀p∈X.pn++pins,p.1≠it):Inv X pins σ H {s with heap:=h',toks:=t'}:=by
 have nit:∀b u,H b=some u->b≠it:=fun b u e z=>by rw [z,hn] at e;cases e
 refine I.step (g':=s.gens) (d':=s.drawn) (ch:=[it]) (fun b hb=>?_) (fun b o _ _ hc e _=>k b o (fun z=>hc (by simp [z])) e) (fun b o _ _ hc e _=>⟨o.slots,k b o (fun z=>hc (by simp [z])) e⟩) (fun _ _ _ _ n=>n)
  (fun b o hc e=>⟨o,k b o (fun z=>hc (by simp [z])) e⟩) (fun _ _ e=>e) (fun _ _ _ e=>e) (fun b ps e=>⟨#[],by rw [e];simp⟩) (fun m hm=>?_) (fun b u e=>?_) I.bare
 ·have e:b=it:=by simpa using hb
  subst e
  exact ⟨h1,hL,h2,h3⟩
 ·obtain ⟨o,es,ep,ho,r⟩:=hm
  exact ⟨o,es,ep,k _ o (NM hL) ho,r⟩
 ·refine (I.hok b u e).stay (fun c v hc q=>k c v ?_ q) (fun _ q=>q) fun _ _ q=>q
  rcases hc with z|z
  ·rw [z];exact nit b u e
  ·exact nit c _ z
theorem Inv.tok (I:Inv X pins σ H s)(t:Nat):Inv X pins σ H {s with toks:=t}:=I.un (h':=s.heap) (t':=t) Un.refl I.hok
theorem Inv.kept {t':Nat}(I:Inv X pins σ H s)(k:∀b u,s.heap.get? b=some u->h'.get? b=some u):Inv X pins σ H {s with heap:=h',toks:=t'}:=I.un (Un.kept k) (I.hok.kept k)
theorem Inv.laid {a:Addr}{o:HO}{t':Nat}(I:Inv X pins σ H s)(k:∀b u,s.heap.get? b=some u->h'.get? b=some u)(hp:s.heap.objs.size<=a)(new:dg X.prog X.w (upd H a o) h' a o) :
 Inv X pins σ (upd H a o) {s with heap:=h',toks:=t'}:=I.un (Un.laid k hp (I.hok.fresh hp)) (I.hok.laid k hp new)
theorem Inv.write {x e:Addr}{o:HO}{t':Nat}(I:Inv X pins σ H s)(mu:Du (H x))(he:e=x\/H e=some (.own x))(k:∀b u,b≠e->s.heap.get? b=some u->h'.get? b=some u)(heo:∃u,h'.get? e=some u)
 (new:dg X.prog X.w (upd H x o) h' x o):Inv X pins σ (upd H x o) {s with heap:=h',toks:=t'}:=I.un (Un.write mu he k heo) (I.hok.write mu he k heo new)
theorem Inv.pins_of {pins':List #[15]}(I:Inv X pins σ H s)(h:∀p∈pins',s.heap.get? p.1=some p.2/\H p.1=none/\p.1≠X.env.locals/\p.1∉X.fs/\∀v,p.2.data≠.cell v):Inv X pins' σ H s:=
 ⟨I.ok,I.os,I.bare,I.base,I.loc,I.cell,I.free,I.freeC,fun p hp=>(Nh.mp hp).elim (fun z=>I.pin p (N2 _ z)) (h p),I.hok,I.len⟩
theorem oh {N:List Str}(hN:N.Nodup){i j:Nat}{x:Str}(a:N[i]?=some x)(b:N[j]?=some x):i=j:=by
 obtain ⟨h1,e1⟩:=Mw.mp a
 obtain ⟨h2,e2⟩:=Mw.mp b
 exact (List.getElem_inj hN).mp (e1.trans e2.symm)
theorem qV {M:Model}{A:Nr}{E:Mq->Mx->Prop}{i:Nat}{x:Str}{v:V}{u:Mq}{Q:Unit->Mx->Prop}(I:Inv X pins σ H s)(hN:X.N.Nodup)(hi:X.N[i]?=some x)(hx:Loc X.env.scope x)(r:RelV v u)
 (h:∀s',Inv X pins #[302] H s'->(∃a,OV a s.heap s'.heap/\(a=X.env.locals\/X.env.cells.lookup x=some a))->Q () s') (hf:X.fn x=true\/X.env.scope.names.lookup x=some .local:=by first|exact .inl rfl|exact .inr rfl|assumption):wpAny M A (storeName X.env x u) Q E s:=by
 obtain ⟨m,hn,hl⟩:=id I.loc
 have hcls:(X.env.scope.kind==.class||#[303])=false:=by rw [I.ok.kind];rfl
 have hiσ:i<σ.length:=by rw [I.len];exact (Mw.mp hi).1
 have cne:=I.cne
 have tracked:∀{a:Addr}{h':Heap},(∃o,s.heap.get? a=some o/\H a=none)->OV a s.heap h'->eY X.prog X.w H h':=fun {a h'} ha hs b ob e=>by
  obtain ⟨_,_,hfree⟩:=ha
  refine (I.hok b ob e).stay (fun c w' hc q=>(hs.2 c ?_).trans q) (fun _ q=>q) fun _ _ q=>q
  rintro rfl
  rcases hc with rfl|hc
  ·rw [hfree] at e;cases e
  ·rw [hfree] at hc;cases hc
 rcases hx with hk|hk
 ·refine wpAny_storeName_local hk hn (fun h' hn' hs=>?_) hcls
  obtain ⟨oL,_,_,hoL,_⟩:=id hn
  refine h _ ⟨I.ok,I.os,I.bare,⟨fun b o e n hb hx=>?_,fun b o e n hb hx=>?_,I.base.free,fun b o e hx=>?_,I.base.tups,I.base.frzs,I.base.tbls⟩,⟨_,hn',fun j y v' e1 e2 e3=>?_⟩,fun y c e=>?_,I.free,I.freeC,fun p hp=>?_,tracked ⟨oL,hoL,I.free⟩ hs,by simpa using I.len⟩ ⟨_,hs,.inl rfl⟩
  ·exact (hs.2 b (Nt #[242])).trans #[157]
  ·obtain ⟨sl,e1⟩:=I.base.slot b o e n hb hx
   exact ⟨sl,(hs.2 b (Nt #[242])).trans e1⟩
  ·obtain ⟨o',e1⟩:=I.base.there b o e hx
   exact ⟨o',(hs.2 b (Nt #[242])).trans e1⟩
  ·by_cases hj:j=i
   ·subst hj
    rw [hi] at e1;cases e1
    rw [Nv hiσ] at e2
    cases e2
    exact ⟨u,r,.inl ⟨hk,by simp⟩⟩
   ·rw [MY (NM hj)] at e2
    obtain ⟨u',r',q⟩:=hl j y v' e1 e2 e3
    refine ⟨u',r',?_⟩
    rcases q with ⟨k,e⟩|⟨k,c,e,z⟩
    ·refine .inl ⟨k,?_⟩
     have:y≠x:=fun e=>hj (oh hN e1 (e ▸ hi))
     simp [this,e]
    ·exact .inr ⟨k,c,e,z.sameBut hs (cne y c e)⟩
  ·obtain ⟨w',z⟩:=I.cell y c e
   exact ⟨w',z.sameBut hs (cne y c e)⟩
  ·obtain ⟨e,n,ne,nf,d⟩:=I.pin p hp
   exact ⟨(hs.2 p.1 ne).trans e,n,ne,nf,d⟩
 ·have hfn:X.fn x=true:=by
   rcases hf with z|z
   ·exact z
   ·rw [z] at hk;cases hk
  obtain ⟨c,hc⟩:=I.ok.has x (.inl hk)
  obtain ⟨w',z⟩:=I.cell x c hc
  refine wpAny_storeName_cell I.ok.kind hk hc z (fun h' hc' hs=>?_)
  obtain ⟨oc,hoc,hocd⟩:=id z
  refine h {s with heap:=h'} ⟨I.ok,I.os,I.bare,⟨fun b o e n hb hx=>?_,fun b o e n hb hx=>?_,I.base.free,fun b o e hx=>?_,I.base.tups,I.base.frzs,I.base.tbls⟩,⟨m,hn.sameBut hs (NM (cne x c hc)),fun j y v' e1 e2 e3=>?_⟩,fun y c' e=>?_,I.free,I.freeC,fun p hp=>?_,tracked ⟨oc,hoc,I.freeC x c hc⟩ hs,by simpa using I.len⟩ ⟨c,hs,.inr hc⟩
  ·exact #[166].trans #[157]
  ·obtain ⟨sl,e1⟩:=I.base.slot b o e n hb hx
   exact ⟨sl,#[166].trans e1⟩
  ·obtain ⟨o',e1⟩:=I.base.there b o e hx
   exact ⟨o',#[166].trans e1⟩
  ·by_cases hj:j=i
   ·subst hj
    rw [hi] at e1;cases e1
    rw [Nv hiσ] at e2
    cases e2
    exact ⟨u,r,.inr ⟨.inl hk,c,hc,hc'⟩⟩
   ·rw [MY (NM hj)] at e2
    obtain ⟨u',r',q⟩:=hl j y v' e1 e2 e3
    refine ⟨u',r',?_⟩
    rcases q with q|⟨k,c',e,z'⟩
    ·exact .inl q
    ·refine .inr ⟨k,c',e,z'.sameBut hs ?_⟩
     rintro rfl
     exact hj (oh hN e1 (I.ok.inj _ _ _ e hc ▸ hi))
  ·by_cases hcc:c'=c
   ·subst hcc;exact ⟨_,hc'⟩
   ·obtain ⟨w2,z2⟩:=I.cell y c' e
    exact ⟨w2,z2.sameBut hs hcc⟩
  ·obtain ⟨e,n,ne,nf,d⟩:=I.pin p hp
   refine ⟨(hs.2 p.1 ?_).trans e,n,ne,nf,d⟩
   intro q
   rw [q,hoc] at e
   have q':oc=p.2:=MA e
   exact d w' (by rw [<- q'];exact hocd)
theorem tq {M:Model}{A:Nr}{E:Mq->Mx->Prop}{i:Nat}{x:Str}{v:V}{u:Mq}{Q:Unit->Mx->Prop}(I:Inv X pins σ H s)(hN:X.N.Nodup)(hi:X.N[i]?=some x)(hx:Loc X.env.scope x)(r:RelV v u)
 (h:∀s',Inv X pins #[302] H s'->Q () s') (hf:X.fn x=true\/X.env.scope.names.lookup x=some .local:=by first|exact .inl rfl|exact .inr rfl|assumption):wpAny M A (storeName X.env x u) Q E s:=
 qV I hN hi hx r (fun s' I' _=>h s' I') hf
theorem Inv.call' {s':Mx}{ch:List Addr}(I:Inv X pins σ H s)(ho:s'.os=s.os)(u:Un (f7 X.stack) ch H H' s.heap s'.heap)(hok:eY X.prog X.w H' s'.heap)(hg:Pu s'.gens)
 (hch:∀b∈ch,#[138]/\b≠X.env.locals/\#[95]/\∀p∈X.pn++pins,p.1≠b):Inv X pins σ H' s':=by
 obtain ⟨h',g',d',t',o'⟩:=s'
 have e:o'=s.os:=ho
 subst e
 exact I.call (g':=g') (t':=t') (d':=d') u hok hg hch
end
abbrev XK:=Mq->Option Addr->Hp->Prop
abbrev St:=List (Option V)
abbrev VK:=V->Hp->Prop
abbrev TE:=St->Hp->VK->Prop
abbrev TT:=St->Hp->(Bool->Hp->Prop)->Prop
abbrev TA:=St->Hp->(List V->Hp->Prop)->Prop
structure Ends where
 nx:St->Hp->Prop
 rt:VK
 bk:St->Hp->Prop:=fun _ _=>False
 ct:St->Hp->Prop:=fun _ _=>False
abbrev TS:=Ends->St->Hp->Prop
def EP (X:Cx)(pins:List #[15])(σ:St)(Q:VK)(u:Mq)(s':Mx):Prop:=∃v H',Inv X pins σ H' s'/\RelV v u/\Q v H'
def TP (X:Cx)(pins:List #[15])(σ:St)(Q:Bool->Hp->Prop)(b:Bool)(s':Mx):Prop:=∃H',Inv X pins σ H' s'/\Q b H'
def AP (X:Cx)(pins:List #[15])(σ:St)(Q:List V->Hp->Prop)(us:List Mq)(s':Mx):Prop:=∃vs H',Inv X pins σ H' s'/\Vals vs us/\Q vs H'
def SP (X:Cx)(pins:List #[15])(D:Ends)(f:Flow)(s':Mx):Prop:=
 match f with
 |.next=>∃σ' H',Inv X pins σ' H' s'/\D.nx σ' H'
 |.brk=>∃σ' H',Inv X pins σ' H' s'/\D.bk σ' H'
 |.cont=>∃σ' H',Inv X pins σ' H' s'/\D.ct σ' H'
 |.ret u=>∃v σ' H',Inv X pins σ' H' s'/\RelV v u/\D.rt v H'
def PE (X:Cx)(e:Expr)(t:TE):Prop:=
 ∀(pins:List #[15]) (s:Mx) (σ:St) (H:Hp) (Q:VK),Inv X pins σ H s->t σ H Q->wpAny #[2] X.A (eval e X.env) #[27] X.xe s
def PT (X:Cx)(e:Expr)(t:TT):Prop:=
 ∀(pins:List #[15]) (s:Mx) (σ:St) (H:Hp) (Q:Bool->Hp->Prop),Inv X pins σ H s->t σ H Q->wpAny #[2] X.A (isTrue e X.env (eval e X.env)) (TP X pins σ Q) X.xe s
def PW (X:Cx)(e:Expr)(t:TT):Prop:=
 ∀(whole:Sem Mq) (pins:List #[15]) (s:Mx) (σ:St) (H:Hp) (Q:Bool->Hp->Prop),Inv X pins σ H s->t σ H Q->wpAny #[2] X.A (isTrue e X.env whole) (TP X pins σ Q) X.xe s
theorem PW.pt {X:Cx}{e:Expr}{t:TT}(h:PW X e t):PT X e t:=h _
def PA (X:Cx)(es:List Expr)(t:TA):Prop:=
 ∀(pos:Pos) (pins:List #[15]) (s:Mx) (σ:St) (H:Hp) (Q:List V->Hp->Prop),Inv X pins σ H s->t σ H Q->wpAny #[2] X.A (spliced #[44]) (AP X pins σ Q) X.xe s
def PS (X:Cx)(st:Stmt)(t:TS):Prop:=
 ∀(pins:List #[15]) (s:Mx) (σ:St) (H:Hp) (D:Ends),Inv X pins σ H s->t D σ H->wpAny #[2] X.A (exec st X.env) (SP X pins D) X.xe s
def mT (X:Cx)(st:List Stmt)(t:TS):Prop:=
 ∀(pins:List #[15]) (s:Mx) (σ:St) (H:Hp) (D:Ends),Inv X pins σ H s->t D σ H->wpAny #[2] X.A (execs st X.env) (SP X pins D) X.xe s
theorem bc {α:Type}{t:Sem α}{Q Q':α->Mx->Prop}{M:Model}{A:Nr}{E:Mq->Mx->Prop}{s:Mx}(h:wpAny M A t Q E s)(hQ:∀a s,Q a s->Q' a s):wpAny M A t Q' E s:=wpAny_mono h hQ fun _ _ x=>x
end L2
namespace L2
open PySem PySem.Spec PyProof.Rows
section
variable {X:Cx}
theorem bin {a b:Expr}{ta tb:TE}(ha:PE X a ta)(hb:PE X b tb){pins:List #[15]}{s:Mx}{σ:St}{H:Hp}{R:V->V->Hp->Prop}(I:Inv X pins σ H s)(h:ta σ H fun x H1=>tb σ H1 fun y H2=>R x y H2)
 {α:Type}{Q:α->Mx->Prop}{f:Mq->Mq->Sem α}
 (hf:∀v u s2 x y H2,Inv X pins σ H2 s2->RelV x v->RelV y u->R x y H2->wpAny #[2] X.A (f v u) Q X.xe s2) :
 wpAny #[2] X.A #[281] #[115] X.xe s:=by
 refine bc #[38] fun v s1 ⟨x,H1,I1,r1,q1⟩=>?_
 refine bc #[168] fun u s2 ⟨y,H2,I2,r2,q2⟩=>?_
 exact hf v u s2 x y H2 I2 r1 r2 q2
def A8 (i:Nat):TE:=fun σ H Q=>∃v,σ[i]?=some (some v)/\Q v H
def tC (v:V):TE:=fun _ H Q=>Q v H
theorem pd {i:Nat}{x:Str}{pos:Pos}(hN:X.N[i]?=some x)(hv:rZ X.env.scope x)(hd:#[6]=false:=by decide)(hcd:#[169]=false:=by decide):PE X #[248] (A8 i):=by
 intro pins s σ H Q I h
 obtain ⟨v,e,h⟩:=h
 obtain ⟨m,hn,hl⟩:=I.loc
 obtain ⟨u,r,l⟩:=hl i x v hN e hv
 have fin:EP X pins σ Q u s:=⟨v,H,I,r,h⟩
 rcases l with ⟨hk,hm⟩|⟨hk,c,hc,hcell⟩
 ·exact wpAny_Name (wpAny_loadName_local I.ok.kind hk hn hm fin) hd
 ·rcases hk with hk|hk
  ·exact wpAny_Name (wpAny_loadName_cell I.ok.kind hk hc hcell fin) hd
  ·exact wpAny_Name (wpAny_loadName_free I.ok.kind hk hc hcell fin hcd) hd
theorem zc {i j pos}:PE X (.Constant (.int i) j pos) (tC (.int i)):=fun _ _ _ H _ I h=>wpAny_Constant_int ⟨.int i,H,I.tok _,⟨_,rfl⟩,h⟩
theorem wR {b j pos}:PE X (.Constant (.bool b) j pos) (tC (.bl b)):=fun _ _ _ H _ I h=>Constant_bool ⟨.bl b,H,I,rfl,h⟩
theorem GZ {j pos}:PE X (.Constant .none j pos) (tC .non):=fun _ _ _ H _ I h=>Constant_none ⟨.non,H,I,rfl,h⟩
theorem GR {x j pos}:PE X (.Constant (.str x) j pos) (tC (.str x)):=fun _ _ _ H _ I h=>O0 ⟨.str x,H,I.tok _,⟨_,rfl⟩,h⟩
def Gl (X:Cx)(x:Str):Prop:=X.env.kindOf x=some .globalImplicit
theorem gq {E:Mq->Mx->Prop}{pins:List #[15]}{s:Mx}{σ:St}{H:Hp}{x:Str}{u:Mq}{pos:Pos}{Q:Mq->Mx->Prop}(I:Inv X pins σ H s)(hg:Gl X x)(hm:X.mg x=some u)(h:Q u s)
 (hd:#[6]=false:=by decide):wpAny #[2] X.A (eval #[248] X.env) Q E s:=
 Calls.Name_function_global I.ok.kind hg (Calls.loadGlobal_global (by rw [I.ok.glob];exact I.mod.glob.keeps I.bk) hm h) hd
theorem ie {E:Mq->Mx->Prop}{pins:List #[15]}{s:Mx}{σ:St}{H:Hp}{x:Str}{u:Mq}{pos:Pos}{Q:Mq->Mx->Prop}(I:Inv X pins σ H s)(hg:Gl X x)(hm:X.mg x=none)(hv:bootBuiltins x=some u)(h:Q u s)
 (hn:x≠"__name__":=by decide) (hd:#[6]=false:=by decide):wpAny #[2] X.A (eval #[248] X.env) Q E s:=by
 obtain ⟨mb,h1,h2⟩:=I.mod.blt
 exact Calls.Name_function_global I.ok.kind hg (Calls.loadGlobal_builtin (by rw [I.ok.glob];exact I.mod.glob.keeps I.bk) hm (by rw [I.ok.blt];exact h1.keeps I.bk) ((h2 x hn).trans hv) h) hd
theorem jG {x:Str}{v:V}{u:Mq}{pos:Pos}(hg:Gl X x)(hm:X.mg x=some u)(r:RelV v u)(hd:#[6]=false:=by decide):PE X #[248] (tC v):=
 fun _ _ _ H _ I h=>gq I hg hm ⟨v,H,I,r,h⟩ hd
theorem vH {x:Str}{v:V}{u:Mq}{pos:Pos}(hg:Gl X x)(hm:X.mg x=none)(hv:bootBuiltins x=some u)(r:RelV v u)(hn:x≠"__name__":=by decide)(hd:#[6]=false:=by decide):PE X #[248] (tC v):=
 fun _ _ _ H _ I h=>ie I hg hm hv ⟨v,H,I,r,h⟩ hn hd
variable {a b:Expr}{ta tb:TE}{pos:Pos}
variable {tA tB':TT}{rest:List Expr}
def gO (t u:TT):TT:=fun σ H Q=>t σ H fun c H1=>if c=true then u σ H1 Q else Q false H1
def eh (t u:TT):TT:=fun σ H Q=>t σ H fun c H1=>if c=true then Q true H1 else u σ H1 Q
def bE (t:TT):TT:=fun σ H Q=>t σ H fun c H1=>Q (!c) H1
theorem Ez (ha:PT X a tA):PW X (.BoolOp .And [a] pos) tA:=by
 intro wh pins s σ H Q I h
 refine isTrue_and (bc (ha pins s σ H Q I h) fun c s1 e=>?_)
 cases c with
 |true=>exact isTrue_and_nil e
 |false=>exact e
theorem GF (ha:PT X a tA):PW X (.BoolOp .Or [a] pos) tA:=by
 intro wh pins s σ H Q I h
 refine isTrue_or (bc (ha pins s σ H Q I h) fun c s1 e=>?_)
 cases c with
 |false=>exact isTrue_or_nil e
 |true=>exact e
theorem GG (ha:PT X a tA)(hb:PW X #[234] tB'):PW X #[192] (gO tA tB'):=by
 intro wh pins s σ H Q I h
 refine isTrue_and (bc #[38] fun c s1 ⟨H1,I1,q1⟩=>?_)
 cases c with
 |true=>exact hb wh pins s1 σ H1 Q I1 q1
 |false=>exact ⟨H1,I1,q1⟩
theorem Jl (ha:PT X a tA)(hb:PW X #[249] tB'):PW X #[203] (eh tA tB'):=by
 intro wh pins s σ H Q I h
 refine isTrue_or (bc #[38] fun c s1 ⟨H1,I1,q1⟩=>?_)
 cases c with
 |true=>exact ⟨H1,I1,q1⟩
 |false=>exact hb wh pins s1 σ H1 Q I1 q1
theorem GI (ha:PT X a tA):PT X (.UnaryOp .Not a pos) (bE tA):=by
 intro pins s σ H Q I h
 exact isTrue_not (ha pins s σ H (fun c H1=>Q (!c) H1) I h)
def I8 (ta tb:TE):TE:=fun σ H Q=>ta σ H fun x H1=>∃c,x=.bl c/\if c=true then tb σ H1 Q else Q #[99] H1
def KW (ta tb:TE):TE:=fun σ H Q=>ta σ H fun x H1=>∃c,x=.bl c/\if c=true then Q #[170] H1 else tb σ H1 Q
def IY (ta:TE):TE:=fun σ H Q=>ta σ H fun x H1=>∃c,x=.bl c/\Q (.bl (!c)) H1
theorem GX {op}{t:TE}(h:PE X a t):PE X (.BoolOp op [a] pos) t:=fun pins s σ H Q I hw=>BoolOp_one (h pins s σ H Q I hw)
theorem G2 (ha:PE X a ta)(hb:PE X #[234] tb):PE X #[192] (I8 ta tb):=by
 intro pins s σ H Q I h
 refine BoolOp_and #[63]
 obtain ⟨c,rfl,q1⟩:=q1
 cases r1
 refine tqp ?_
 cases c with
 |true=>exact hb pins s1 σ H1 Q I1 q1
 |false=>exact ⟨.bl false,H1,I1,rfl,q1⟩
theorem Jn (ha:PE X a ta)(hb:PE X #[249] tb):PE X #[203] (KW ta tb):=by
 intro pins s σ H Q I h
 refine BoolOp_or #[63]
 obtain ⟨c,rfl,q1⟩:=q1
 cases r1
 refine tqp ?_
 cases c with
 |false=>exact hb pins s1 σ H1 Q I1 q1
 |true=>exact ⟨.bl true,H1,I1,rfl,q1⟩
theorem GY (ha:PE X a ta):PE X (.UnaryOp .Not a pos) (IY ta):=by
 intro pins s σ H Q I h
 refine UnaryOp_ #[63]
 obtain ⟨c,rfl,q1⟩:=q1
 cases r1
 exact not_of (tqp ⟨.bl (!c),H1,I1,rfl,q1⟩)
def tIf (t:TT)(ta tb:TE):TE:=fun σ H Q=>t σ H fun c H1=>if c=true then ta σ H1 Q else tb σ H1 Q
theorem tX {c:Expr}(hc:PT X c tA)(ha:PE X a ta)(hb:PE X b tb):PE X (.IfExp c a b pos) (tIf tA ta tb):=by
 intro pins s σ H Q I h
 refine wpAny_IfExp #[321]
 cases d with
 |true=>exact ha pins s1 σ H1 Q I1 q1
 |false=>exact hb pins s1 σ H1 Q I1 q1
end
end L2
namespace L2
open PySem PySem.Spec PyProof.Rows
def c9 (K:Mr)(H:Hp)(a:Addr)(xs:List V):Prop:=
 Rd H a (.lst xs)\/
  ∃(o:Obj) (its:Array Mq) (n:Nat),K.lookup a=some o/\o.cls=.type "list"/\o.dict=none/\o.data=.seq its n/\its.size<=sizeLine/\Vals xs its.toList
def dO (K:Mr)(H:Hp)(a:Addr)(xs:List V):Prop:=
 Rd H a (.tup xs)\/
  ∃(o:Obj) (its:Array Mq) (n:Nat),K.lookup a=some o/\o.cls=.type "tuple"/\o.data=.seq its n/\its.size<=sizeLine/\Vals xs its.toList
def L7:Mq->Option V
 |.none=>some .non
 |.bool b=>some (.bl b)
 |.int i _=>some (.int i)
 |.str x _=>some (.str x)
 |.bytes b _=>some (.byt b)
 |.float b _=>some (.flt b)
 |.ref a=>some (.ref a)
 |.type n=>some (.ty n)
 |_=>none
theorem RelV.abs {x:V}{u:Mq}(r:RelV x u):L7 u=some x:=by
 cases x with
 |non=>cases r;rfl
 |bl _=>cases r;rfl
 |int _=>obtain ⟨t,rfl⟩:=r;rfl
 |str _=>obtain ⟨t,rfl⟩:=r;rfl
 |byt _=>obtain ⟨t,rfl⟩:=r;rfl
 |flt _=>obtain ⟨t,rfl⟩:=r;rfl
 |ref _=>cases r;rfl
 |ty _=>cases r;rfl
theorem RelV.inj {x y:V}{u:Mq}(r:RelV x u)(q:RelV y u):x=y:=MA (r.abs.symm.trans q.abs)
theorem Vals.inj:∀{xs ys:List V}{us:List Mq},Vals xs us->Vals ys us->xs=ys
 |_,_,_,.nil,.nil=>rfl
 |_,_,_,.cons r t,.cons r' t'=>by rw [r.inj r',Vals.inj t t']
section
variable {X:Cx}{pins:List #[15]}{σ:St}{H:Hp}{s:Mx}{a:Addr}{xs ys:List V}
theorem c9.of {K:Mr}(h:H a=some (.lst xs)):c9 K H a xs:=.inl (.inl h)
theorem dO.of {K:Mr}(h:H a=some (.tup xs)):dO K H a xs:=.inl (.inl h)
theorem Inv.list (I:Inv X pins σ H s)(h:c9 X.K H a xs):∃its:List Mq,Vals xs its/\PlainL s.heap a its.toArray/\xs.length<=sizeLine:=by
 rcases h with h|⟨o,its,n,hk,hc,hd,hs,hz,r⟩
 ·obtain ⟨z,its,n,r,e⟩:=h.ok I.hok
  exact ⟨its,r,⟨_,n,e,rfl,rfl,rfl⟩,z⟩
 ·refine ⟨its.toList,r,⟨o,n,I.kIn a o hk,hc,hd,by simpa using hs⟩,?_⟩
  have e:=r.length
  simp only [Po] at e
  omega
theorem Inv.tuple (I:Inv X pins σ H s)(h:dO X.K H a xs):∃its:List Mq,Vals xs its/\IsTup s.heap a its.toArray/\xs.length<=sizeLine:=by
 rcases h with h|⟨o,its,n,hk,hc,hs,hz,r⟩
 ·obtain ⟨z,its,r,p⟩:=h.ok I.hok
  exact ⟨its,r,p,z⟩
 ·refine ⟨its.toList,r,⟨o,I.kIn a o hk,hc,n,by simpa using hs⟩,?_⟩
  have e:=r.length
  simp only [Po] at e
  omega
theorem Inv.list_inj (I:Inv X pins σ H s)(h:c9 X.K H a xs)(h':c9 X.K H a ys):xs=ys:=by
 obtain ⟨its,r,⟨o,n,e,_,_,d⟩,_⟩:=I.list h
 obtain ⟨its',r',⟨o',n',e',_,_,d'⟩,_⟩:=I.list h'
 rw [e] at e';cases e'
 rw [d] at d'
 injection d' with d1 _
 have:its=its':=by simpa using congrArg Array.toList d1
 subst this
 exact r.inj r'
theorem Inv.tuple_inj (I:Inv X pins σ H s)(h:dO X.K H a xs)(h':dO X.K H a ys):xs=ys:=by
 obtain ⟨its,r,⟨o,e,_,n,d⟩,_⟩:=I.tuple h
 obtain ⟨its',r',⟨o',e',_,n',d'⟩,_⟩:=I.tuple h'
 rw [e] at e';cases e'
 rw [d] at d'
 injection d' with d1 _
 have:its=its':=by simpa using congrArg Array.toList d1
 subst this
 exact r.inj r'
end
section
variable {X:Cx}{st:Stmt}{rest:List Stmt}{t u:TS}{e:Expr}{te:TE}{pos:Pos}
def CJ:TS:=fun D σ H=>D.nx σ H
def KS (t u:TS):TS:=fun D σ H=>t {D with nx:=u D} σ H
theorem vC:mT X [] CJ:=fun _ _ σ H _ I h=>wpAny_execs_nil ⟨σ,H,I,h⟩
theorem oa (h1:PS X st t)(h2:mT X rest u):mT X (st::rest) (KS t u):=by
 intro pins s σ H D I h
 refine wpAny_execs_cons (bc (h1 pins s σ H {D with nx:=u D} I h) fun f s1 q=>?_)
 cases f with
 | next =>
   obtain ⟨σ',H',I',q⟩:=q
   exact h2 pins s1 σ' H' D I' q
 |ret v=>exact q
 |brk=>exact q
 |cont=>exact q
theorem ED:PS X (.Pass pos) CJ:=fun _ _ σ H _ I h=>wpAny_Pass ⟨σ,H,I,h⟩
theorem Inv.quiet {pins:List #[15]}{σ:St}{H:Hp}{s:Mx}(I:Inv X pins σ H s):interactive X.env=false:=by simp [interactive,I.ok.kind]
def IZ (te:TE):TS:=fun D σ H=>te σ H fun _ H1=>D.nx σ H1
theorem m9 (he:PE X e te)(hs:swapsWith e none pos.line X.env=pure false:=by rfl):PS X (.Expr e pos) (IZ te):=by
 intro pins s σ H D I h
 exact wpAny_Expr_any (bc (he pins s σ H _ I h) fun v s1 ⟨x,H1,I1,r1,q1⟩=>⟨σ,H1,I1,q1⟩) I.quiet hs
def KU (te:TE):TS:=fun D σ H=>te σ H D.rt
theorem yX (he:PE X e te):PS X (.Return (some e) pos) (KU te):=by
 intro pins s σ H D I h
 exact wpAny_Return_some (bc (he pins s σ H _ I h) fun v s1 ⟨x,H1,I1,r1,q1⟩=>⟨x,σ,H1,I1,r1,q1⟩)
def IW:TS:=fun D _ H=>D.rt .non H
theorem EC:PS X (.Return none pos) IW:=fun _ _ σ H _ I h=>wpAny_Return_none ⟨.non,σ,H,I,rfl,h⟩
def K1 (c:TT)(t u:TS):TS:=fun D σ H=>c σ H fun b H1=>if b=true then t D σ H1 else u D σ H1
theorem Jm {c:Expr}{a b:List Stmt}{tc:TT}(hc:PT X c tc)(ha:mT X a t)(hb:mT X b u):PS X (.If c a b pos) (K1 tc t u):=by
 intro pins s σ H D I h
 refine wpAny_If #[321]
 cases d with
 |true=>exact ha pins s1 σ H1 D I1 q1
 |false=>exact hb pins s1 σ H1 D I1 q1
end
abbrev TG:=V->St->Hp->(St->Hp->Prop)->Prop
abbrev pT:=List V->St->Hp->(St->Hp->Prop)->Prop
def PG (X:Cx)(target:Expr)(t:TG):Prop:=
 ∀(pins:List #[15]) (s:Mx) (σ:St) (H:Hp) (v:V) (u:Mq) (Q:St->Hp->Prop),Inv X pins σ H s->RelV v u->t v σ H Q->
  wpAny #[2] X.A (assign target X.env u) #[74] X.xe s
def u6 (X:Cx)(ts:List Expr)(t:pT):Prop:=
 ∀(pins:List #[15]) (s:Mx) (σ:St) (H:Hp) (vs:List V) (us:List Mq) (Q:St->Hp->Prop),Inv X pins σ H s->Vals vs us->t vs σ H Q->
  wpAny #[2] X.A (assignInOrder ((assignEach ts X.env).map (·.2)) us) #[74] X.xe s
abbrev Cs:=V->V->V->Hp->(Hp->Prop)->Prop
def ID (X:Cx)(t:Cs):Prop:=
 ∀(pins:List #[15]) (s:Mx) (σ:St) (H:Hp) (o i v:V) (ov iv u:Mq) (Q:Hp->Prop),Inv X pins σ H s->RelV o ov->RelV i iv->RelV v u->t o i v H Q->
  wpAny #[2] X.A (setItem ov iv u) (fun _ s'=>∃H',Inv X pins σ H' s'/\Q H') X.xe s
section
variable {X:Cx}{pos:Pos}
def JH (i:Nat):TG:=fun v σ H Q=>Q #[302] H
theorem vF {i:Nat}{x:Str}(hN:X.N.Nodup)(hi:X.N[i]?=some x)(hx:Loc X.env.scope x)(hf:X.fn x=true\/X.env.scope.names.lookup x=some .local:=by first|exact .inl rfl|exact .inr rfl|assumption):PG X #[248] (JH i):=by
 intro pins s σ H v u Q I r h
 exact wpAny_assign_Name (tq I hN hi hx r (fun s' I'=>⟨_,H,I',h⟩) hf)
def ah:pT:=fun vs σ H Q=>vs=[]/\Q σ H
def aa (t:TG)(u:pT):pT:=fun vs σ H Q=>∃v r,vs=v::r/\t v σ H fun σ' H'=>u r σ' H' Q
theorem EJ:u6 X [] ah:=by
 intro pins s σ H vs us Q I r h
 obtain ⟨e,h⟩:=h
 subst e
 cases r
 exact assignInOrder_nil ⟨σ,H,I,h⟩
theorem BB {e:Expr}{es:List Expr}{t:TG}{u:pT}(h1:PG X e t)(h2:u6 X es u)
 (hs:(assignEach (e::es) X.env).map (·.2)=assign e X.env::(assignEach es X.env).map (·.2):=by rfl):u6 X (e::es) (aa t u):=by
 intro pins s σ H vs us Q I r h
 obtain ⟨v,vr,e1,h⟩:=h
 subst e1
 cases r with
 | cons r rr =>
   rw [hs]
   refine assignInOrder_cons (bc (h1 pins s σ H _ _ _ I r h) fun _ s1 ⟨σ1,H1,I1,q1⟩=>?_)
   exact h2 pins s1 σ1 H1 _ _ Q I1 rr q1
def bL (K:Mr)(n:Nat)(t:pT):TG:=fun v σ H Q=>∃a xs,v=.ref a/\dO K H a xs/\xs.length=n/\t xs σ H Q
theorem GO {es:List Expr}{k:Nat}{t:pT}{n:Nat}(hc:X.calm=true)(h:u6 X es t)
 (hn:(assignEach es X.env).length=n:=by rfl) (hst:(assignEach es X.env).findIdx? (·.1)=none:=by rfl):PG X (.Tuple es k pos) (bL X.K n t):=by
 intro pins s σ H v u Q I r hw
 obtain ⟨a,xs,e1,hq,hl,hw⟩:=hw
 subst e1
 cases r
 obtain ⟨its,rv,ht,hz⟩:=I.tuple hq
 refine assign_Tuple_tuple #[176] ht (by simp [hn,<- hl,rv.length]) hst fun h' hx=>?_
 have I1:Inv X pins σ H {s with heap:=h'}:=I.kept (t':=s.toks) fun b o e=>hx b o (Nt (MJ e)) e
 exact h pins _ σ H xs _ Q I1 (by simpa using rv) hw
def LK (to ti:TE)(t:Cs):TG:=fun v σ H Q=>to σ H fun o H1=>ti σ H1 fun i H2=>t o i v H2 fun H3=>Q σ H3
theorem GP {o i:Expr}{to ti:TE}{t:Cs}(ho:PE X o to)(hi:PE X i ti)(hs:ID X t)
 (ha:∀v,assign (.Subscript o i pos) X.env v=(do
  let ov <- holding [v] (eval o X.env)
  let iv <- holding [v,ov] (eval i X.env)
  standAt pos
  holding [v,ov,iv] (setItem ov iv v)
  release [v,ov,iv] []):=by intro _;rfl):PG X (.Subscript o i pos) (LK to ti t):=by
 intro pins s σ H v u Q I r h
 rw [ha]
 refine tqa (tqo (bc (ho pins s σ H _ I h) fun ov s1 ⟨x,H1,I1,r1,q1⟩=>?_))
 refine tqa (tqo (bc (hi pins s1 σ H1 _ I1 q1) fun iv s2 ⟨y,H2,I2,r2,q2⟩=>?_))
 refine tqa (wpAny_standAt (tqa (tqo (bc (hs pins s2 σ H2 x y v ov iv u _ I2 r1 r2 r q2) fun _ s3 ⟨H3,I3,q3⟩=>?_))))
 exact wpAny_release ⟨σ,H3,I3,q3⟩
def K8 (te:TE)(g:TG):TS:=fun D σ H=>te σ H fun x H1=>g x σ H1 D.nx
theorem tS {tg e:Expr}{te:TE}{g:TG}(he:PE X e te)(hg:PG X tg g)(hs:swapsWithSole [tg] e pos.line X.env=pure false:=by rfl)(hw:swappedStores [tg] e X.env=pure none:=by rfl)
 (h1:#[306].map (·.2)=[assign tg X.env]:=by rfl):PS X (.Assign [tg] e pos) (K8 te g):=by
 intro pins s σ H D I h
 refine wpAny_Assign_stores #[296] hs hw
 rw [h1]
 exact bc (hg pins s1 σ H1 x v _ I1 r1 q1) fun _ s2 q=>q
end
structure It where
 go:Nat->Hp->Prop
 yld:Nat->Hp->V->Hp->Prop
 stop:Nat->Hp->Prop
def gz (X:Cx)(pins:List #[15])(H:Hp)(b:Addr):Prop:=
 H b=none/\b≠X.env.locals/\b∉X.fs/\#[138]/\#[95]/\∀p∈X.pn++pins,p.1≠b
theorem Inv.fpOk {X:Cx}{pins:List #[15]}{σ:St}{H H':Hp}{s:Mx}{b:Addr}(I:Inv X pins σ H s)(hb:s.heap.objs.size<=b)(hn:H' b=none):gz X pins H' b:=by
 refine ⟨hn,NI (MQ I.lt hb),I.nofs hb,.inr (MF I.sz hb),fun x c e z=>?_,fun p hp z=>?_⟩
 ·obtain ⟨v,q⟩:=I.cell x c e
  exact absurd (MQ q.lt (by rw [z];exact hb)) (NO _)
 ·exact absurd (MQ (MJ (I.pin p hp).1) (by rw [z];exact hb)) (NO _)
structure Turn (P:MP) (w:Nd) (K:Mr) (tg:Expr) (J:It) (fp:List Addr) (it:Addr) (tn:Nat->Heap->Prop):Prop where
 mem:it∈fp
 obj:∀i h,tn i h->∀b∈fp,∃o,h.get? b=some o/\∀v,o.data≠.cell v
 keep:∀i h h',tn i h->(∀b∈fp,∀o,h.get? b=some o->h'.get? b=some o)->tn i h'
 item:∀(X:Cx),X.prog=P->X.w=w->X.K=K->X.calm=true->∀(i:Nat) (pins:List #[15]) (s:Mx) (σ:St) (H:Hp) (E:Mq->Mx->Prop),Inv X pins σ H s->(∀b∈fp,gz X pins H b)->tn i s.heap->J.go i H->
  wpAny (model P w) X.A #[261] (fun r s1=>∃u,r=some u/\
   wpAny (model P w) X.A (letOwnedTupleGo tg (.ref it) u) (fun _ s2=>∃x H',Inv X pins σ H' s2/\RelV x u/\J.yld i H x H'/\tn (i+1) s2.heap/\∀b∈fp,H' b=none) E s1) E s
 done:∀(X:Cx),X.prog=P->X.w=w->X.K=K->X.calm=true->∀(i:Nat) (pins:List #[15]) (s:Mx) (σ:St) (H:Hp) (E:Mq->Mx->Prop),Inv X pins σ H s->(∀b∈fp,gz X pins H b)->tn i s.heap->J.stop i H->
  wpAny (model P w) X.A #[261] (fun r s1=>r=none/\Inv X pins σ H s1) E s
 self:∀(A:Nr) (i:Nat) (s:Mx) (Q:Mq->Mx->Prop) (E:Mq->Mx->Prop),tn i s.heap->Q (.ref it) s->wpAny (model P w) A (pyIter (.ref it)) Q E s
abbrev TI:=St->Hp->(It->Hp->Prop)->Prop
def Dt (X:Cx)(pins:List #[15])(σ:St)(tg:Expr)(R:It->Hp->Prop)(itv:Mq)(s2:Mx):Prop:=
 ∃(it:Addr) (fp:List Addr) (tn:Nat->Heap->Prop) (J:It) (H':Hp),itv=.ref it/\Inv X pins σ H' s2/\Turn X.prog X.w X.K tg J fp it tn/\tn 0 s2.heap/\(∀b∈fp,gz X pins H' b)/\R J H'
def PI (X:Cx)(tg iter:Expr)(wi:TI):Prop:=
 ∀(pins:List #[15]) (s:Mx) (σ:St) (H:Hp) (R:It->Hp->Prop),Inv X pins σ H s->wi σ H R->
  wpAny #[2] X.A (eval iter X.env) #[268] X.xe s
theorem sJ {M:Model}{A:Nr}{E:Mq->Mx->Prop}{s:Mx}{tg:Expr}{it:Addr}{u:Mq}{o:Obj}{n:String}{vs:Array Mq}{Q:Unit->Mx->Prop}(ho:s.heap.get? it=some o)(hc:o.cls=.type n)(hd:o.data=.fields vs)
 (hn:["enumerate","zip","dict_itemiterator","dict_reverseitemiterator","odict_iterator","itertools.zip_longest","itertools.pairwise"].contains n=false) (hQ:Q () s):wpAny M A (letOwnedTupleGo tg (.ref it) u) Q E s:=by
 unfold letOwnedTupleGo
 cases tg<;>first
  |exact tqb hQ
  |(cases u<;>first
   |exact tqb hQ
   | (refine tqa (wpAny_load ho ?_)
      rw [hc,hd]
      show wpAny M A (if (["enumerate","zip","dict_itemiterator","dict_reverseitemiterator","odict_iterator","itertools.zip_longest","itertools.pairwise"].contains n&&vs[0]?==some (rawInt _))=true then _ else _) Q E s
      rw [if_neg (by intro h;rw [hn,Bool.false_and] at h;cases h)]
      exact tqb hQ))
def IJ (K:Mr)(a:Addr):It:=
 ⟨fun i H=>∃xs x,c9 K H a xs/\xs[i]?=some x,fun i H x H'=>H'=H/\∀xs,c9 K H a xs->xs[i]?=some x,fun i H=>∃xs,c9 K H a xs/\xs.length<=i⟩
def IH (K:Mr)(a:Addr):It:=
 ⟨fun i H=>∃xs x,dO K H a xs/\xs[i]?=some x,fun i H x H'=>H'=H/\∀xs,dO K H a xs->xs[i]?=some x,fun i H=>∃xs,dO K H a xs/\xs.length<=i⟩
def Dv (lo:Int)(n:Nat):It:=⟨fun i _=>i<n,fun i H x H'=>H'=H/\x=.int (lo+i),fun i _=>n<=i⟩
theorem yt {P:MP}{w:Nd}{K:Mr}{tg:Expr}(a it:Addr):Turn P w K tg (IJ K a) [it] it (fun i h=>h.IsListIter it a i) where
 mem:=by simp
 obj:=fun i h st b hb=>by
  have e:b=it:=by simpa using hb
  subst e
  obtain ⟨o,e,c,d⟩:=st
  exact ⟨o,e,fun v z=>by rw [d] at z;cases z⟩
 keep:=fun i h h' st k=>st.at fun o e=>k it (by simp) o e
 item:=by
  intro X hP hw hK hc i pins s σ H E I hf st hg
  subst hP hw hK
  obtain ⟨xs,x,hq,hx⟩:=hg
  obtain ⟨its,rv,p,hz⟩:=I.list hq
  obtain ⟨u,hu,ru⟩:=rv.get hx
  obtain ⟨f0,f1,f2,f3,f4,f5⟩:=hf it (by simp)
  refine wpAny_pyNext_list_item st p.isList (x:=u) (by simpa using hu) fun h' st' sb=>?_
  have I1:Inv X pins σ H {s with heap:=h'}:=I.turned (t':=s.toks) (fun b o hb e=>(sb.2 b hb).trans e) f0 f1 f3 f4 f5
  obtain ⟨o,e,c,d⟩:=id st'
  exact ⟨u,rfl,sJ (s:={s with heap:=h'}) e c d #[1] ⟨x,H,I1,ru,⟨rfl,fun ys hy=>by rw [I.list_inj hy hq];exact hx⟩,st',fun b hb=>(hf b hb).1⟩⟩
 done:=by
  intro X hP hw hK hc i pins s σ H E I hf st hg
  subst hP hw hK
  obtain ⟨xs,hq,hx⟩:=hg
  obtain ⟨its,rv,p,hz⟩:=I.list hq
  obtain ⟨f0,f1,f2,f3,f4,f5⟩:=hf it (by simp)
  have hl:=rv.length
  exact wpAny_pyNext_list_end #[176] st p.isList #[7] fun h' eb=>⟨rfl,I.turned (t':=s.toks) #[250] f0 f1 f3 f4 f5⟩
 self:=fun _ _ _ _ _ st h=>wpAny_pyIter_listiter st h
theorem wz {P:MP}{w:Nd}{K:Mr}{tg:Expr}(a it:Addr):Turn P w K tg (IH K a) [it] it (fun i h=>h.IsTupleIter it a i) where
 mem:=by simp
 obj:=fun i h st b hb=>by
  have e:b=it:=by simpa using hb
  subst e
  obtain ⟨o,e,c,d⟩:=st
  exact ⟨o,e,fun v z=>by rw [d] at z;cases z⟩
 keep:=fun i h h' st k=>st.at fun o e=>k it (by simp) o e
 item:=by
  intro X hP hw hK hc i pins s σ H E I hf st hg
  subst hP hw hK
  obtain ⟨xs,x,hq,hx⟩:=hg
  obtain ⟨its,rv,p,hz⟩:=I.tuple hq
  obtain ⟨u,hu,ru⟩:=rv.get hx
  obtain ⟨f0,f1,f2,f3,f4,f5⟩:=hf it (by simp)
  refine wpAny_pyNext_tuple_item st (show s.heap.IsTuple a its.toArray from p) (x:=u) (by simpa using hu) fun h' st' sb=>?_
  have I1:Inv X pins σ H {s with heap:=h'}:=I.turned (t':=s.toks) (fun b o hb e=>(sb.2 b hb).trans e) f0 f1 f3 f4 f5
  obtain ⟨o,e,c,d⟩:=id st'
  exact ⟨u,rfl,sJ (s:={s with heap:=h'}) e c d #[1] ⟨x,H,I1,ru,⟨rfl,fun ys hy=>by rw [I.tuple_inj hy hq];exact hx⟩,st',fun b hb=>(hf b hb).1⟩⟩
 done:=by
  intro X hP hw hK hc i pins s σ H E I hf st hg
  subst hP hw hK
  obtain ⟨xs,hq,hx⟩:=hg
  obtain ⟨its,rv,p,hz⟩:=I.tuple hq
  obtain ⟨f0,f1,f2,f3,f4,f5⟩:=hf it (by simp)
  have hl:=rv.length
  exact wpAny_pyNext_tuple_end #[176] st (show s.heap.IsTuple a its.toArray from p) #[7] fun h' eb=>⟨rfl,I.turned (t':=s.toks) #[250] f0 f1 f3 f4 f5⟩
 self:=fun _ _ _ _ _ st h=>wpAny_pyIter_tupleiter st h
theorem wA {P:MP}{w:Nd}{K:Mr}{tg:Expr}(it:Addr)(lo:Int)(n:Nat):Turn P w K tg (Dv lo n) [it] it (fun i h=>IsRangeIter h it (lo+(i:Nat)*1) ((n:Int)-(i:Nat)) 1) where
 mem:=by simp
 obj:=fun i h st b hb=>by
  have e:b=it:=by simpa using hb
  subst e
  exact ⟨_,st,fun v z=>by
   have z':Data.fields _=Data.cell v:=z
   cases z'⟩
 keep:=fun i h h' st k=>k it (by simp) _ st
 item:=by
  intro X hP hw hK hc i pins s σ H E I hf st hg
  subst hP hw hK
  obtain ⟨f0,f1,f2,f3,f4,f5⟩:=hf it (by simp)
  have W:=Walks.range (prog:=X.prog) (w:=X.w) #[176] it lo 1 n
  refine W.item i s _ _ hg st fun v h' tk hv st' kk=>?_
  obtain ⟨t,rfl⟩:=hv
  have I1:Inv X pins σ H {s with heap:=h',toks:=tk}:=I.turned (fun b o hb e=>kk b o (by simpa using hb) e) f0 f1 f3 f4 f5
  refine ⟨_,rfl,sJ (s:={s with heap:=h',toks:=tk}) (n:="range_iterator") st' rfl rfl #[1] ⟨.int (lo+i),H,I1,⟨t,?_⟩,⟨rfl,rfl⟩,st',fun b hb=>(hf b hb).1⟩⟩
  rw [Int.mul_one]
 done:=by
  intro X hP hw hK hc i pins s σ H E I hf st hg
  subst hP hw hK
  obtain ⟨f0,f1,f2,f3,f4,f5⟩:=hf it (by simp)
  exact wpAny_pyNext_range_end #[176] st (by have:n<=i:=hg;omega) fun h' eb=>⟨rfl,I.turned (t':=s.toks) #[250] f0 f1 f3 f4 f5⟩
 self:=fun _ _ _ _ _ st h=>wpAny_pyIter_rangeiter st h
end L2
namespace L2
open PySem PySem.Spec PyProof.Rows
section
variable {X:Cx}{tg:Expr}
def JF (K:Mr)(tl:TE):TI:=fun σ H R=>tl σ H fun x H1=>∃a,x=.ref a/\(∃xs,c9 K H1 a xs)/\R (IJ K a) H1
def LJ (K:Mr)(tl:TE):TI:=fun σ H R=>tl σ H fun x H1=>∃a,x=.ref a/\(∃xs,dO K H1 a xs)/\R (IH K a) H1
theorem EI {l:Expr}{tl:TE}(hl:PE X l tl):PI X tg l (JF X.K tl):=by
 intro pins s σ H R I h
 refine bc (hl pins s σ H _ I h) fun v s1 ⟨x,H1,I1,r1,q1⟩=>?_
 obtain ⟨a,e,⟨xs,hq⟩,q⟩:=q1
 subst e
 cases r1
 obtain ⟨its,rv,p,hz⟩:=I1.list hq
 refine wpAny_pyIter_list p.isList ?_
 refine ⟨s1.heap.objs.size,[s1.heap.objs.size],_,_,H1,rfl,I1.kept (t':=s1.toks) fun b o e=>Mp _ e,yt a _,⟨_,MG _ rfl,rfl,rfl⟩,fun b hb=>?_,q⟩
 have e:b=s1.heap.objs.size:=by simpa using hb
 subst e
 exact I1.fpOk (My _) #[262]
theorem GL {l:Expr}{tl:TE}(hl:PE X l tl):PI X tg l (LJ X.K tl):=by
 intro pins s σ H R I h
 refine bc (hl pins s σ H _ I h) fun v s1 ⟨x,H1,I1,r1,q1⟩=>?_
 obtain ⟨a,e,⟨xs,hq⟩,q⟩:=q1
 subst e
 cases r1
 obtain ⟨its,rv,p,hz⟩:=I1.tuple hq
 refine wpAny_pyIter_tuple (show s1.heap.IsTuple a its.toArray from p) ?_
 refine ⟨s1.heap.objs.size,[s1.heap.objs.size],_,_,H1,rfl,I1.kept (t':=s1.toks) fun b o e=>Mp _ e,wz a _,⟨_,MG _ rfl,rfl,rfl⟩,fun b hb=>?_,q⟩
 have e:b=s1.heap.objs.size:=by simpa using hb
 subst e
 exact I1.fpOk (My _) #[262]
theorem Bw {pins:List #[15]}{σ:St}{H:Hp}{s:Mx}{R:It->Hp->Prop}{E:Mq->Mx->Prop}{lo hi:Int}{t u v:Tok}{tk:Nat}(I:Inv X pins σ H s)(h1:-(2^62)<=lo)(h2:lo<2^62)(h3:-(2^62)<=hi)(h4:hi<2^62)
 (q:R (Dv lo (hi-lo).toNat) H):wpAny #[2] X.A (pyIter #[49]) (Dt X pins σ tg R) E {s with heap:=s.heap.push {cls:=.type "range",data:=.fields #[.int lo t,.int hi u,.int 1 v]},toks:=tk}:=by
 refine wpAny_pyIter_range (IsRange.new ..) (small_one h1 h2 h3 h4) ?_
 have I1:Inv X pins σ H {s with heap:=s.heap.push {cls:=.type "range",data:=.fields #[.int lo t,.int hi u,.int 1 v]},toks:=tk}:=I.kept fun b o e=>Mp _ e
 refine ⟨#[64].objs.size,[#[64].objs.size],_,_,H,rfl,
  I1.kept (t':=tk) fun b o e=>Mp _ e,wA _ lo (hi-lo).toNat,?_,fun b hb=>?_,q⟩
 ·have e1:lo+((0:Nat):Int)*1=lo:=by simp
  have e2:(((hi-lo).toNat:Nat):Int)-((0:Nat):Int)=Builtin.Range.rangeSize lo hi 1:=by rw [rangeSize_one];split<;>omega
  show IsRangeIter _ _ (lo+((0:Nat):Int)*1) ((((hi-lo).toNat:Nat):Int)-((0:Nat):Int)) 1
  rw [e1,e2]
  exact MG _ rfl
 ·have e:b=#[64].objs.size:=by simpa using hb
  subst e
  exact I1.fpOk (My _) #[262]
def JE (ta:TA):TI:=fun σ H R=>ta σ H fun vs H1=>∃j:Int,vs=[.int j]/\-(2^62)<=j/\j<2^62/\R (Dv 0 j.toNat) H1
theorem yZ {a:Expr}{ta:TA}{p pos:Pos}(hg:Gl X "range")(hm:X.mg "range"=none)(ha:PA X [a] ta)(hs:starEach [a] X.env=[#[42]]:=by rfl):PI X tg (.Call (.Name "range" p) [a] [] pos) (JE ta):=by
 intro pins s σ H R I h
 refine Call_ (ie I hg hm boot_range (NH (bc (ha pos pins s σ H _ I h) fun us s1 ⟨vs,H1,I1,r1,q1⟩=>?_) hs rfl))
 obtain ⟨j,e,q1,q2,q⟩:=q1
 subst e
 cases r1 with
 | cons r rr =>
   cases rr
   obtain ⟨t,rfl⟩:=r
   exact call_range_1 (Bw I1 #[0] #[0] q1 q2 #[116])
def K5 (wi:TI)(g:TG)(tb:TS):TS:=fun D σ H=>wi σ H fun J H1=>∃W:Nat->Nat->St->Hp->Prop,(∃m,W 0 m σ H1)/\∀i m σ H,W i m σ H->
 (J.stop i H/\D.nx σ H)\/(J.go i H/\∃N:St->Hp->Prop,(∀σ' H',N σ' H'->∃m',m'<m/\W (i+1) m' σ' H')/\∀x H',J.yld i H x H'->g x σ H' fun σ2 H2=>tb {D with nx:=N,ct:=N,bk:=D.nx} σ2 H2)
def pb (fp:List Addr)(h:Heap):List #[15]:=fp.filterMap fun b=>(h.get? b).map fun o=>(b,o)
theorem jw {fp:List Addr}{h:Heap}{b:Addr}{o:Obj}(hb:b∈fp)(e:h.get? b=some o):(b,o)∈pb fp h:=List.mem_filterMap.mpr ⟨b,hb,by rw [e];rfl⟩
theorem zj {fp:List Addr}{h:Heap}{p:Addr×Obj}(hp:p∈pb fp h):p.1∈fp/\h.get? p.1=some p.2:=by
 obtain ⟨b,hb,e⟩:=List.mem_filterMap.mp hp
 cases q:h.get? b with
 |none=>rw [q] at e;cases e
 | some o =>
   rw [q] at e
   have e':(b,o)=p:=MA e
   subst e'
   exact ⟨hb,q⟩
theorem Inv.pinned {pins:List #[15]}{σ:St}{H:Hp}{s:Mx}{fp:List Addr}(I:Inv X pins σ H s)(hf:∀b∈fp,gz X pins H b)(ho:∀b∈fp,∃o,s.heap.get? b=some o/\∀v,o.data≠.cell v):Inv X (pins++pb fp s.heap) σ H s:=
 I.pins_of fun p hp=>(Nh.mp hp).elim (fun z=>I.pin p (Nq _ z)) fun z=>by
  obtain ⟨hb,e⟩:=zj z
  obtain ⟨f0,f1,f2,_⟩:=hf p.1 hb
  obtain ⟨o,e',d⟩:=ho p.1 hb
  rw [e] at e';cases e'
  exact ⟨e,f0,f1,f2,d⟩
theorem Inv.unpinned {pins pl:List #[15]}{σ:St}{H:Hp}{s:Mx}(I:Inv X (pins++pl) σ H s):Inv X pins σ H s:=I.pins_of fun p hp=>I.pin p (Nq _ (N2 _ hp))
theorem GJ {iter:Expr}{body:List Stmt}{wi:TI}{g:TG}{tb:TS}{pos:Pos}(hp:PassesOwn #[2] X.A X.env X.xe)(hc:X.calm=true)(hi:PI X tg iter wi)(hg:PG X tg g)(hb:mT X body tb)
 (hs:∀x,foldedSetIterable iter X.env x=pure x:=by intro _;rfl):PS X (.For tg iter body [] pos) (K5 wi g tb):=by
 intro pins s σ H D I h
 refine wpAny_For (bc (hi pins s σ H _ I h) fun v s1 h1=>bc h1 fun itv s2 h2=>?_) hs
 obtain ⟨it,fp,tn,J,H2,e,I2,T,st2,f2,W,⟨m0,w0⟩,turn⟩:=h2
 subst e
 have stat:∀{H':Hp},#[193]->∀b∈fp,gz X pins H' b:=fun hn b hb=>⟨hn b hb,(f2 b hb).2⟩
 refine codeAny_forLoop_any (fun n s'=>∃i σ' H',Inv X pins σ' H' s'/\tn i s'.heap/\#[193]/\W i n σ' H') ?_ m0 ⟨0,σ,H2,I2,st2,fun b hb=>(f2 b hb).1,w0⟩
 rintro n s3 ⟨i,σ3,H3,I3,st3,fr3,w3⟩
 rcases turn i n σ3 H3 w3 with ⟨stop,qn⟩|⟨go,N,hN,step⟩
 ·refine wpAny_passesOwn hp (bc (T.done X rfl rfl rfl hc i pins s3 σ3 H3 X.xe I3 (stat fr3) st3 stop) fun r s4 ⟨hr,I4⟩=>?_)
  subst hr
  exact wpAny_execs_nil ⟨σ3,H3,I4,qn⟩
 ·refine wpAny_passesOwn hp (bc (T.item X rfl rfl rfl hc i pins s3 σ3 H3 X.xe I3 (stat fr3) st3 go) fun r s4 ⟨u,hr,h4⟩=>?_)
  subst hr
  refine wpAny_passesOwn hp (bc h4 fun _ s5 ⟨x,H5,I5,r5,y5,st5,fr5⟩=>?_)
  have I5':=I5.pinned (stat fr5) (T.obj _ _ st5)
  refine wpAny_passesOwn hp (bc (hg _ s5 σ3 H5 x u _ I5' r5 (step x H5 y5)) fun _ s6 ⟨σ6,H6,I6,q6⟩=>?_)
  refine wpAny_passesOwn hp (bc (hb _ s6 σ6 H6 _ I6 q6) fun f s7 q7=>?_)
  have again:∀{σ7:St}{H7:Hp},Inv X (pins++pb fp s5.heap) σ7 H7 s7->N σ7 H7->∃m,m<n/\∃i σ' H',Inv X pins σ' H' s7/\tn i s7.heap/\#[193]/\W i m σ' H':=fun {σ7 H7} I7 n7=>by
   obtain ⟨m',hm,w7⟩:=hN σ7 H7 n7
   refine ⟨m',hm,i+1,σ7,H7,I7.unpinned,T.keep _ _ _ st5 fun b hb o e=>#[117].1,fun b hb=>?_,w7⟩
   obtain ⟨o,e,d⟩:=T.obj _ _ st5 b hb
   exact #[117].2.1
  cases f with
  |next=>obtain ⟨σ7,H7,I7,n7⟩:=q7;exact again I7 n7
  |cont=>obtain ⟨σ7,H7,I7,n7⟩:=q7;exact again I7 n7
  |brk=>obtain ⟨σ7,H7,I7,q7⟩:=q7;exact ⟨σ7,H7,I7.unpinned,q7⟩
  |ret v=>obtain ⟨x7,σ7,H7,I7,r7,q7⟩:=q7;exact ⟨x7,σ7,H7,I7.unpinned,r7,q7⟩
end
end L2
namespace L2
open PySem PySem.Spec PyProof.Rows
abbrev R2:=V->V->Hp->VK->Prop
def bY (X:Cx)(f:Mq->Mq->Sem Mq)(r:R2):Prop:=
 ∀(pins:List #[15]) (s:Mx) (σ:St) (H:Hp) (x y:V) (v u:Mq) (Q:VK),Inv X pins σ H s->RelV x v->RelV y u->r x y H Q->
  wpAny #[2] X.A (f v u) #[27] X.xe s
def Iy (X:Cx)(f:Mq->Sem Mq)(r:V->Hp->VK->Prop):Prop:=
 ∀(pins:List #[15]) (s:Mx) (σ:St) (H:Hp) (x:V) (v:Mq) (Q:VK),Inv X pins σ H s->RelV x v->r x H Q->
  wpAny #[2] X.A (f v) #[27] X.xe s
def di (X:Cx)(f:Mq)(r:List V->Hp->VK->Prop):Prop:=
 ∀(pins:List #[15]) (s:Mx) (σ:St) (H:Hp) (xs:List V) (us:List Mq) (Q:VK),Inv X pins σ H s->Vals xs us->r xs H Q->
  wpAny #[2] X.A (call f us) #[27] X.xe s
def L8 (X:Cx)(r:V->Hp->(Bool->Hp->Prop)->Prop):Prop:=
 ∀(pins:List #[15]) (s:Mx) (σ:St) (H:Hp) (x:V) (v:Mq) (Q:Bool->Hp->Prop),Inv X pins σ H s->RelV x v->r x H Q->
  wpAny #[2] X.A (truthy v) (TP X pins σ Q) X.xe s
def yy (r:R2)(ta tb:TE):TE:=fun σ H Q=>ta σ H fun x H1=>tb σ H1 fun y H2=>r x y H2 Q
def tUn (r:V->Hp->VK->Prop)(ta:TE):TE:=fun σ H Q=>ta σ H fun x H1=>r x H1 Q
def rI (C:Int->Int->Prop)(g:Int->Int->V):R2:=fun x y H Q=>∃i j,x=.int i/\y=.int j/\C i j/\Q (g i j) H
def rj (g:Int->Int->V):R2:=fun x y H Q=>∃i j,x=.int i/\y=.int j/\Q (g i j) H
def rU (g:Int->V):V->Hp->VK->Prop:=fun x H Q=>∃i,x=.int i/\Q (g i) H
section
variable {X:Cx}{a b c:Expr}{ta tb tc:TE}{pos:Pos}
theorem Co (ha:PE X a ta)(hb:PE X b tb){pins:List #[15]}{s:Mx}{σ:St}{H:Hp}{R:V->V->Hp->Prop}(I:Inv X pins σ H s)
 (h:ta σ H fun x H1=>tb σ H1 fun y H2=>R x y H2) {Q:Mq->Mx->Prop}{f:Mq->Mq->Sem Mq}
 (hf:∀v u s2 x y H2,Inv X pins σ H2 s2->RelV x v->RelV y u->R x y H2->wpAny #[2] X.A (f v u) Q X.xe s2) :
 wpAny #[2] X.A #[281] #[115] X.xe s:=by
 refine bc #[38] fun v s1 ⟨x,H1,I1,r1,q1⟩=>?_
 refine bc #[168] fun u s2 ⟨y,H2,I2,r2,q2⟩=>?_
 exact hf v u s2 x y H2 I2 r1 r2 q2
theorem Jo {op:Operator}{r:R2}(ho:bY X (binaryOp op) r)(ha:PE X a ta)(hb:PE X b tb):PE X (.BinOp a op b pos) (yy r ta tb):=by
 intro pins s σ H Q I h
 exact wpAny_BinOp #[185]
theorem CS {op:UnaryOp}{r:V->Hp->VK->Prop}(ho:Iy X (unaryOp op) r)(ha:PE X a ta):PE X (.UnaryOp op a pos) (tUn r ta):=by
 intro pins s σ H Q I h
 exact UnaryOp_ (bc #[38] fun v s1 ⟨x,H1,I1,r1,q1⟩=>ho pins s1 σ H1 x v Q I1 r1 q1)
theorem CV {f:Mq->Mq->Sem Mq}{C:Int->Int->Prop}{g:Int->Int->Int}
 (rule:∀(i j:Int) (t u:Tok) (s:Mx) (Q:Mq->Mx->Prop) (E:Mq->Mx->Prop),C i j->Q (.int (g i j) s.toks) {s with toks:=s.toks+1}->wpAny #[2] X.A (f (.int i t) (.int j u)) Q E s) :
 bY X f (rI C fun i j=>.int (g i j)):=by
 intro pins s σ H x y v u Q I rx ry h
 obtain ⟨i,j,rfl,rfl,hc,q⟩:=h
 obtain ⟨t,rfl⟩:=rx
 obtain ⟨t',rfl⟩:=ry
 exact rule i j t t' s _ _ hc ⟨.int (g i j),H,I.tok _,⟨_,rfl⟩,q⟩
theorem Hc {f:Mq->Mq->Sem Mq}{g:Int->Int->Int}
 (rule:∀(i j:Int) (t u:Tok) (s:Mx) (Q:Mq->Mx->Prop) (E:Mq->Mx->Prop),Q (.int (g i j) s.toks) {s with toks:=s.toks+1}->wpAny #[2] X.A (f (.int i t) (.int j u)) Q E s) :
 bY X f (rj fun i j=>.int (g i j)):=by
 intro pins s σ H x y v u Q I rx ry h
 obtain ⟨i,j,rfl,rfl,q⟩:=h
 obtain ⟨t,rfl⟩:=rx
 obtain ⟨t',rfl⟩:=ry
 exact rule i j t t' s _ _ ⟨.int (g i j),H,I.tok _,⟨_,rfl⟩,q⟩
theorem wX {f:Mq->Mq->Sem Mq}{g:Int->Int->Bool}
 (rule:∀(i j:Int) (t u:Tok) (s:Mx) (Q:Mq->Mx->Prop) (E:Mq->Mx->Prop),Q (.bool (g i j)) s->wpAny #[2] X.A (f (.int i t) (.int j u)) Q E s) :
 bY X f (rj fun i j=>.bl (g i j)):=by
 intro pins s σ H x y v u Q I rx ry h
 obtain ⟨i,j,rfl,rfl,q⟩:=h
 obtain ⟨t,rfl⟩:=rx
 obtain ⟨t',rfl⟩:=ry
 exact rule i j t t' s _ _ ⟨.bl (g i j),H,I,rfl,q⟩
def IP (i j:Int):Prop:=0<j/\j<1073741824
def IM (i j:Int):Prop:=0<=j/\j<=1000000/\i.natAbs<2^64
def Cy (i j:Int):Prop:=(-(2^64)<i/\i<2^64)\/(-(2^64)<j/\j<2^64)
theorem Cy.ok {i j:Int}(h:Cy i j):IntMulOk i j:=by
 rcases h with ⟨h1,h2⟩|⟨h1,h2⟩
 ·exact .of_left (intBits_le_64 h1 h2)
 ·exact .of_right (intBits_le_64 h1 h2)
theorem Hb:bY X (binaryOp .Add) (rj fun i j=>.int (i+j)):=Hc fun _ _ _ _ _ _ _ q=>add_int q
theorem G4:bY X (binaryOp .Sub) (rj fun i j=>.int (i-j)):=Hc fun _ _ _ _ _ _ _ q=>sub_int q
theorem G7:bY X (binaryOp .Mult) (rI Cy fun i j=>.int (i*j)):=CV fun _ _ _ _ _ _ _ hc q=>mul_int q hc.ok
theorem EO:bY X (binaryOp .FloorDiv) (rI IP fun i j=>.int (i / j)):=CV fun i j _ _ _ _ _ hc q=>by
 have h1:(0:Int)<j:=hc.1
 have h2:j<1073741824:=hc.2
 exact floordiv_int #[0] (by rw [Int.fdiv_eq_ediv_of_nonneg i #[0]];exact q) (.inl (PyProof.noPylong_small #[0]))
theorem G8:bY X (binaryOp .Mod) (rI (fun _ j=>0<j) fun i j=>.int (i % j)):=CV fun i j _ _ _ _ _ hc q=>by
 have h1:(0:Int)<j:=hc
 exact mod_int' #[0] (by rw [Int.fmod_eq_emod_of_nonneg i #[0]];exact q)
theorem G6:bY X (binaryOp .Pow) (rI IM fun i j=>.int (i^j.toNat)):=CV fun _ _ _ _ _ _ _ hc q=>pow_int_small hc.1 hc.2.1 hc.2.2 q
theorem unI {f:Mq->Sem Mq}{g:Int->Int}
 (rule:∀(i:Int) (t:Tok) (s:Mx) (Q:Mq->Mx->Prop) (E:Mq->Mx->Prop),Q (.int (g i) s.toks) {s with toks:=s.toks+1}->wpAny #[2] X.A (f (.int i t)) Q E s) :
 Iy X f (rU fun i=>.int (g i)):=by
 intro pins s σ H x v Q I rx h
 obtain ⟨i,rfl,q⟩:=h
 obtain ⟨t,rfl⟩:=rx
 exact rule i t s _ _ ⟨.int (g i),H,I.tok _,⟨_,rfl⟩,q⟩
theorem yi:Iy X (unaryOp .USub) (rU fun i=>.int (-i)):=unI fun _ _ _ _ _ q=>neg_int q
end
def Gb:V->V->Bool
 |.non,.non=>true|.non,.int _=>true|.int _,.non=>true|.non,.bl _=>true|.bl _,.non=>true|.non,.str _=>true|.str _,.non=>true
 |.int _,.int _=>true|.bl _,.bl _=>true|.str _,.str _=>true|.byt _,.byt _=>true
 |.int _,.str _=>true|.str _,.int _=>true|.bl _,.str _=>true|.str _,.bl _=>true
 |_,_=>false
def rEq:R2:=fun x y H Q=>Gb x y=true/\Q (.bl (decide (x=y))) H
def rNe:R2:=fun x y H Q=>Gb x y=true/\Q (.bl (!decide (x=y))) H
theorem vZ {i j:Int}:decide (V.int i=V.int j)=(i==j):=by
 rw [N8]
 simp
theorem zU {i j:Bool}:decide (V.bl i=V.bl j)=(i==j):=by
 rw [N8]
 simp
theorem nz {i j:Str}:decide (V.str i=V.str j)=(i==j):=by
 rw [N8]
 simp
theorem v7 {i j:Array UInt8}:decide (V.byt i=V.byt j)=(i.toList==j.toList):=by
 rw [N8]
 cases i
 cases j
 simp
section
variable {X:Cx}{a b c:Expr}{ta tb tc:TE}{pos:Pos}
theorem bC {pins:List #[15]}{σ:St}{H:Hp}{s:Mx}{Q:VK}{k k':Bool}(I:Inv X pins σ H s)(q:Q (.bl k) H)(e:k=k'):EP X pins σ Q (.bool k') s:=by
 subst e
 exact ⟨.bl k,H,I,rfl,q⟩
theorem Jy:bY X (compareOp .Eq) rEq:=by
 intro pins s σ H x y v u Q I rx ry h
 obtain ⟨hs,q⟩:=h
 cases x with
 | non =>
   cases rx
   cases y with
   |non=>cases ry;exact PySem.EqNone.eq_none_none #[26]
   |bl j=>cases ry;exact PySem.EqNone.eq_none_bool #[26]
   |int j=>obtain ⟨t',rfl⟩:=ry;exact PySem.EqNone.eq_none_int #[26]
   |str j=>obtain ⟨t',rfl⟩:=ry;exact PySem.EqNone.eq_none_str #[26]
   |_=>exact absurd (show false=true from hs) Nf
 | bl i =>
   cases rx
   cases y with
   |non=>cases ry;exact PySem.EqNone.eq_bool_none #[26]
   |bl j=>cases ry;exact eq_bool (bC I q zU)
   |str j=>obtain ⟨t',rfl⟩:=ry;exact PySem.EqMixed.eq_bool_str #[26]
   |_=>exact absurd (show false=true from hs) Nf
 | int i =>
   obtain ⟨t,rfl⟩:=rx
   cases y with
   |non=>cases ry;exact PySem.EqNone.eq_int_none #[26]
   |int j=>obtain ⟨t',rfl⟩:=ry;exact eq_int (bC I q vZ)
   |str j=>obtain ⟨t',rfl⟩:=ry;exact PySem.EqMixed.eq_int_str #[26]
   |_=>exact absurd (show false=true from hs) Nf
 | str i =>
   obtain ⟨t,rfl⟩:=rx
   cases y with
   |non=>cases ry;exact PySem.EqNone.eq_str_none #[26]
   |bl j=>cases ry;exact PySem.EqMixed.eq_str_bool #[26]
   |int j=>obtain ⟨t',rfl⟩:=ry;exact PySem.EqMixed.eq_str_int #[26]
   |str j=>obtain ⟨t',rfl⟩:=ry;exact eq_str (bC I q nz)
   |_=>exact absurd (show false=true from hs) Nf
 | byt i =>
   obtain ⟨t,rfl⟩:=rx
   cases y with
   |byt j=>obtain ⟨t',rfl⟩:=ry;exact PySem.W.eq_bytes (bC I q v7)
   |_=>exact absurd (show false=true from hs) Nf
 |_=>cases y<;>exact absurd (show false=true from hs) Nf
theorem Jt:bY X (compareOp .NotEq) rNe:=by
 intro pins s σ H x y v u Q I rx ry h
 obtain ⟨hs,q⟩:=h
 cases x with
 | non =>
   cases rx
   cases y with
   |non=>cases ry;exact PySem.EqNone.ne_none_none #[26]
   |bl j=>cases ry;exact PySem.EqNone.ne_none_bool #[26]
   |int j=>obtain ⟨t',rfl⟩:=ry;exact PySem.EqNone.ne_none_int #[26]
   |str j=>obtain ⟨t',rfl⟩:=ry;exact PySem.EqNone.ne_none_str #[26]
   |_=>exact absurd (show false=true from hs) Nf
 | bl i =>
   cases rx
   cases y with
   |non=>cases ry;exact PySem.EqNone.ne_bool_none #[26]
   |bl j=>cases ry;exact ne_bool (bC I q (congrArg not zU))
   |str j=>obtain ⟨t',rfl⟩:=ry;exact PySem.EqMixed.ne_bool_str #[26]
   |_=>exact absurd (show false=true from hs) Nf
 | int i =>
   obtain ⟨t,rfl⟩:=rx
   cases y with
   |non=>cases ry;exact PySem.EqNone.ne_int_none #[26]
   |int j=>obtain ⟨t',rfl⟩:=ry;exact ne_int (bC I q (congrArg not vZ))
   |str j=>obtain ⟨t',rfl⟩:=ry;exact PySem.EqMixed.ne_int_str #[26]
   |_=>exact absurd (show false=true from hs) Nf
 | str i =>
   obtain ⟨t,rfl⟩:=rx
   cases y with
   |non=>cases ry;exact PySem.EqNone.ne_str_none #[26]
   |bl j=>cases ry;exact PySem.EqMixed.ne_str_bool #[26]
   |int j=>obtain ⟨t',rfl⟩:=ry;exact PySem.EqMixed.ne_str_int #[26]
   |str j=>obtain ⟨t',rfl⟩:=ry;exact ne_str (bC I q (congrArg not nz))
   |_=>exact absurd (show false=true from hs) Nf
 | byt i =>
   obtain ⟨t,rfl⟩:=rx
   cases y with
   |byt j=>obtain ⟨t',rfl⟩:=ry;exact PySem.W.ne_bytes (bC I q (congrArg not v7))
   |_=>exact absurd (show false=true from hs) Nf
 |_=>cases y<;>exact absurd (show false=true from hs) Nf
theorem Ju:bY X (compareOp .Lt) (rj fun i j=>.bl (decide (i<j))):=wX fun _ _ _ _ _ _ _ q=>lt_int q
theorem Jv:bY X (compareOp .LtE) (rj fun i j=>.bl (decide (i<=j))):=wX fun _ _ _ _ _ _ _ q=>le_int q
theorem Jw:bY X (compareOp .Gt) (rj fun i j=>.bl (decide (j<i))):=wX fun _ _ _ _ _ _ _ q=>gt_int q
theorem Jx:bY X (compareOp .GtE) (rj fun i j=>.bl (decide (j<=i))):=wX fun _ _ _ _ _ _ _ q=>ge_int q
theorem zi:bY X (compareOp .In) (fun x y H Q=>∃i j,x=.str i/\y=.str j/\Q (.bl #[345]) H):=by
 intro pins s σ H x y v u Q I rx ry h
 obtain ⟨i,j,rfl,rfl,q⟩:=h
 obtain ⟨t,rfl⟩:=rx
 obtain ⟨t',rfl⟩:=ry
 exact in_str (bC I q rfl)
theorem G9:bY X (compareOp .Is) (fun x y H Q=>y=.non/\Q (.bl (decide (x=.non))) H):=by
 intro pins s σ H x y v u Q I rx ry h
 obtain ⟨rfl,q⟩:=h
 cases ry
 refine is_none_gen (bC I q ?_)
 cases x<;>first
  |(cases rx;rfl)
  |(obtain ⟨t,rfl⟩:=rx;rfl)
theorem EN:bY X (compareOp .IsNot) (fun x y H Q=>y=.non/\Q (.bl (!decide (x=.non))) H):=by
 intro pins s σ H x y v u Q I rx ry h
 obtain ⟨rfl,q⟩:=h
 cases ry
 refine isnot_none_gen (bC I q ?_)
 cases x<;>first
  |(cases rx;rfl)
  |(obtain ⟨t,rfl⟩:=rx;rfl)
theorem t8:bY X (compareOp .NotIn) (fun x y H Q=>∃i j,x=.str i/\y=.str j/\Q (.bl (!#[345])) H):=by
 intro pins s σ H x y v u Q I rx ry h
 obtain ⟨i,j,rfl,rfl,q⟩:=h
 obtain ⟨t,rfl⟩:=rx
 obtain ⟨t',rfl⟩:=ry
 exact notIn_str (bC I q rfl)
theorem vG {op:CmpOp}{r:R2}(ho:bY X (compareOp op) r)(ha:PE X a ta)(hb:PE X b tb)(hm:behindInMarks op b=false):PE X (.Compare a [op] [b] pos) (yy r ta tb):=by
 intro pins s σ H Q I h
 exact wpAny_Compare1 #[185] hm
def CI (t:TE):TT:=fun σ H Q=>t σ H fun x H'=>∃k,x=.bl k/\Q k H'
theorem qh {op:CmpOp}{r:R2}(ho:bY X (compareOp op) r)(ha:PE X a ta)(hb:PE X b tb)(hm:behindInMarks op b=false):PT X (.Compare a [op] [b] pos) (CI (yy r ta tb)):=by
 intro pins s σ H Q I h
 refine wpAny_isTrue_Compare1 (bc #[38] fun v s1 ⟨x,H1,I1,r1,q1⟩=>bc #[168] fun u s2 ⟨y,H2,I2,r2,q2⟩=>
  bc #[229] fun c s3 ⟨z,H3,I3,r3,k,e,q3⟩=>?_) hm
 subst e
 cases r3
 exact tqp ⟨H3,I3,q3⟩
def td (r r':R2)(ta tb tc:TE):TE:=fun σ H Q=>ta σ H fun x H1=>tb σ H1 fun y H2=>r x y H2 fun z H3=>∃k,z=.bl k/\
 (if k=true then tc σ H3 fun w' H4=>r' y w' H4 Q else Q #[99] H3)
theorem BC {op op':CmpOp}{r r':R2}(ho:bY X (compareOp op) r)(ho':bY X (compareOp op') r')(ha:PE X a ta)(hb:PE X b tb)(hc:PE X c tc)
 (hm:lastMarks [op,op'] [b,c]=false:=by with_unfolding_all rfl):PE X (.Compare a [op,op'] [b,c] pos) (td r r' ta tb tc):=by
 intro pins s σ H Q I h
 refine Compare_chain (bc #[38] fun v s1 ⟨x,H1,I1,r1,q1⟩=>chain_link (bc #[168] fun u s2 ⟨y,H2,I2,r2,q2⟩=>
  bc #[229] fun d s3 ⟨z,H3,I3,r3,k,e,q3⟩=>?_)) hm
 subst e
 cases r3
 refine tqp ?_
 cases k with
 |false=>exact ite_ff ⟨.bl false,H3,I3,rfl,q3⟩
 |true=>exact ite_tt (chain_last (bc (hc pins s3 σ H3 _ I3 q3) fun w' s4 ⟨z',H4,I4,r4,q4⟩=>ho' pins s4 σ H4 y z' u w' Q I4 r2 r4 q4))
theorem By {op op':CmpOp}{r r':R2}(ho:bY X (compareOp op) r)(ho':bY X (compareOp op') r')(ha:PE X a ta)(hb:PE X b tb)(hc:PE X c tc)
 (hm:lastMarks [op,op'] [b,c]=false:=by with_unfolding_all rfl):PT X (.Compare a [op,op'] [b,c] pos) (CI (td r r' ta tb tc)):=by
 intro pins s σ H Q I h
 refine isTrue_chain (bc #[38] fun v s1 ⟨x,H1,I1,r1,q1⟩=>test_link (bc #[168] fun u s2 ⟨y,H2,I2,r2,q2⟩=>
  bc #[229] fun d s3 ⟨z,H3,I3,r3,k,e,q3⟩=>?_)) hm
 subst e
 cases r3
 refine tqp ?_
 cases k with
 | false =>
   obtain ⟨k',e',q'⟩:=q3
   cases e'
   exact ite_ff ⟨H3,I3,q'⟩
 | true =>
   refine ite_tt (test_last (bc (hc pins s3 σ H3 _ I3 q3) fun w' s4 ⟨z',H4,I4,r4,q4⟩=>bc (ho' pins s4 σ H4 y z' u w' _ I4 r2 r4 q4) fun d' s5 ⟨z2,H5,I5,r5,k2,e2,q5⟩=>?_))
   subst e2
   cases r5
   exact tqp ⟨H5,I5,q5⟩
def Cr (K:Mr)(x:V)(H:Hp)(k:Bool):Prop:=
 match x with
 |.non=>k=false
 |.bl b=>k=b
 |.int i=>k=(i != 0)
 |.str y=>y.length<=sizeLine/\k=((y.length:Int) != 0)
 |.byt y=>y.size<=sizeLine/\k=((y.size:Int) != 0)
 |.ref p=>(∃xs,c9 K H p xs/\k=!xs.isEmpty)\/(∃xs,dO K H p xs/\k=!xs.isEmpty)\/∃kvs,H p=some (.dK kvs)/\k=!kvs.isEmpty
 |_=>False
theorem xv {κ:Type}{kvs:List (κ×V)}{vs:List (κ×Mq)}(r:KV kvs vs):(!vs.isEmpty)=!kvs.isEmpty:=by
 cases r<;>rfl
theorem pF {xs:List V}{its:List Mq}(r:Vals xs its):(!its.toArray.isEmpty)=!xs.isEmpty:=by
 cases r<;>simp
theorem jY:(sizeLine:Nat)<2^63:=by rw [sizeLine_eq];decide
theorem FZ:L8 X (fun x H Q=>∃k,Cr X.K x H k/\Q k H):=by
 intro pins s σ H x v Q I rx h
 obtain ⟨k,e,q⟩:=h
 have hl:=jY
 have hs:sizeLine=16777216:=sizeLine_eq
 cases x with
 | non =>
   cases rx
   have e':k=false:=e
   subst e'
   exact truthy_none ⟨H,I,q⟩
 | bl b =>
   cases rx
   have e':k=b:=e
   subst e'
   exact tqp ⟨H,I,q⟩
 | int i =>
   obtain ⟨t,rfl⟩:=rx
   have e':k=(i != 0):=e
   subst e'
   exact PySem.P.truthy_int ⟨H,I,q⟩
 | str y =>
   obtain ⟨t,rfl⟩:=rx
   obtain ⟨hy,e'⟩:y.length<=sizeLine/\k=((y.length:Int) != 0):=e
   subst e'
   exact PySem.P.truthy_str #[0] ⟨H,I.tok _,q⟩
 | byt y =>
   obtain ⟨t,rfl⟩:=rx
   obtain ⟨hy,e'⟩:y.size<=sizeLine/\k=((y.size:Int) != 0):=e
   subst e'
   exact PySem.W.truthy_bytes #[0] ⟨H,I.tok _,q⟩
 | ref p =>
   cases rx
   have e':(∃xs,c9 X.K H p xs/\k=!xs.isEmpty)\/(∃xs,dO X.K H p xs/\k=!xs.isEmpty)\/∃kvs,H p=some (.dK kvs)/\k=!kvs.isEmpty:=e
   rcases e' with ⟨xs,hx,e'⟩|⟨xs,hx,e'⟩|⟨kvs,hx,e'⟩
   ·subst e'
    obtain ⟨its,r,pl,hz⟩:=I.list hx
    have hlen:=r.length
    exact wpAny_truthy_list pl.isList (by simp only [MB];omega) ⟨H,I.tok _,by rw [pF r];exact q⟩
   ·subst e'
    obtain ⟨its,r,pl,hz⟩:=I.tuple hx
    have hlen:=r.length
    exact truthy_tuple pl (by simp only [MB];omega) ⟨H,I.tok _,by rw [pF r];exact q⟩
   ·subst e'
    obtain ⟨hz,hS,vs,r,m⟩:kvs.length<=sizeLine/\(p==sysModules)=false/\∃vs,KV kvs vs/\s.heap.DictOf (kW X.prog X.w) p vs:=I.hok p _ hx
    have hlen:kvs.length=vs.length:=Paired.length r
    exact wpAny_truthy_dict hS m #[0] ⟨H,I.tok _,by rw [xv r];exact q⟩
 |_=>exact (show False from e).elim
theorem Bx (ha:PE X a ta)(he:∀whole,isTrue a X.env whole=(do let v <- whole;standAt a.pos;holding [v] (truthy v))) :
 PT X a (fun σ H Q=>ta σ H fun x H'=>∃k,Cr X.K x H' k/\Q k H'):=by
 intro pins s σ H Q I h
 exact isTrue_plain (bc #[38] fun v s1 ⟨x,H1,I1,r1,q1⟩=>FZ pins s1 σ H1 x v Q I1 r1 q1) (he _)
theorem wW:bY X (binaryOp .Add) (fun x y H Q=>∃i j,x=.str i/\y=.str j/\i.length+j.length<=sizeLine/\Q (.str (i++j)) H):=by
 intro pins s σ H x y v u Q I rx ry h
 obtain ⟨i,j,rfl,rfl,hz,q⟩:=h
 obtain ⟨t,rfl⟩:=rx
 obtain ⟨t',rfl⟩:=ry
 exact add_str (fun t' tk=>⟨.str (i++j),H,I.tok _,⟨_,rfl⟩,q⟩) hz
theorem vals1 {x:V}{us:List Mq}(r:Vals [x] us):∃u,us=[u]/\RelV x u:=by
 cases r with
 |cons r1 r2=>cases r2;exact ⟨_,rfl,r1⟩
theorem vals2 {x y:V}{us:List Mq}(r:Vals [x,y] us):∃u w',us=[u,w']/\RelV x u/\RelV y w':=by
 cases r with
 | cons r1 r2 =>
   cases r2 with
   |cons r3 r4=>cases r4;exact ⟨_,_,rfl,r1,r3⟩
end
end L2
namespace L2
open PySem PySem.Spec PyProof.Rows
structure Cw (h:Heap) (x dx C:Addr) (mA:Str->Option Mq):Prop where
 obj:h.get? x=some (PySem.W.instObj C dx)
 ns:h.Ns1 dx mA
 ne:dx≠x
theorem rC {h:Heap}{dx:Addr}{mA:Str->Option Mq}(n:h.Ns1 dx mA):∃od,h.get? dx=some od/\∀name,PySem.W.lookIn name od=some (mA name):=by
 obtain ⟨o,es,ep,ho,hd,hk,_,hm⟩:=n
 refine ⟨o,ho,fun name=>?_⟩
 have e:=hm name
 unfold nsFind findBy at e
 rw [<- Array.find?_toList] at e
 unfold PySem.W.lookIn
 rw [hd]
 dsimp only
 split
 ·rename_i y q
  rw [q] at e
  exact congrArg some e
 ·rename_i q
  rw [q] at e
  have a:es.toList.any (·.refKey)=false:=by
   rw [Py]
   intro y hy
   obtain ⟨z,t,hkey⟩:=hk y (Array.mem_toList_iff.mp hy)
   simp [DictEntry.refKey,hkey]
  have a':¬ es.toList.any (·.refKey)=true:=by rw [a];exact Nf
  rw [if_neg a']
  exact congrArg some e
theorem Cw.look {h:Heap}{x dx C:Addr}{mA:Str->Option Mq}(I:Cw h x dx C mA):∃od,N6 h x (PySem.W.instObj C dx) C (some od)/\∀name,PySem.W.lookIn name od=some (mA name):=
 let ⟨od,ho,hl⟩:=rC I.ns
 ⟨od,⟨I.obj,rfl,rfl,ho⟩,hl⟩
theorem qN.some_of {v:V}{o:Option Mq}(r:qN (some v) o):∃u,o=some u/\RelV v u:=by
 cases o with
 |none=>exact (show False from r).elim
 |some u=>exact ⟨u,rfl,r⟩
section
variable {P:MP}{w:Nd}{H H':Hp}{h h':Heap}{a C dx:Addr}{fs fs':List (Str×V)}
theorem E4 (hok:eY P w H h)(e:H a=some (.ins C dx fs)):∃mA,Cw h a dx C mA/\(∀f,qN (fs.lookup f) (mA f))/\PySem.Within mA (fs.map (·.1))/\fs.length<=1000/\H dx=some (.own a):=by
 obtain ⟨d,z,ne,ob,mA,n,r,q⟩:=(show dg P w H h a (.ins C dx fs) from hok a _ e)
 exact ⟨mA,⟨ob,n,ne⟩,r,q,z,d⟩
end
structure IL (K:Mr) (C:Addr):Prop where
 pg:PySem.W.plainGet K C Str.empty=true
 hd:PySem.W.hasDictIn K C=true
 po:PySem.W.plainOver K C=true
 sa:PySem.W.findIn K (.ref C) "__setattr__"=some (some #[194])
theorem IL.get {K:Mr}{C:Addr}(c:IL K C)(f:Str):PySem.W.plainGet K C f=true:=c.pg
section
variable {X:Cx}{pins:List #[15]}{σ:St}{H:Hp}{s:Mx}{a C dx:Addr}{fs:List (Str×V)}{f:Str}{v:V}{A:Nr}{E:Mq->Mx->Prop}
theorem FH {prog:MP}{w:Nd}{env:Env}{e:Expr}{f:Str}{pos:Pos}{s:Mx}{Q:Mq->Mx->Prop}(hb:attributeBase e f env (eval e env)=eval e env)
 (h:wpAny #[8] A (eval e env) (fun o s₁=>wpAny #[8] A (getAttr o f true) Q E s₁) E s):wpAny #[8] A (eval (.Attribute e f pos) env) Q E s:=
 Attribute_any_ h (by rw [arm_eval_Attribute,hb])
end
section
variable {X:Cx}{pins:List #[15]}{σ:St}{H:Hp}{s:Mx}{A:Nr}{E:Mq->Mx->Prop}{Q:Mq->Mx->Prop}{c:Mq}{b:Bool}
inductive js (K:Mr) (H:Hp):V->Mq->Prop where
 |non:js K H .non (.type "NoneType")
 |bl (x:Bool):js K H (.bl x) (.type "bool")
 |int (i:Int):js K H (.int i) (.type "int")
 |str (x:Str):js K H (.str x) (.type "str")
 |flt (x:UInt64):js K H (.flt x) (.type "float")
 |lst {a:Addr}{xs:List V} (e:H a=some (.lst xs)):js K H (.ref a) (.type "list")
 |frz {a:Addr}{o:Obj}{xs:List V} (e:H a=some (.frz o (.lst xs))):js K H (.ref a) (.type "list")
 |tup {a:Addr}{xs:List V} (e:H a=some (.tup xs)):js K H (.ref a) (.type "tuple")
 |dK {a:Addr}{kvs:List (Key×V)} (e:H a=some (.dK kvs)):js K H (.ref a) (.type "dict")
 |dT {a:Addr}{kvs:List (List Key×V)} (e:H a=some (.dT kvs)):js K H (.ref a) (.type "dict")
 |ins {a C dx:Addr}{fs:List (Str×V)} (e:H a=some (.ins C dx fs)) (cl:IL K C) (ha:PySem.W.findIn K (.ref C) "__class__"=some (some #[55]))
  (hn:PySem.W.specialIn K #[55] "__get__"=some (some #[118])) (htk:PySem.W.takesIn K #[55]=some true)
  (hm:PySem.W.mroIn K C (.type "object")=some true):js K H (.ref a) (.ref C)
theorem kr {x:V}{u t:Mq}(I:Inv X pins σ H s)(rx:RelV x u)(ty:js X.K H x t)(e:PySem.W.kitOne X.K t c=some b)(h:∀tk,Q (.bool b) {s with toks:=tk}) :
 wpAny #[2] A (call #[58] [u,c]) Q E s:=by
 cases ty with
 |non=>cases (show u=Value.none from rx);exact Ny PySem.W.kitx_none I.kIn True.intro e #[20] h
 |bl y=>cases (show u=Value.bool y from rx);exact Ny PySem.W.kitx_bool I.kIn True.intro e #[20] h
 |int i=>obtain ⟨t,q⟩:=(show ∃t,u=Value.int i t from rx);cases q;exact Ny PySem.W.kitx_int I.kIn True.intro e #[20] h
 |str y=>obtain ⟨t,q⟩:=(show ∃t,u=Value.str y t from rx);cases q;exact Ny PySem.W.kitx_str I.kIn True.intro e #[20] h
 |flt y=>obtain ⟨t,q⟩:=(show ∃t,u=Value.float y t from rx);cases q;exact Ny PySem.W.kitx_float I.kIn True.intro e #[20] h
 | @lst a xs ea =>
   cases (show u=Value.ref a from rx)
   obtain ⟨_,_,n,_,h1⟩:=(show dg X.prog X.w H s.heap a (.lst xs) from I.hok a _ ea)
   exact Ny OF I.kIn ⟨_,h1,rfl⟩ e #[20] h
 | @frz a ob xs ea =>
   cases (show u=Value.ref a from rx)
   obtain ⟨_,_,_,n,_,h1⟩:=(show dg X.prog X.w H s.heap a (.frz ob (.lst xs)) from I.hok a _ ea)
   exact Ny OF I.kIn ⟨_,h1,rfl⟩ e #[20] h
 | @tup a xs ea =>
   cases (show u=Value.ref a from rx)
   obtain ⟨_,_,_,p⟩:=(show dg X.prog X.w H s.heap a (.tup xs) from I.hok a _ ea)
   obtain ⟨o,h1,h2,_⟩:=p
   exact Ny PySem.W.kitx_tuple I.kIn ⟨o,h1,h2⟩ e #[20] h
 | @dK a kvs ea =>
   cases (show u=Value.ref a from rx)
   obtain ⟨_,_,vs,_,p⟩:=(show dg X.prog X.w H s.heap a (.dK kvs) from I.hok a _ ea)
   obtain ⟨o,es,ep,h1,h2,_⟩:=p
   exact Ny PySem.W.kitx_dict I.kIn ⟨o,h1,h2.1⟩ e #[20] h
 | @dT a kvs ea =>
   cases (show u=Value.ref a from rx)
   obtain ⟨_,_,xs,_,o,es,ep,h1,h2,_⟩:=(show dg X.prog X.w H s.heap a (.dT kvs) from I.hok a _ ea)
   exact Ny PySem.W.kitx_dict I.kIn ⟨o,h1,h2.1⟩ e #[20] h
 | @ins a C dx fs ea cl ha hn htk hm =>
   cases (show u=Value.ref a from rx)
   obtain ⟨mA,O,_⟩:=E4 I.hok ea
   obtain ⟨od,J,_⟩:=O.look
   exact Ny (PySem.W.kitx_own (cl.get _) cl.hd ha hn htk hm) I.kIn J e #[20] h
end
end L2
namespace L2
open PySem PySem.Spec PyProof.Rows
structure cx (k:Nat) (A:Nr):Prop where
 hd:A.handled=none
 dp:A.depth+3*k+5<recursionLimit
 un:A.units+16*k+200<cLine
 gd:A.guards=some []
theorem cx.mono {j k:Nat}{A:Nr}(r:cx k A)(h:j<=k):cx j A:=⟨r.hd,by have:=r.dp;omega,by have:=r.un;omega,r.gd⟩
theorem cx.deeper {k:Nat}{A:Nr}(r:cx (k+1) A)(env:Env):cx k (A.deeper env):=
 ⟨r.hd,by have:=r.dp;show A.depth+1+3*k+5<_;omega,by have:=r.un;show A.units+3+16*k+200<_;omega,r.gd⟩
theorem xg {A:Nr}{C:Addr}{us:List Mq}{kw:List (Str×Mq)}:#[60].depth=A.depth+1:=by
 first|rfl|simp [Around.under,Code.weight,Code.isCreation,Code.isGuard,Code.isCaller,Code.frames,Code.isFrame,guardIds]
theorem xb {A:Nr}{C:Addr}{us:List Mq}{kw:List (Str×Mq)}:#[60].units=A.units+1:=by
 first|rfl|simp [Around.under,Code.cUnits,Code.frames,Code.isFrame]
theorem cx.make {k:Nat}{A:Nr}(r:cx (k+1) A)(C:Addr)(us:List Mq)(kw:List (Str×Mq)):cx k #[60]:=
 ⟨r.hd,by have:=r.dp;rw [xg];omega,by have:=r.un;rw [xb];omega,r.gd⟩
theorem cx.depth {k:Nat}{A:Nr}(r:cx k A):A.depth<recursionLimit:=by have:=r.dp;omega
theorem cx.units {k:Nat}{A:Nr}(r:cx k A):A.units+64<cLine:=by have:=r.un;omega
def KY:TA:=fun _ H Q=>Q [] H
def I0 (ta:TE)(tr:TA):TA:=fun σ H Q=>ta σ H fun x H1=>tr σ H1 fun xs H2=>Q (x::xs) H2
section
variable {X:Cx}{e:Expr}{es:List Expr}{te:TE}{t:TA}{pos:Pos}
theorem eA:PA X [] KY:=fun _ _ _ _ H Q I h=>Calls.spliced_nil ⟨[],H,I,.nil,h⟩
theorem b7 (ha:PE X e te)(hr:PA X es t)(hs:starEach (e::es) X.env=#[214]::starEach es X.env:=by rfl):PA X (e::es) (I0 te t):=by
 intro pos pins s σ H Q I h
 rw [hs]
 show wpAny _ _ (spliced (#[214]::backTo pos (starEach es X.env))) _ _ s
 refine OZ (bc #[38] fun u s1 ⟨x,H1,I1,r1,q1⟩=>?_)
 exact bc (hr pos pins s1 σ H1 _ I1 q1) fun us s2 ⟨xs,H2,I2,r2,q2⟩=>⟨x::xs,H2,I2,.cons r1 r2,q2⟩
def KR (t:TA):TE:=fun σ H Q=>t σ H fun xs H1=>xs.length<=sizeLine/\∀p,H1 p=none->Q (.ref p) (upd H1 p (.tup xs))
def KZ (t:TA):TE:=fun σ H Q=>t σ H fun xs H1=>xs.length<=sizeLine/\∀p,H1 p=none->Q (.ref p) (upd H1 p (.lst xs))
theorem GQ {x1}(h:PA X es t):PE X (.Tuple es x1 pos) (KR t):=by
 intro pins s σ H Q I hq
 refine wpAny_Tuple_spliced #[125]
 have hf:H1 s1.heap.objs.size=none:=I1.hok.fresh (My _)
 refine ⟨.ref s1.heap.objs.size,upd H1 s1.heap.objs.size (.tup xs),I1.laid (t':=s1.toks) (fun b u e=>Mp _ e) (My _) ?_,rfl,q _ hf⟩
 exact ⟨z,us,r,⟨_,MG _ rfl,rfl,_,rfl⟩⟩
theorem G0 (h:PA X es t):PE X (.List es pos) (KZ t):=by
 intro pins s σ H Q I hq
 refine wpAny_List_spliced #[125]
 have hf:H1 s1.heap.objs.size=none:=I1.hok.fresh (My _)
 refine ⟨.ref s1.heap.objs.size,upd H1 s1.heap.objs.size (.lst xs),I1.laid (t':=s1.toks) (fun b u e=>Mp _ e) (My _) ?_,rfl,q _ hf⟩
 exact ⟨z,us,0,r,MG _ rfl⟩
end
abbrev Sp:=List V->Hp->VK->XK->Prop
abbrev nV:=List Env->Hp->Mx->XK->Mq->Mx->Prop
structure oJ (P:MP) (w:Nd) (K:Mr) (mg:Str->Option Mq) (base:Heap) (A:Nr) (outer:List Env) (s:Mx) (H:Hp):Prop where
 frames:A.frames=some outer
 mod:Mod K mg base
 bs:∀b o,base.get? b=some o->s.heap.get? b=some o/\H b=none
 bsz:base.objs.size<=s.heap.objs.size
 funs:s.heap.FunFrames base outer
 frf:∀b∈f7 outer,H b=none
 hok:eY P w H s.heap
 bare:Pu s.gens
def CE (outer:List Env)(P:MP)(w:Nd)(H:Hp)(s:Mx)(Q:VK)(u:Mq)(s':Mx):Prop:=
 ∃v H',s'.os=s.os/\Pu s'.gens/\Un (f7 outer) [] H H' s.heap s'.heap/\eY P w H' s'.heap/\RelV v u/\Q v H'
def CR (CX:nV)(outer:List Env)(P:MP)(w:Nd)(H:Hp)(s:Mx)(Q:VK)(E:XK)(r:Result)(s':Mx):Prop:=
 match r with
 |.ok (.ret u)=>CE outer P w H s Q u s'
 |.ok _=>False
 |.error e=>CX outer H s E e s'
structure kO (P:MP) (w:Nd) (K:Mr) (mg:Str->Option Mq) (base:Heap) (CX:nV) (k:Nat) (f:Addr) (fd:OB) (ps:List Str) (sp:Sp):Prop where
 len:∀vs H Q E,sp vs H Q E->vs.length=ps.length
 run:∀(A:Nr) (outer:List Env) (s:Mx) (H:Hp) (args:Args) (us:List Mq) (vs:List V) (Q:VK) (E:XK),cx k A->oJ P w K mg base A outer s H->BindsTo s fd args (ps.zip us)->Vals vs us->sp vs H Q E->
  codeAny (model P w) A (.call (.ref f) args) (CR CX outer P w H s Q E) s
theorem oJ.make {P:MP}{w:Nd}{K:Mr}{mg:Str->Option Mq}{base:Heap}{A:Nr}{outer:List Env}{s:Mx}{H:Hp}(e:oJ P w K mg base A outer s H)(C:Addr)(us:List Mq)(kw:List (Str×Mq)) :
 oJ P w K mg base #[60] outer s H:=⟨by first|exact e.frames|(simpa [Around.under,Code.envs,Code.isFrame,pushEnvs] using e.frames),e.mod,e.bs,e.bsz,e.funs,e.frf,e.hok,e.bare⟩
section
variable {X:Cx}{pins:List #[15]}{σ:St}{H:Hp}{s s':Mx}
theorem Inv.env0 (I:Inv X pins σ H s):oJ X.prog X.w X.K X.mg X.base X.A X.stack s H:=
 ⟨I.ok.frames,I.ok.mod,I.bs,MF I.ok.bsz I.sz,I.stack,I.stkFree,I.hok,I.bare⟩
theorem Inv.after {Q:VK}{u:Mq}(I:Inv X pins σ H s)(h:CE X.stack X.prog X.w H s Q u s'):EP X pins σ Q u s':=by
 obtain ⟨v,H',os,bare,un,hok,r,q⟩:=h
 obtain ⟨hh,g,d,t,os'⟩:=s'
 obtain rfl:os'=s.os:=os
 exact ⟨v,H',I.call (h':=hh) (g':=g) (d':=d) (t':=t) (ch:=[]) un hok bare (fun b z=>absurd z (by simp)),r,q⟩
end
def CK (sp:Sp)(dvs:List V)(E:XK)(t:TA):TE:=fun σ H Q=>t σ H fun vs H1=>sp (vs++dvs) H1 Q E
def Binds (K:Mr)(fd:OB)(ps:List Str)(ds:List Mq):Prop:=
 ∀(s:Mx) (us:List Mq),K.In s.heap->(us++ds).length=ps.length->BindsTo s fd ⟨us,[]⟩ (ps.zip (us++ds))
theorem Binds.all {K:Mr}{fd:OB}{ps:List Str}(h:∀us:List Mq,us.length=ps.length->bindArgs fd ⟨us,[]⟩=pure (ps.zip us)):Binds K fd ps []:=fun s us _ hl=>by
 rw [Pc] at hl ⊢
 exact .of_eq (h us hl)
def Passes (CX:nV)(X:Cx)(E:XK):Prop:=∀(pins:List #[15]) (σ:St) (H:Hp) (s:Mx) (e:Mq) (s':Mx),Inv X pins σ H s->CX X.stack H s E e s'->X.xe e s'
section
variable {X:Cx}{CX:nV}{k:Nat}{f C:Addr}{fd:OB}{ps:List Str}{sp:Sp}{dvs:List V}{ds:List Mq}{E:XK}{x m:Str}{p pos apos:Pos}{e o:Expr}{es:List Expr}{ta:TE}{t:TA}
theorem yR {pins:List #[15]}{σ:St}{H:Hp}{s:Mx}{Q:VK}{us:List Mq}{vs:List V}(F:kO X.prog X.w X.K X.mg X.base CX k f fd ps sp)(hr:cx k X.A)(hb:Binds X.K fd ps ds)(hd:Vals dvs ds)(hx:Passes CX X E)
 (I:Inv X pins σ H s) (r:Vals vs us) (h:sp (vs++dvs) H Q E):wpAny #[2] X.A (call (.ref f) us) #[27] X.xe s:=by
 have r2:Vals (vs++dvs) (us++ds):=r.append hd
 have hl:(us++ds).length=ps.length:=by rw [<- r2.length];exact F.len _ _ _ _ h
 refine wpAny_call (codeAny_mono (F.run X.A X.stack s H ⟨us,[]⟩ (us++ds) (vs++dvs) Q E hr I.env0 (hb s us I.kIn hl) r2 h) fun r s' hq=>?_)
 cases r with
 |error e=>exact hx pins σ H s e s' I hq
 | ok fl =>
   cases fl with
   |ret u=>exact I.after hq
   |next=>exact False.elim hq
   |brk=>exact False.elim hq
   |cont=>exact False.elim hq
theorem EK (F:kO X.prog X.w X.K X.mg X.base CX k f fd ps sp)(hr:cx k X.A)(hg:Gl X x)(hm:X.mg x=some (.ref f))(hk:PySem.W.keepIn X.K (.ref f)=true)(hb:Binds X.K fd ps ds)(hd:Vals dvs ds)(hx:Passes CX X E)
 (ha:PA X (e::es) t) (hdb:#[6]=false:=by decide) (he:starEach (e::es) X.env=#[214]::starEach es X.env:=by rfl) (hpl:#[44].any (·.1)=false:=by rfl) :
 PE X #[282] (CK sp dvs E t):=by
 intro pins s σ H Q I h
 refine wpAny_Call_Name_kw (gq I hg hm ?_ hdb)
 refine OQ (h₀:=X.base) I.ok.mod.kin hk (bc (ha pos pins s σ H _ I h) fun us s1 ⟨vs,H1,I1,r,q⟩=>⟨I1.kIn,?_⟩) he hpl
 exact yR F hr hb hd hx I1 r q
end
structure g9 (N P:List Str) (sc:Scope):Prop where
 kind:sc.kind=.function
 co:sc.isCoroutine=false
 gen:sc.isGenerator=false
 nd:N.Nodup
 pre:N.take P.length=P
 par:∀x∈P,sc.names.lookup x=some .local\/sc.names.lookup x=some .cell
 nofree:∀y∈sc.names,y.2≠.free
theorem rR {kindOf:Str->Option Pj}{x:Str}:∀{binds:List (Str×Mq)}{m:Str->Option Mq},(∀v,(x,v)∉binds)->bindL kindOf binds m x=m x
 |[],_,_=>rfl
 | (n, v) :: r, m, h => by
   unfold bindL
   rw [rR fun w hw=>h w (ME _ hw)]
   split
   ·have:x≠n:=by rintro rfl;exact h v MM
    simp [this]
   ·rfl
theorem rT {kindOf:Str->Option Pj}{x:Str}:∀{binds:List (Str×Mq)}{m:Str->Option Mq},(∀v,(x,v)∉binds)->bindC kindOf binds m x=m x
 |[],_,_=>rfl
 | (n, v) :: r, m, h => by
   unfold bindC
   rw [rT fun w hw=>h w (ME _ hw)]
   split
   ·rfl
   ·have:x≠n:=by rintro rfl;exact h v MM
    simp [this]
theorem rS {kindOf:Str->Option Pj}{x:Str}{v:Mq}:∀{P:List Str}{vs:List Mq}{i:Nat}{m:Str->Option Mq},P.Nodup->P[i]?=some x->vs[i]?=some v->kindOf x=some .local->
 bindL kindOf (P.zip vs) m x=some v
 |[],_,_,_,_,h,_,_=>by simp at h
 |_::_,[],_,_,_,_,h,_=>by simp at h
 | p :: P, w :: vs, 0, m, nd, h1, h2, hk => by
   simp at h1 h2;subst h1;subst h2
   show bindL kindOf ((p,w)::P.zip vs) m p=_
   unfold bindL
   rw [rR fun v hv=>(Pb.mp nd).1 (List.of_mem_zip hv).1,if_pos hk]
   simp
 | p :: P, w :: vs, i + 1, m, nd, h1, h2, hk => by
   show bindL kindOf ((p,w)::P.zip vs) m x=_
   unfold bindL
   exact rS (i:=i) (Pb.mp nd).2 (by simpa using h1) (by simpa using h2) hk
theorem rV {kindOf:Str->Option Pj}{x:Str}{v:Mq}:∀{P:List Str}{vs:List Mq}{i:Nat}{m:Str->Option Mq},P.Nodup->P[i]?=some x->vs[i]?=some v->kindOf x≠some .local->
 bindC kindOf (P.zip vs) m x=some v
 |[],_,_,_,_,h,_,_=>by simp at h
 |_::_,[],_,_,_,_,h,_=>by simp at h
 | p :: P, w :: vs, 0, m, nd, h1, h2, hk => by
   simp at h1 h2;subst h1;subst h2
   show bindC kindOf ((p,w)::P.zip vs) m p=_
   unfold bindC
   rw [rT fun v hv=>(Pb.mp nd).1 (List.of_mem_zip hv).1,if_neg hk]
   simp
 | p :: P, w :: vs, i + 1, m, nd, h1, h2, hk => by
   show bindC kindOf ((p,w)::P.zip vs) m x=_
   unfold bindC
   exact rV (i:=i) (Pb.mp nd).2 (by simpa using h1) (by simpa using h2) hk
def start (N:List Str)(vs:List V):St:=vs.map some++List.replicate (N.length-vs.length) none
def fB (CX:nV)(P:MP)(w:Nd)(K:Mr)(mg:Str->Option Mq)(base:Heap)(N:List Str)(qual:Str)(scope:Scope)(f:Addr)(cd:Mq)(A:Nr)(outer:List Env)(s:Mx)(H:Hp)(E:XK):Cx where
 prog:=P
 w:=w
 K:=K
 mg:=mg
 base:=base
 A:=A.deeper #[72]
 N:=N
 s₀:=s
 H₀:=H
 env:=envOfC qual scope s.heap.objs.size f cd
 outer:=outer
 stack:=envOfC qual scope s.heap.objs.size f cd::outer
 ex:=[]
 calm:=true
 fn:=fun _=>true
 pn:=[]
 xe:=fun e s'=>wpAny (model P w) (A.deeper #[72]) (leaving #[72] e) (fun _ s''=>CX outer H s E e s'') (fun e' s''=>CX outer H s E e' s'') s'
theorem uM {sc:Scope}{n:Nat}{x:Str}(h:sc.names.lookup x=some .cell):∃c,(cellsFrom n sc.names []).lookup x=some c:=by
 have q:=PySem.W.cellsFrom_some sc.names n [] (.inl h)
 exact Option.isSome_iff_exists.mp q
theorem zE {CX:nV}{P:MP}{w:Nd}{K:Mr}{mg:Str->Option Mq}{base:Heap}{N ps:List Str}{qual:Str}{scope:Scope}{f:Addr}{cd:Mq}{A:Nr}{outer:List Env}{s s1:Mx}{H:Hp}{E:XK}{us:List Mq}{vs:List V}
 (S:g9 N ps scope) (hd:A.handled=none) (e0:oJ P w K mg base A outer s H) (hl:vs.length=ps.length) (r:Vals vs us)
 (x:InCallC s s.heap.objs.size (bindL #[72].kindOf (ps.zip us) fun _=>none) (cellsFrom (s.heap.objs.size+1) scope.names []) (bindC #[72].kindOf (ps.zip us) fun _=>none) s1) :
 Inv #[346] [] (start N vs) H s1:=by
 have hpl:ps.length<=N.length:=by have:=congrArg List.length S.pre;rw [N5] at this;omega
 obtain ⟨h1,tk,rfl,hk⟩:=x.done
 have noA:∀b:Addr,b∉#[346].ex:=fun b z=>absurd (show b∈([]:List Addr) from z) (by simp)
 refine ⟨⟨e0.mod,S.kind,rfl,rfl,My _,fun y z c h1 h2=>?_,fun y hy=>?_,fun y c _ h=>?_,fun _=>hd,Around.frames_deeper e0.frames,.inr ⟨rfl,rfl⟩,fun b z=>absurd z (noA b),e0.bs,e0.bsz,fun b _ _=>noA b,fun b z=>absurd z (noA b),e0.funs,e0.frf⟩,
  rfl,e0.bare,Un.kept hk,⟨_,x.toInCall.ns,fun i y v h1 h2 h3=>?_⟩,fun y c h=>⟨_,x.cell y c h⟩,e0.hok.fresh (My _),fun y c h=>?_,fun p hp=>absurd (show p∈([]:List #[15]) from hp) (by simp),e0.hok.kept hk,?_⟩
 ·exact name_of_addr x.apart (Ox h1) (Ox h2)
 ·have hy:scope.names.lookup y=some .cell\/scope.names.lookup y=some .free:=hy
  rcases hy with hy|hy
  ·exact uM hy
  ·exact absurd rfl (S.nofree _ (Ox hy))
 ·exact Nat.le_of_lt (x.above y c (Ox h))
 ·have hi:i<vs.length:=by
   unfold start at h2
   by_cases hi:i<vs.length
   ·exact hi
   ·rw [NK #[101]] at h2
    rw [Oe] at h2
    split at h2<;>cases h2
  have ha:vs[i]?=some v:=by
   unfold start at h2
   rw [Ng #[101],Nm] at h2
   cases e:vs[i]? with
   |none=>rw [e] at h2;cases h2
   |some a=>rw [e] at h2;cases h2;rfl
  obtain ⟨u,hu,rv⟩:=r.get ha
  have hp:ps[i]?=some y:=by
   rw [<- S.pre,List.getElem?_take_of_lt #[0]];exact h1
  have ndP:ps.Nodup:=by rw [<- S.pre];exact S.nd.sublist (List.take_sublist _ _)
  refine ⟨u,rv,?_⟩
  rcases S.par y (MO hp) with k|k
  ·exact .inl ⟨k,rS ndP hp hu k⟩
  ·obtain ⟨c,e⟩:=uM (n:=s.heap.objs.size+1) k
   refine .inr ⟨.inl k,c,e,?_⟩
   have q:=x.cell y c e
   rw [rV ndP hp hu (by show scope.names.lookup y≠_;rw [k];decide)] at q
   exact q
 ·exact e0.hok.fresh (Nat.le_of_lt (x.above y c (Ox h)))
 ·unfold start
  show _=N.length
  rw [Nx,MN,OJ]
  omega
theorem JI {CX:nV}{P:MP}{w:Nd}{K:Mr}{mg:Str->Option Mq}{base:Heap}{k:Nat}{f:Addr}{name qual:Str}{params:Arguments}{body:List Stmt}{scope:Scope}{dV kV doc pm cdv ct oc:Mq}{an od:Option Addr}
 {osl:Array (Option Mq)}{N ps:List Str}{sp:Sp} (lk:K.lookup f=some ⟨oc,od,.func #[269],osl⟩) (hcd:PySem.W.codeIn K cdv qual=true) (S:g9 N ps scope)
 (len:∀vs H Q E,sp vs H Q E->vs.length=ps.length)
 (hbody:∀(A:Nr) (outer:List Env) (s:Mx) (H:Hp) (vs:List V) (Q:VK) (E:XK),cx k (A.deeper (envOfC qual scope s.heap.objs.size f cdv))->sp vs H Q E->
  ∃t,mT #[119] body t/\t {nx:=fun _ H'=>Q .non H',rt:=Q} (start N vs) H) :
 kO P w K mg base CX (k+1) f #[269] ps sp:=by
 refine ⟨len,fun A outer s H args us vs Q E hr e0 hb r hsp=>?_⟩
 have hl:=len _ _ _ _ hsp
 have KX:K.In s.heap:=e0.mod.kin.keeps fun b o e=>(e0.bs b o e).1
 have lim:s.heap.NoLimit:=e0.mod.nolimit.keeps fun b o e=>(e0.bs b o e).1
 have hkind:∀y∈ps.zip us,scope.names.lookup y.1=some .local\/(scope.names.lookup y.1=some .cell/\((cellsFrom (s.heap.objs.size+1) scope.names []).lookup y.1).isSome=true):=fun ⟨n,v⟩ hy=>by
  rcases S.par n (List.of_mem_zip hy).1 with q|q
  ·exact .inl q
  ·exact .inr ⟨q,PySem.W.cellsFrom_some _ _ _ (.inl q)⟩
 refine codeAny_call_function hr.depth (KX _ _ lk) rfl S.co S.gen rfl (PySem.W.codeRec_of KX hcd) (hb _ _ _ _ ?_)
 refine wpAny_newFunctionEnv_cells S.kind hkind fun env he s1 x=>?_
 subst he
 refine ⟨lim.keeps x.toInCall.keep,codeAny_func ?_⟩
 obtain ⟨t,ht,hq⟩:=hbody A outer s H vs Q E (hr.deeper _) hsp
 have I:Inv #[119] [] (start N vs) H s1:=zE S hr.hd e0 hl r x
 refine wpAny_mono (ht [] s1 (start N vs) H _ I hq) (fun fl s' hs=>?_) fun e s' hs=>hs
 have fin:∀{σ':St}{H':Hp}{v:V}{u:Mq},Inv #[119] [] σ' H' s'->RelV v u->Q v H'->CE outer P w H s Q u s':=
  fun {σ' H' v u} J rv q=>⟨v,H',J.os,J.bare,J.base,J.hok,rv,q⟩
 cases fl with
 | ret u =>
   obtain ⟨v,σ',H',J,rv,q⟩:=hs
   exact fin J rv q
 | next =>
   obtain ⟨σ',H',J,q⟩:=hs
   exact fin (v:=V.non) (u:=Value.none) J rfl q
 | brk =>
   obtain ⟨_,_,_,q⟩:=hs
   exact False.elim q
 | cont =>
   obtain ⟨_,_,_,q⟩:=hs
   exact False.elim q
end L2
namespace L2
open PySem PySem.Spec PyProof.Rows
section
variable {X:Cx}{x:Str}{p pos:Pos}{e:Expr}{es:List Expr}{t:TA}{id T:String}{r:List V->Hp->VK->Prop}
def Kl (r:List V->Hp->VK->Prop)(t:TA):TE:=fun σ H Q=>t σ H fun vs H1=>r vs H1 Q
theorem iI (hc:di X #[283] r)(hg:Gl X x)(hm:X.mg x=none)(hv:bootBuiltins x=some #[283])(ha:PA X (e::es) t)(hn:x≠"__name__":=by decide)(hdb:#[6]=false:=by decide)
 (he:starEach (e::es) X.env=#[214]::starEach es X.env:=by rfl) (hpl:#[44].any (·.1)=false:=by rfl):PE X #[282] (Kl r t):=by
 intro pins s σ H Q I h
 refine wpAny_Call_Name_kw (ie I hg hm hv ?_ hn hdb)
 exact PyProof.Rows.callWith_builtin1 #[135] he hpl
theorem zd (hc:di X (.type T) r)(hg:Gl X x)(hm:X.mg x=none)(hv:bootBuiltins x=some (.type T))(ha:PA X (e::es) t)(hn:x≠"__name__":=by decide)(hdb:#[6]=false:=by decide)
 (he:starEach (e::es) X.env=#[214]::starEach es X.env:=by rfl) (hpl:#[44].any (·.1)=false:=by rfl):PE X #[282] (Kl r t):=by
 intro pins s σ H Q I h
 refine wpAny_Call_Name_kw (ie I hg hm hv ?_ hn hdb)
 exact NH #[135] he hpl
end
end L2
namespace HT
open PySem PyProof.Rows
section
variable {prog:MP}{w:Nd}{A:Nr}{E:Mq->Mx->Prop}{s:Mx}
theorem FC {t b:Addr}{vs ws:List Mq}{Q:Mq->Mx->Prop}(ht:IsTup s.heap t vs.toArray)(hb:IsTup s.heap b ws.toArray)(hv:vs≠[])
 (h1:ws=[]->Q (.ref t) s) (h2:ws≠[]->Q #[49] {s with heap:=s.heap.push {cls:=.type "tuple",data:=.seq (vs++ws).toArray}})
 (hsz:vs.length+ws.length<=sizeLine):wpAny #[8] A (binaryOp .Add (.ref t) (.ref b)) Q E s:=by
 obtain ⟨⟨cls,dd,data,sl⟩,ho,hc,n,hd⟩:=id ht
 obtain ⟨⟨cls2,dd2,data2,sl2⟩,ho2,hc2,n2,hd2⟩:=id hb
 simp only at hc hd hc2 hd2
 subst hc hd hc2 hd2
 have e:vs.toArray++ws.toArray=(vs++ws).toArray:=by simp
 by_cases hw:ws=[]
 ·exact concat_meets ⟨_,ho,rfl⟩ ⟨_,ho2,rfl⟩ noFill_tuple_add seq_tuple_add O6 OY (OW _ _)
   (tuple_addW1 t b vs.toArray ws.toArray n n2 dd dd2 sl sl2 (by simpa using hv) (by simp [hw])) ⟨ho,ho2,h1 hw⟩
 ·refine concat_meets ⟨_,ho,rfl⟩ ⟨_,ho2,rfl⟩ noFill_tuple_add seq_tuple_add O6 OY (OW _ _)
   (tuple_addW2 t b vs.toArray ws.toArray n n2 dd dd2 sl sl2 (by simpa using hv) (by simpa using hw) (by rw [MB,MB];exact hsz)) ⟨ho,ho2,?_⟩
  rw [e]
  exact h2 hw
def aS (n d:Nat):Option Int->Nat
 |none=>d
 |some v=>if v<0 then (v+(n:Int)).toNat else min v.toNat n
theorem Gh (n d:Nat)(hd:d<=n)(o:Option Int):aS n d o<=n:=by
 cases o with
 |none=>exact hd
 | some v =>
   show #[143]<=n
   by_cases hv:v<0
   ·rw [if_pos hv];omega
   ·rw [if_neg hv];exact Nat.min_le_right _ _
theorem wb (v:Int)(n d:Nat):(if v<0 then max (v+(n:Int)) 0 else min v (n:Int))=((aS n d (some v):Nat):Int):=by
 show (if v<0 then max (v+(n:Int)) 0 else min v (n:Int))=((#[143]:Nat):Int)
 by_cases hv:v<0
 ·simp only [if_pos hv];omega
 ·simp only [if_neg hv];omega
theorem xP (lo hi:Option Int)(n:Nat):Builtin.Slice.sliceAdjust lo hi 1 (n:Int)=(((aS n 0 lo:Nat):Int),((aS n n hi:Nat):Int)):=by
 have h1:¬ ((1:Int)<0):=by omega
 unfold Builtin.Slice.sliceAdjust
 simp only [h1,if_false]
 refine Prod.ext ?_ ?_
 ·cases lo with
  |none=>rfl
  |some v=>exact wb v n 0
 ·cases hi with
  |none=>rfl
  |some v=>exact wb v n n
theorem wO (i j:Nat):Builtin.Slice.slicePlaces (i:Int) (j:Int) 1=j-i:=by
 unfold Builtin.Slice.slicePlaces
 have h1:(1:Int) > 0:=by omega
 simp only [h1,if_true,Int.ediv_one]
 split<;>omega
theorem oU {v:Mq}{o:Option Int}{Q:Option Int->Mx->Prop}(p:IsPart v o)(h:Q o s):wpAny #[8] A (Builtin.Slice.slicePartIndex v) Q E s:=by
 cases p with
 |none=>exact slicePart_none h
 |int i t=>exact slicePart_int h
theorem jM {sl:Addr}{vl vu:Mq}{lo hi:Option Int}{n:Nat}{Q:Int×Int×Nat->Mx->Prop}(hs:s.heap.IsSliceOf sl vl vu .none)(pl:IsPart vl lo)(pu:IsPart vu hi)
 (h:Q (((aS n 0 lo:Nat):Int),1,aS n n hi-aS n 0 lo) s):wpAny #[8] A (Builtin.Slice.sliceApplied (.ref sl) (pure (n:Int))) Q E s:=by
 obtain ⟨os,hos,hcs,hds⟩:=id hs
 unfold Builtin.Slice.sliceApplied Builtin.Slice.sliceFields
 refine tqa (tqa (tqf hos hds (x:=vl) rfl (tqa (tqf hos hds (x:=vu) rfl (tqa (tqf hos hds (x:=.none) rfl (tqb ?_)))))))
 refine tqa (slicePart_none ?_)
 show wpAny _ _ (if ((1:Int)==0)=true then _ else _) _ _ s
 rw [if_neg #[1]]
 refine tqa (oU pl (tqa (oU pu (tqa (tqb ?_)))))
 show wpAny _ _ (match Builtin.Slice.sliceAdjust lo hi 1 (n:Int) with|(lo,hi)=>pure (lo,(1:Int),Builtin.Slice.slicePlaces lo hi 1)) _ _ s
 rw [xP lo hi n]
 show wpAny _ _ (pure (((aS n 0 lo:Nat):Int),(1:Int),Builtin.Slice.slicePlaces ((aS n 0 lo:Nat):Int) ((aS n n hi:Nat):Int) 1)) _ _ s
 rw [wO]
 exact tqb h
theorem BA (xs:Array Mq)(i k:Nat):((List.range k).filterMap fun (m:Nat)=>xs[((i:Int)+(m:Int)*1).toNat]?).toArray=((xs.toList.drop i).take k).toArray:=by
 have e:(fun (m:Nat)=>xs[((i:Int)+(m:Int)*1).toNat]?)=fun m=>xs[i+m]?:=by
  funext m
  have:((i:Int)+(m:Int)*1).toNat=i+m:=by omega
  rw [this]
 rw [e]
 have:=pick_run xs i k
 rw [List.filterMap_map] at this
 have e2:((fun x=>xs[x]?)∘fun x=>i+x)=fun m=>xs[i+m]?:=rfl
 rw [e2] at this
 rw [this]
theorem nM {t sl:Addr}{items:Array Mq}{vl vu:Mq}{lo hi:Option Int}{Q:Mq->Mx->Prop}(ht:IsTup s.heap t items)(hs:s.heap.IsSliceOf sl vl vu .none)(pl:IsPart vl lo)(pu:IsPart vu hi)
 (hw:¬ (aS items.size 0 lo=0/\aS items.size items.size hi=items.size))
 (h:Q #[49] {s with heap:=s.heap.push {cls:=.type "tuple",data:=.seq #[45].toArray}})
 (hsz:items.size<=sizeLine):wpAny #[8] A (getItem (.ref t) (.ref sl)) Q E s:=by
 have htake:sizeOk (.seq #[45].toArray):=by
  show #[45].toArray.size<=sizeLine
  rw [MB,N5,OL,Po]
  omega
 have hj:aS items.size items.size hi<=items.size:=Gh _ _ (My _) hi
 obtain ⟨os,hos,hcs,hds⟩:=id hs
 have hTs:s.TypeIs (.ref sl) "slice":=⟨os,hos,hcs⟩
 unfold getItem
 try with_reducible refine tqo ?_
 first|refine tqa (tqb ?_)|skip
 refine tqa #[129]
 refine tqa (wpAny_callSpecial?_slot (name:=Str.ofString "__getitem__") ht.typeIs Na
  #[40])
 show wpAny _ _ #[197] _ _ s
 refine tqa (tupleItemsOf_ ht ?_)
 refine tqa (wpAny_typeOf hTs ?_)
 rw [if_pos #[1]]
 refine tqa (jM hs pl pu ?_)
 have hno:¬ (#[105]=true):=by
  intro q
  rw [Ms,Ms] at q
  have q1:((aS items.size 0 lo:Nat):Int)=0:=eq_of_beq q.1.1
  have q2:aS items.size items.size hi-aS items.size 0 lo=items.size:=eq_of_beq q.2
  exact hw ⟨by omega,by omega⟩
 show wpAny _ _ (if #[105]=true then _ else _) _ _ s
 rw [if_neg hno,BA]
 first
  |exact tqa (m:=Builtin.Tuple.tupleExact _) #[195]
  |exact tqa (m:=Builtin.Tuple.tupleExact _) (wpAny_newObj_type (tqa (tqb #[78])) htake)
  |exact tqa #[223]
  |exact tqa (tqa (m:=Builtin.Tuple.tupleExact _) #[195])
end
end HT
namespace L2
open PySem PySem.Spec PyProof.Rows
abbrev TO:=St->Hp->(Option Int->Hp->Prop)->Prop
def PO (X:Cx)(e:Option Expr)(t:TO):Prop:=
 ∀(pins:List #[15]) (s:Mx) (σ:St) (H:Hp) (Q:Option Int->Hp->Prop),Inv X pins σ H s->t σ H Q->
  wpAny #[2] X.A (evalPart e X.env) (fun u s'=>∃o H',Inv X pins σ H' s'/\IsPart u o/\Q o H') X.xe s
def D6:TO:=fun _ H Q=>Q none H
def IX (t:TE):TO:=fun σ H Q=>t σ H fun x H1=>∃i,x=.int i/\Q (some i) H1
section
variable {X:Cx}{e:Expr}{te:TE}{lo hi:Option Expr}{tl th:TO}{pos p2:Pos}
theorem EG:PO X none D6:=by
 intro pins s σ H Q I h
 rw [evalPart_none]
 exact tqb ⟨none,H,I,.none,h⟩
theorem EF (h:PE X e te):PO X (some e) (IX te):=by
 intro pins s σ H Q I hw
 rw [evalPart_some]
 refine bc (h pins s σ H _ I hw) fun u s1 ⟨x,H1,I1,r1,q1⟩=>?_
 obtain ⟨i,rfl,q⟩:=q1
 obtain ⟨t,rfl⟩:=r1
 exact ⟨some i,H1,I1,.int i t,q⟩
def md (X:Cx)(r:V->Option Int->Option Int->Hp->VK->Prop):Prop:=
 ∀(pins:List #[15]) (s:Mx) (σ:St) (H:Hp) (x:V) (v vl vu:Mq) (lo hi:Option Int) (sl:Addr) (Q:VK),Inv X pins σ H s->RelV x v->s.heap.IsSliceOf sl vl vu .none->IsPart vl lo->IsPart vu hi->r x lo hi H Q->
  ∃T id,typeLookup (.type T) "__getitem__"=pure (some #[283])/\s.TypeIs v T/\wpAny #[2] X.A (getItem v (.ref sl)) #[27] X.xe s
theorem md.or {r r':V->Option Int->Option Int->Hp->VK->Prop}(h:md X r)(h':md X r'):md X (fun x lo hi H Q=>r x lo hi H Q\/r' x lo hi H Q):=by
 intro pins s σ H x v vl vu lo hi sl Q I rx hs pl pu q
 rcases q with q|q
 ·exact h pins s σ H x v vl vu lo hi sl Q I rx hs pl pu q
 ·exact h' pins s σ H x v vl vu lo hi sl Q I rx hs pl pu q
def tSl (r:V->Option Int->Option Int->Hp->VK->Prop)(te:TE)(tl th:TO):TE:=fun σ H Q=>te σ H fun x H1=>tl σ H1 fun l H2=>th σ H2 fun u H3=>r x l u H3 Q
theorem tW {r:V->Option Int->Option Int->Hp->VK->Prop}(hr:md X r)(he:PE X e te)(hl:PO X lo tl)(hu:PO X hi th):PE X (.Subscript e #[329] pos) (tSl r te tl th):=by
 intro pins s σ H Q I h
 refine Subscript_ #[296]
 refine wpAny_Slice (bc (hl pins s1 σ H1 _ I1 q1) fun vl s2 ⟨l,H2,I2,pl,q2⟩=>bc (hu pins s2 σ H2 _ I2 q2) fun vu s3 ⟨u,H3,I3,pu,q3⟩=>?_)
 rw [evalPart_none]
 refine tqb ?_
 have I4:Inv X pins σ H3 {s3 with heap:=s3.heap.push {cls:=.type "slice",data:=.fields #[vl,vu,.none]}}:=I3.kept (t':=s3.toks) fun b ob q=>Mp _ q
 obtain ⟨T,id,hT,ht,hg⟩:=hr pins {s3 with heap:=s3.heap.push {cls:=.type "slice",data:=.fields #[vl,vu,.none]}} σ H3 x v vl vu l u s3.heap.objs.size Q I4 r1 (Heap.IsSliceOf.new ..) pl pu q3
 show wpAny #[2] X.A (subscriptTail e #[329] v #[204]) #[27] X.xe {s3 with heap:=s3.heap.push {cls:=.type "slice",data:=.fields #[vl,vu,.none]}}
 exact tail_any (ops:=[.ref s3.heap.objs.size,v]) ht hT hg (by with_unfolding_all rfl)
def mI (xs:List V)(lo hi:Option Int):List V:=(xs.drop #[120]).take #[46]
theorem nP (xs:List V)(lo hi:Option Int):(mI xs lo hi).length<=xs.length:=by
 unfold mI
 rw [N5,OL]
 omega
def Gs (K:Mr):V->Option Int->Option Int->Hp->VK->Prop:=fun x lo hi H Q=>∃a xs,x=.ref a/\dO K H a xs/\
 ¬ #[91]/\∀p,H p=none->Q (.ref p) (upd H p (.tup (mI xs lo hi)))
theorem F8:md X (Gs X.K):=by
 intro pins s σ H x v vl vu lo hi sl Q I rx hs pl pu h
 obtain ⟨a,xs,rfl,hx,hw,q⟩:=h
 cases rx
 obtain ⟨its,r,ht,hz⟩:=I.tuple hx
 have hlen:its.toArray.size=xs.length:=by rw [MB];exact r.length.symm
 refine ⟨"tuple",_,Na.lookup,ht.typeIs,?_⟩
 refine HT.nM ht hs pl pu (by rw [hlen];exact hw) ?_ (by rw [hlen];exact hz)
 rw [hlen]
 refine ⟨.ref s.heap.objs.size,_,I.laid (t':=s.toks) (o:=.tup (mI xs lo hi)) #[158] (My _) ?_,rfl,q _ #[284]⟩
 exact ⟨MF (nP xs lo hi) hz,_,(r.drop #[120]).take #[46],IsTup.new _ _⟩
def Jk (K:Mr):R2:=fun x y H Q=>∃a b xs ys,x=.ref a/\y=.ref b/\dO K H a xs/\dO K H b ys/\xs≠[]/\xs.length+ys.length<=sizeLine/\
 (ys=[]->Q (.ref a) H)/\(ys≠[]->∀p,H p=none->Q (.ref p) (upd H p (.tup (xs++ys))))
theorem Vals.nil_iff {xs:List V}{us:List Mq}(r:Vals xs us):us=[]↔xs=[]:=by
 cases r with
 |nil=>simp
 |cons _ _=>simp
theorem ER:bY X (binaryOp .Add) (Jk X.K):=by
 intro pins s σ H x y v u Q I rx ry h
 obtain ⟨a,b,xs,ys,rfl,rfl,ha,hb,hx,hz,q1,q2⟩:=h
 cases rx
 cases ry
 obtain ⟨its,r1,p1,_⟩:=I.tuple ha
 obtain ⟨its2,r2,p2,_⟩:=I.tuple hb
 refine HT.FC p1 p2 (fun z=>hx (r1.nil_iff.mp z)) (fun z=>⟨.ref a,H,I,rfl,q1 (r2.nil_iff.mp z)⟩) (fun z=>?_) (by rw [<- r1.length,<- r2.length];exact hz)
 refine ⟨.ref s.heap.objs.size,_,I.laid (t':=s.toks) (o:=.tup (xs++ys)) #[158] (My _) ?_,rfl,q2 (fun w=>z (r2.nil_iff.mpr w)) _ #[284]⟩
 exact ⟨by rw [Nx];exact hz,_,r1.append r2,IsTup.new _ _⟩
end
end L2
namespace L2
open PySem PySem.Spec PyProof.Rows
def bB (n:Nat)(i:Int):Option Nat:=if 0<=i then (if i<n then some i.toNat else none) else if -(n:Int)<=i then some (i+n).toNat else none
def rX {α:Type}(xs:List α)(i:Int):Option α:=(bB xs.length i).bind fun j=>xs[j]?
theorem vQ {n:Nat}{i:Int}{j:Nat}(h:bB n i=some j):seqIndex? i n=some j/\j<n/\-(n:Int)<=i/\i<n:=by
 unfold bB at h
 by_cases h0:0<=i
 ·rw [if_pos h0] at h
  by_cases h1:i<n
  ·rw [if_pos h1] at h
   have e:i.toNat=j:=MA h
   exact ⟨by rw [seqIndex_of h0 h1,e],by omega,by omega,h1⟩
  ·rw [if_neg h1] at h;cases h
 ·rw [if_neg h0] at h
  by_cases h1:-(n:Int)<=i
  ·rw [if_pos h1] at h
   have e:(i+n).toNat=j:=MA h
   exact ⟨by rw [seqIndex_neg #[0] h1,e],by omega,h1,by omega⟩
  ·rw [if_neg h1] at h;cases h
theorem qL {α:Type}{xs:List α}{i:Int}{v:α}(h:rX xs i=some v):∃j,seqIndex? i xs.length=some j/\xs[j]?=some v/\j<xs.length/\-(xs.length:Int)<=i/\i<xs.length:=by
 unfold rX at h
 cases e:bB xs.length i with
 |none=>rw [e] at h;cases h
 | some j =>
   rw [e] at h
   obtain ⟨h1,h2,h3,h4⟩:=vQ e
   exact ⟨j,h1,h,h2,h3,h4⟩
def lp (b:Expr):Prop:=∀o i,subscripted b false o i=operate [o,i] (getItem o i)
def lu (X:Cx)(r:R2):Prop:=
 ∀(value slice:Expr) (pins:List #[15]) (s:Mx) (σ:St) (H:Hp) (x y:V) (v u:Mq) (Q:VK),Inv X pins σ H s->RelV x v->RelV y u->r x y H Q->
  subscripted slice false v u=operate [v,u] (getItem v u)->wpAny #[2] X.A (subscriptTail value slice v u) #[27] X.xe s
def IE (X:Cx)(id:String)(r:V->List V->Hp->VK->Prop):Prop:=
 ∀(pins:List #[15]) (s:Mx) (σ:St) (H:Hp) (x:V) (xs:List V) (v:Mq) (us:List Mq) (Q:VK),Inv X pins σ H s->RelV x v->Vals xs us->r x xs H Q->
  wpAny #[2] X.A (call #[283] (v::us)) #[27] X.xe s
section
variable {X:Cx}{a b:Expr}{ta tb:TE}{pos:Pos}
theorem lu.or {r r':R2}(h:lu X r)(h':lu X r'):lu X (fun x y H Q=>r x y H Q\/r' x y H Q):=by
 intro value slice pins s σ H x y v u Q I rx ry q hs
 rcases q with q|q
 ·exact h value slice pins s σ H x y v u Q I rx ry q hs
 ·exact h' value slice pins s σ H x y v u Q I rx ry q hs
theorem CT {r:R2}(hr:lu X r)(ha:PE X a ta)(hb:PE X b tb)(hs:lp b):PE X (.Subscript a b pos) (yy r ta tb):=by
 intro pins s σ H Q I h
 exact Subscript_ (Co ha hb I h fun v u s2 x y H2 I2 rx ry q=>hr a b pins s2 σ H2 x y v u Q I2 rx ry q (hs _ _))
def Gy (K:Mr):R2:=fun x y H Q=>∃p xs i v,x=.ref p/\y=.int i/\c9 K H p xs/\rX xs i=some v/\Q v H
def Gw (K:Mr):R2:=fun x y H Q=>∃p xs i v,x=.ref p/\y=.int i/\dO K H p xs/\rX xs i=some v/\Q v H
def Gx:R2:=fun x y H Q=>∃z i c,x=.str z/\y=.int i/\z.length<=sizeLine/\rX z.cps.toList i=some c/\Q (.str ⟨#[c]⟩) H
theorem E2:lu X (Gy X.K):=by
 intro value slice pins s σ H x y v u Q I rx ry h hs
 obtain ⟨p,xs,i,z,rfl,rfl,hq,he,q⟩:=h
 cases rx
 obtain ⟨t,rfl⟩:=ry
 obtain ⟨its,r,pl,hz⟩:=I.list hq
 obtain ⟨j,h1,h2,h3,h4,h5⟩:=qL he
 obtain ⟨w,ew,rw'⟩:=r.get h2
 have hl:=r.length
 have hn:=jY
 have fin:EP X pins σ Q w s:=⟨z,H,I,rw',q⟩
 by_cases h0:0<=i
 ·have hj:i.toNat=j:=by
   rw [seqIndex_of h0 h5] at h1
   exact MA h1
  exact item_listR pl.isList h0 #[0] (by rw [hj];simpa using ew) fin hs
 ·have hj:(i+(its.toArray.size:Int)).toNat=j:=by
   rw [seqIndex_neg #[0] h4] at h1
   rw [MB,<- hl]
   exact MA h1
  exact subscriptTail_builtinR (x:=w) pl.isList.typeIs slot_list_getitem.lookup
   (wpAny_getItem_list_neg (Q:=fun r s'=>r=w/\EP X pins σ Q r s') pl.isList #[0] (by rw [MB]<;>omega) #[0] (by rw [hj];simpa using ew) ⟨rfl,fin⟩) hs
theorem HA:lu X (Gw X.K):=by
 intro value slice pins s σ H x y v u Q I rx ry h hs
 obtain ⟨p,xs,i,z,rfl,rfl,hq,he,q⟩:=h
 cases rx
 obtain ⟨t,rfl⟩:=ry
 obtain ⟨its,r,pl,hz⟩:=I.tuple hq
 obtain ⟨j,h1,h2,h3,h4,h5⟩:=qL he
 obtain ⟨w,ew,rw'⟩:=r.get h2
 have hl:=r.length
 have hn:=jY
 have fin:EP X pins σ Q w s:=⟨z,H,I,rw',q⟩
 exact subscriptTail_builtinR (x:=w) pl.typeIs slot_tuple_getitem.lookup
  (getItem_tuple (j:=j) (Q:=fun r s'=>r=w/\EP X pins σ Q r s') pl #[0] #[0] (by rw [MB,<- hl];exact h1) (by simpa using ew) ⟨rfl,fin⟩) hs
theorem HB:lu X Gx:=by
 intro value slice pins s σ H x y v u Q I rx ry h hs
 obtain ⟨z,i,c,rfl,rfl,hz,he,q⟩:=h
 obtain ⟨t,rfl⟩:=rx
 obtain ⟨t',rfl⟩:=ry
 obtain ⟨j,h1,h2,h3,h4,h5⟩:=qL he
 have hl:z.cps.toList.length=z.length:=by simp [Str.length]
 rw [hl] at h1 h4 h5
 have hn:=jY
 exact tail_any (typeIs_str s z t) slot_str_getitem.lookup (getItem_str (c:=c) (by
  have e1:decide (i < -(2^63:Int))=false:=decide_eq_false #[0]
  have e2:decide (i≥2^63)=false:=decide_eq_false #[0]
  rw [e1,e2,Bool.or_false]) (by rw [h1];simpa using h2) ⟨.str ⟨#[c]⟩,H,I.tok _,⟨_,rfl⟩,q⟩) hs
def Gz (K:Mr):R2:=fun x y H Q=>Gy K x y H Q\/Gw K x y H Q\/Gx x y H Q
theorem HC:lu X (Gz X.K):=E2.or (HA.or HB)
theorem w9 (its:List Mq)(n j:Nat)(u:Mq):Obj.mapSeq (·.setIfInBounds j u) {cls:=.type "list",data:=.seq its.toArray n}={cls:=.type "list",data:=.seq (its.set j u).toArray n}:=by
 simp [Obj.mapSeq]
theorem Inv.lst {pins:List #[15]}{σ:St}{H:Hp}{s:Mx}{p:Addr}{xs:List V}(I:Inv X pins σ H s)(h:H p=some (.lst xs)) :
 ∃(its:List Mq) (n:Nat),Vals xs its/\s.heap.get? p=some {cls:=.type "list",data:=.seq its.toArray n}/\xs.length<=sizeLine:=by
 obtain ⟨z,its,n,r,e⟩:=I.hok p _ h
 exact ⟨its,n,r,e,z⟩
theorem Inv.lstUpd {pins:List #[15]}{σ:St}{H:Hp}{s:Mx}{p:Addr}{xs ys:List V}{its its':List Mq}{n n':Nat}{f:Obj->Obj}(I:Inv X pins σ H s)(h:H p=some (.lst xs))
 (ho:s.heap.get? p=some {cls:=.type "list",data:=.seq its.toArray n}) (hf:f {cls:=.type "list",data:=.seq its.toArray n}={cls:=.type "list",data:=.seq its'.toArray n'}) (r:Vals ys its') (hz:ys.length<=sizeLine) (t:Nat) :
 Inv X pins σ (upd H p (.lst ys)) {s with heap:=s.heap.update p f,toks:=t}:=by
 have e:(s.heap.update p f).get? p=some {cls:=.type "list",data:=.seq its'.toArray n'}:=by
  rw [N1 f ho (by rw [hf]<;>rfl),hf]
 refine I.write (x:=p) (e:=p) (by rw [h];trivial) #[131] (fun b u hb q=>(NC _ _ (NM hb)).trans q) ⟨_,e⟩ ?_
 exact ⟨hz,its',n',r,e⟩
def CQ:V->V->V->Hp->(Hp->Prop)->Prop:=fun o i v H Q=>∃p xs k j,o=.ref p/\i=.int k/\H p=some (.lst xs)/\bB xs.length k=some j/\Q (upd H p (.lst (xs.set j v)))
theorem set_list:ID X CQ:=by
 intro pins s σ H o i v ov iv u Q I ro ri rv h
 obtain ⟨p,xs,k,j,rfl,rfl,hp,hj,q⟩:=h
 cases ro
 obtain ⟨t,rfl⟩:=ri
 obtain ⟨its,n,r,ho,hz⟩:=I.lst hp
 obtain ⟨h1,h2,h3,h4⟩:=vQ hj
 have hl:=r.length
 have hn:=jY
 have I':Inv X pins σ (upd H p (.lst (xs.set j v))) {s with heap:=s.heap.update p (Obj.mapSeq (·.setIfInBounds j u))}:=
  I.lstUpd hp ho (w9 its n j u) (r.set rv j) (by rw [List.length_set];exact hz) s.toks
 by_cases h0:0<=k
 ·have hk:k.toNat=j:=by
   rw [seqIndex_of h0 h4] at h1
   exact MA h1
  exact PySem.W.ki_setAt ho h0 #[0] (by rw [MB,<- hl];exact h4) (by rw [hk];exact ⟨_,I',q⟩)
 ·have hk:(k+(its.toArray.size:Int)).toNat=j:=by
   rw [seqIndex_neg #[0] h3] at h1
   rw [MB,<- hl]
   exact MA h1
  exact PySem.W.ki_setBack ho #[0] (by rw [MB,<- hl];exact h3) #[0] (by rw [hk];exact ⟨_,I',q⟩)
theorem tK (lo hi:Option Int)(n:Nat):(sliceBounds lo hi none n).1=((HT.aS n 0 lo:Nat):Int)/\(sliceBounds lo hi none n).2.1=((HT.aS n n hi:Nat):Int)/\(sliceBounds lo hi none n).2.2=1:=by
 refine ⟨?_,?_,rfl⟩
 ·cases lo with
  |none=>simp [sliceBounds,HT.aS]
  | some i =>
    simp only [sliceBounds,HT.aS,Option.getD_none,show (1:Int) > 0 by decide,if_true]
    by_cases h:i<0
    ·simp only [h,if_true]<;>omega
    ·simp only [h,if_false]<;>omega
 ·cases hi with
  |none=>simp [sliceBounds,HT.aS]
  | some i =>
    simp only [sliceBounds,HT.aS,Option.getD_none,show (1:Int) > 0 by decide,if_true]
    by_cases h:i<0
    ·simp only [h,if_true]<;>omega
    ·simp only [h,if_false]<;>omega
theorem se (its:List Mq)(lo hi:Option Int):slicePick its.toArray lo hi none=((its.drop (HT.aS its.length 0 lo)).take (HT.aS its.length its.length hi-HT.aS its.length 0 lo)).toArray:=by
 obtain ⟨h1,h2,h3⟩:=tK lo hi its.toArray.size
 unfold slicePick
 rw [h1,h2,h3]
 simp only [sliceRange_one,pick_run,MB]<;>rfl
def Gu (K:Mr):V->Option Int->Option Int->Hp->VK->Prop:=fun x lo hi H Q=>∃a xs,x=.ref a/\c9 K H a xs/\∀p,H p=none->Q (.ref p) (upd H p (.lst (mI xs lo hi)))
theorem Eg:md X (Gu X.K):=by
 intro pins s σ H x v vl vu lo hi sl Q I rx hs pl pu h
 obtain ⟨a,xs,rfl,hx,q⟩:=h
 cases rx
 obtain ⟨its,r,ht,hz⟩:=I.list hx
 have hlen:=r.length
 refine ⟨"list",_,slot_list_getitem.lookup,ht.isList.typeIs,?_⟩
 refine wpAny_getItem_list_slice ht.isList hs pl pu .none (by simp) ?_ (by rw [MB]<;>omega)
 rw [se,<- hlen]
 refine ⟨.ref s.heap.objs.size,_,I.laid (t':=s.toks) (o:=.lst (mI xs lo hi)) #[158] (My _) ?_,rfl,q _ #[284]⟩
 exact ⟨MF (nP xs lo hi) hz,_,0,(r.drop #[120]).take #[46],MG _ rfl⟩
theorem uP:di X (.builtin "len") (fun xs H Q=>∃p ys,xs=[.ref p]/\#[330]/\Q (.int ys.length) H):=by
 intro pins s σ H xs us Q I r h
 obtain ⟨p,ys,rfl,hq,q⟩:=h
 obtain ⟨u,rfl,rx⟩:=vals1 r
 cases rx
 have hn:=jY
 rcases hq with hq|hq
 ·obtain ⟨its,r',pl,hz⟩:=I.list hq
  have hlen:=r'.length
  exact Calls.call_len_list pl.isList (by simp only [MB]<;>omega) ⟨.int ys.length,H,I.tok _,⟨s.toks+1,by rw [MB,hlen]⟩,q⟩
 ·obtain ⟨its,r',pl,hz⟩:=I.tuple hq
  have hlen:=r'.length
  exact len_tuple pl (by simp only [MB]<;>omega) ⟨.int ys.length,H,I.tok _,⟨s.toks+1,by rw [MB,hlen]⟩,q⟩
theorem uO:di X (.builtin "len") (fun xs H Q=>∃z,xs=[.str z]/\z.length<=sizeLine/\Q (.int z.length) H):=by
 intro pins s σ H xs us Q I r h
 obtain ⟨z,rfl,hz,q⟩:=h
 obtain ⟨u,rfl,t,rfl⟩:=vals1 r
 have hn:=jY
 exact len_str #[0] ⟨.int z.length,H,I.tok _,⟨_,rfl⟩,q⟩
theorem di.or {f:Mq}{r r':List V->Hp->VK->Prop}(h:di X f r)(h':di X f r'):di X f (fun xs H Q=>r xs H Q\/r' xs H Q):=by
 intro pins s σ H xs us Q I rs q
 rcases q with q|q
 ·exact h pins s σ H xs us Q I rs q
 ·exact h' pins s σ H xs us Q I rs q
theorem uN:di X (.type "list") (fun xs H Q=>∃p ys,xs=[.ref p]/\#[330]/\∀l,H l=none->Q (.ref l) (upd H l (.lst ys))):=by
 intro pins s σ H xs us Q I r h
 obtain ⟨p,ys,rfl,hq,q⟩:=h
 obtain ⟨u,rfl,rx⟩:=vals1 r
 cases rx
 have fin:∀(its:List Mq),Vals ys its->ys.length<=sizeLine->∀(h':Heap) (c':Nat),(∀b o',s.heap.get? b=some o'->h'.get? b=some o')->
  h'.get? s.heap.objs.size=some {cls:=.type "list",dict:=none,data:=.seq its.toArray c',slots:=#[]}->EP X pins σ Q #[49] {s with heap:=h'}:=fun its r' hz h' c' kp e=>
  ⟨.ref s.heap.objs.size,_,I.laid (t':=s.toks) kp (My _) (show dg X.prog X.w _ h' _ (.lst ys) from ⟨hz,its,c',r',e⟩),rfl,q _ #[284]⟩
 rcases hq with hq|hq
 ·obtain ⟨its,r',pl,hz⟩:=I.list hq
  have hlen:=r'.length
  obtain ⟨o,ho,hc,n,hd⟩:=pl.isList
  exact call_list_seq p #[131] ho hc hd (fun h' c' kp e=>fin its r' hz h' c' kp e) (by simp only [MB]<;>omega)
 ·obtain ⟨its,r',pl,hz⟩:=I.tuple hq
  have hlen:=r'.length
  obtain ⟨o,ho,hc,n,hd⟩:=pl
  exact call_list_seq p (.inr rfl) ho hc hd (fun h' c' kp e=>fin its r' hz h' c' kp e) (by simp only [MB]<;>omega)
theorem sj:di X (.type "tuple") (fun xs H Q=>∃p ys,xs=[.ref p]/\#[47]):=by
 intro pins s σ H xs us Q I r h
 obtain ⟨p,ys,rfl,h⟩:=h
 obtain ⟨u,rfl,rx⟩:=vals1 r
 cases rx
 rcases h with ⟨hq,q⟩|⟨hq,q⟩
 ·obtain ⟨its,r',pl,hz⟩:=I.list hq
  have hlen:=r'.length
  refine call_tuple_list pl.isList (fun h' kp=>?_) (by simp only [MB]<;>omega)
  have I1:Inv X pins σ H {s with heap:=h'}:=I.kept (t':=s.toks) kp
  have I2:Inv X pins σ (upd H h'.objs.size (.tup ys)) {s with heap:=h'.push {cls:=.type "tuple",data:=.seq its.toArray}}:=
   I1.laid (t':=s.toks) (fun b o e=>Mp _ e) (My _) (show dg X.prog X.w _ _ _ (.tup ys) from ⟨hz,its,r',IsTup.new _ _⟩)
  exact ⟨.ref h'.objs.size,_,I2,rfl,q _ #[262]⟩
 ·obtain ⟨its,r',pl,hz⟩:=I.tuple hq
  exact call_tuple_same pl ⟨.ref p,H,I,rfl,q⟩
def Kg (K:Mr)(T:String)(x:V)(H:Hp):Prop:=match x with
 |.str _=>T="str"
 |.int _=>T="int"
 |.ref p=>(T="list"/\∃xs,c9 K H p xs)\/(T="tuple"/\∃o,K.lookup p=some o/\o.cls=.type "tuple"/\o.dict=none)\/
  (T="dict"/\((∃kvs,H p=some (.dK kvs))\/∃kvs,H p=some (.dT kvs)))\/(T="set"/\∃S n,H p=some (.set S n))
 |_=>False
theorem FX {pins:List #[15]}{σ:St}{H:Hp}{s:Mx}{T:String}{x:V}{v:Mq}(I:Inv X pins σ H s)(r:RelV x v)(ty:Kg X.K T x H) :
 s.TypeIs v T/\∀a,v=.ref a->∃ob,s.heap.get? a=some ob/\ob.dict=none:=by
 cases x with
 | str z =>
   obtain ⟨t,rfl⟩:=r
   cases (show T="str" from ty)
   exact ⟨typeIs_str s z t,fun _ e=>nomatch e⟩
 | int i =>
   obtain ⟨t,rfl⟩:=r
   cases (show T="int" from ty)
   exact ⟨typeIs_int s i t,fun _ e=>nomatch e⟩
 | ref p =>
   cases r
   rcases ty with ⟨rfl,xs,hq⟩|⟨rfl,o,hk,hc,hd⟩|⟨rfl,hk⟩|⟨rfl,S,n,hk⟩
   ·obtain ⟨its,_,pl,_⟩:=I.list hq
    refine ⟨pl.isList.typeIs,fun a e=>?_⟩
    cases e
    obtain ⟨o,n,e,c,hd,_⟩:=pl
    exact ⟨o,e,hd⟩
   ·refine ⟨⟨o,I.kIn p o hk,hc⟩,fun a e=>?_⟩
    cases e
    exact ⟨o,I.kIn _ o hk,hd⟩
   ·have z:∃o,s.heap.get? p=some o/\o.ExactDict:=by
     rcases hk with ⟨kvs,hk⟩|⟨kvs,hk⟩
     ·obtain ⟨_,_,_,_,o,_,_,e,ex,_⟩:=I.hok p _ hk
      exact ⟨o,e,ex⟩
     ·obtain ⟨_,_,_,_,o,_,_,e,ex,_⟩:=I.hok p _ hk
      exact ⟨o,e,ex⟩
    obtain ⟨o,e,ex⟩:=z
    refine ⟨⟨o,e,ex.1⟩,fun a e2=>?_⟩
    cases e2
    exact ⟨o,e,ex.2.1⟩
   ·obtain ⟨o,_,_,_,e,ex,_⟩:=I.hok p _ hk
    refine ⟨⟨o,e,ex.1⟩,fun a e2=>?_⟩
    cases e2
    exact ⟨o,e,ex.2.1⟩
 |_=>exact False.elim ty
def tBM (K:Mr)(T:String)(r:V->List V->Hp->VK->Prop)(to:TE)(t:TA):TE:=fun σ H Q=>to σ H fun x H1=>Kg K T x H1/\t σ H1 fun xs H2=>r x xs H2 Q
variable {o e:Expr}{es:List Expr}{to:TE}{t:TA}{name:Str}{apos cpos:Pos}{T id:String}{r:V->List V->Hp->VK->Prop}
theorem wQ (pa:PlainAttrs T)(slot:Slot T name id)(hty:typeOf #[283]=pure (.type "method_descriptor"))(hm:IE X id r)(ho:PE X o to)(ha:PA X (e::es) t)
 (hbase:attributeBase o name X.env (eval o X.env)=eval o X.env:=by rfl)
 (hfew:((backTo cpos (starEach (e::es) X.env)).all (fun x=>!x.1)&&(backToKw cpos (keywordEach [] X.env)).all (fun x=>x.1.isSome)
  && decide ((e::es).length+([]:List Keyword).length+(if ([]:List Keyword).isEmpty then 0 else 1)<30))=true:=by rfl)
 (hline:#[274]=true:=by rfl) (hs:starEach (e::es) X.env=#[214]::starEach es X.env:=by rfl) (hplain:(backTo cpos (starEach es X.env)).any (·.1)=false:=by rfl) :
 PE X (.Call (.Attribute o name apos) (e::es) [] cpos) (tBM X.K T r to t):=by
 intro pins s σ H Q I h
 refine wpAny_Call_method_late hbase hfew hline rfl (bc (ho pins s σ H _ I h) fun v s1 ⟨x,H1,I1,r1,ty,q1⟩=>?_)
 obtain ⟨h1,h2⟩:=FX I1 r1 ty
 refine ⟨T,id,pa,slot,hty,h1,h2,?_⟩
 have hA:=ha cpos pins s1 σ H1 _ I1 q1
 rw [hs] at hA ⊢
 refine Calls.callWith_builtin (by show (false||(backTo cpos (starEach es X.env)).any (·.1))=false;rw [hplain]<;>rfl) (Calls.evalArgs_plain ?_)
 exact bc hA fun us s2 ⟨vs,H2,I2,r2,q2⟩=>hm pins s2 σ H2 x vs v us Q I2 r1 r2 q2
end
end L2
namespace L2
open PySem PySem.Spec PyProof.Rows
def KH (X:Cx)(id:String)(r:V->List V->Hp->VK->Prop):Prop:=
 ∀(pins:List #[15]) (s:Mx) (σ:St) (H:Hp) (x:V) (xs:List V) (v:Mq) (us:List Mq) (Q:VK),Inv X pins σ H s->RelV x v->Vals xs us->r x xs H Q->
  wpAny #[2] X.A (call #[283] (v::us)) #[27] X.xe s
theorem Vals.one:∀{x:V}{us:List Mq},Vals [x] us->∃u,us=[u]/\RelV x u
 |_,_,.cons r .nil=>⟨_,rfl,r⟩
theorem Vals.rep {xs:List V}{us:List Mq}(h:Vals xs us):∀k:Nat,Vals (List.replicate k xs).flatten (List.replicate k us).flatten
 |0=>.nil
 | k + 1 => by
   rw [N3,N3,Om,Om]
   exact Vals.append h (Vals.rep h k)
theorem foldl_rep (its:List Mq):∀(k:Nat) (acc:List Mq),
 List.foldl #[177] acc.toArray (List.replicate k its.toArray)=(acc++(List.replicate k its).flatten).toArray
 |0,acc=>by simp
 | k + 1, acc => by
   have e:acc.toArray++its.toArray=(acc++its).toArray:=by simp
   have e2:(acc++its)++(List.replicate k its).flatten=acc++(List.replicate (k+1) its).flatten:=by
    rw [N3,Om,List.append_assoc]
   rw [<- e2,<- foldl_rep its k (acc++its),<- e,N3,List.foldl_cons]
section
variable {X:Cx}{pins:List #[15]}{σ:St}{H:Hp}{s:Mx}{l b:Addr}{xs ys zs:List V}
theorem Inv.lset {its its':List Mq}{n:Nat}{f:Array Mq->Array Mq}{t':Nat}(I:Inv X pins σ H s)(hH:H l=some (.lst xs))
 (e:s.heap.get? l=some {cls:=.type "list",data:=.seq its.toArray n}) (hf:f its.toArray=its'.toArray) (hv:Vals ys its') (hz:ys.length<=sizeLine) :
 Inv X pins σ (upd H l (.lst ys)) {s with heap:=s.heap.update l (Obj.mapSeq f),toks:=t'}:=by
 have q:=PySem.IsL.update e f
 rw [hf] at q
 refine I.write (x:=l) (e:=l) (by rw [hH];exact trivial) #[131] (fun b' u hb hu=>(NC s.heap (Obj.mapSeq f) (NM hb)).trans hu) ⟨_,q⟩ ?_
 exact ⟨hz,its',_,hv,q⟩
theorem Inv.lnew {its:List Mq}{t':Nat}(I:Inv X pins σ H s)(hv:Vals ys its)(hz:ys.length<=sizeLine) :
 Inv X pins σ (upd H s.heap.objs.size (.lst ys)) {s with heap:=s.heap.push {cls:=.type "list",data:=.seq its.toArray},toks:=t'}:=
 I.laid (fun _ _ q=>Mp _ q) (My _) ⟨hz,its,0,hv,MG _ rfl⟩
theorem Inv.fresh (I:Inv X pins σ H s):H s.heap.objs.size=none:=I.hok.fresh (My _)
theorem Inv.lstM (I:Inv X pins σ H s)(hH:H l=some (.lst xs)):xs.length<=sizeLine/\∃(its:List Mq) (n:Nat),Vals xs its/\xs.length=its.length/\s.heap.get? l=some {cls:=.type "list",data:=.seq its.toArray n}:=by
 obtain ⟨z,its,n,r,e⟩:=I.hok l _ hH
 exact ⟨z,its,n,r,r.length,e⟩
theorem uf {n:Nat}(h:n<=sizeLine):Builtin.List.listTooLong n=false:=by
 unfold Builtin.List.listTooLong
 exact decide_eq_false #[0]
end
section
variable {X:Cx}
def Ex:V->List V->Hp->VK->Prop:=fun x vs H Q=>∃l xs y,x=.ref l/\vs=[y]/\H l=some (.lst xs)/\xs.length<sizeLine/\Q .non (upd H l (.lst (xs++[y])))
theorem rB:KH X "list.append" Ex:=by
 intro pins s σ H x vs v us Q I rx rv h
 obtain ⟨l,xs,y,rfl,rfl,hH,hz,q⟩:=h
 cases rx
 obtain ⟨u,rfl,ru⟩:=rv.one
 obtain ⟨z,its,n,r,hl,e⟩:=I.lstM hH
 refine call_meets F.slot_list_append ⟨_,e,rfl⟩ F.entry_list_append (F.args_list_append_2 _ _) (PySem.list_append l its.toArray n u (by rw [MB];omega)) ⟨e,?_⟩
 refine ⟨.non,_,I.lset (its':=its++[u]) hH e (by simp) (r.append (.cons ru .nil)) ?_,rfl,q⟩
 rw [Nx,List.length_singleton]
 omega
def Ew:V->List V->Hp->VK->Prop:=fun x vs H Q=>∃l b xs zs,x=.ref l/\vs=[.ref b]/\H l=some (.lst xs)/\H b=some (.lst zs)/\xs.length+zs.length<=sizeLine/\Q .non (upd H l (.lst (xs++zs)))
theorem Kt:KH X "list.extend" Ew:=by
 intro pins s σ H x vs v us Q I rx rv h
 obtain ⟨l,b,xs,zs,rfl,rfl,hH,hB,hz,q⟩:=h
 cases rx
 obtain ⟨u,rfl,ru⟩:=rv.one
 cases ru
 obtain ⟨z,its,n,r,hl,e⟩:=I.lstM hH
 obtain ⟨z2,its2,n2,r2,hl2,e2⟩:=I.lstM hB
 have hsz:its.toArray.size+its2.toArray.size<=sizeLine:=by rw [MB,MB];omega
 have hlong:¬ (!its.toArray.isEmpty&&Builtin.List.listTooLong (its.toArray.size+its2.toArray.size))=true:=by
  rw [uf hsz,Bool.and_false]
  exact Nf
 refine call_meets F.slot_list_extend ⟨_,e,rfl⟩ F.entry_list_extend (F.args_list_extend_2 _ _)
  (AutoSeq1.list_extend_list_list_0 l its.toArray n b its2.toArray n2 hlong (by rw [MB];omega) #[0]) ⟨e,e2,?_⟩
 refine ⟨.non,_,I.lset (its':=its++its2) hH e (by simp) (r.append r2) ?_,rfl,q⟩
 rw [Nx]
 omega
def Lj:R2:=fun x y H Q=>∃l b xs zs,x=.ref l/\y=.ref b/\H l=some (.lst xs)/\H b=some (.lst zs)/\xs.length+zs.length<=sizeLine/\∀p,H p=none->Q (.ref p) (upd H p (.lst (xs++zs)))
theorem Ha:bY X (binaryOp .Add) Lj:=by
 intro pins s σ H x y v u Q I rx ry h
 obtain ⟨l,b,xs,zs,rfl,rfl,hH,hB,hz,q⟩:=h
 cases rx
 cases ry
 obtain ⟨z,its,n,r,hl,e⟩:=I.lstM hH
 obtain ⟨z2,its2,n2,r2,hl2,e2⟩:=I.lstM hB
 refine PySem.P.add_list e e2 ?_ (by rw [MB,MB];omega)
 have ea:its.toArray++its2.toArray=(its++its2).toArray:=by simp
 rw [ea]
 exact ⟨.ref _,_,I.lnew (t':=s.toks) (r.append r2) (by rw [Nx];omega),rfl,q _ I.fresh⟩
def Lg:R2:=fun x y H Q=>∃l k xs,x=.ref l/\y=.int k/\H l=some (.lst xs)/\-(2^63)<=k/\k<2^63/\xs.length*k.toNat<=sizeLine/\
 ∀p,H p=none->Q (.ref p) (upd H p (.lst #[159].flatten))
theorem len_rep {α:Type}(xs:List α)(k:Nat):(List.replicate k xs).flatten.length=k*xs.length:=by
 induction k with
 |zero=>simp
 |succ k ih=>rw [N3,Om,Nx,ih,Nat.succ_mul,Nat.add_comm]
theorem G5:bY X (binaryOp .Mult) Lg:=by
 intro pins s σ H x y v u Q I rx ry h
 obtain ⟨l,k,xs,rfl,rfl,hH,h1,h2,hz,q⟩:=h
 cases rx
 obtain ⟨t,rfl⟩:=ry
 obtain ⟨z,its,n,r,hl,e⟩:=I.lstM hH
 have hlen:its.toArray.size*k.toNat<=sizeLine:=by rw [MB,<- hl];exact hz
 have hcap:¬ its.toArray.size*k.toNat > (2^63-1) / 8:=by
  have:(sizeLine:Nat)<=(2^63-1) / 8:=by decide
  omega
 have hfit:¬ (!Builtin.List.listFitsIndex k)=true:=by
  rw [fitsIndex_both h1 h2]
  exact Nf
 have hlong:¬ Builtin.List.listTooLong (its.toArray.size*k.toNat)=true:=by
  rw [uf hlen]
  exact Nf
 have hnew:List.foldl #[177] #[] (List.replicate (if its.toArray.isEmpty=true then 0 else k.toNat) its.toArray)=(List.replicate k.toNat its).flatten.toArray:=by
  have f0:∀m:Nat,List.foldl #[177] #[] (List.replicate m its.toArray)=(List.replicate m its).flatten.toArray:=fun m=>by
   have:=foldl_rep its m []
   rw [NW] at this
   exact this
  rw [f0]
  cases its with
  |nil=>simp
  |cons a r'=>rw [if_neg (by simp)]
 refine wpAny_binaryOp_repeat_ref (T:="list") (U:="int") #[1] ⟨_,e,rfl⟩ (fun s'=>typeIs_int s' k t) noFill_list_mul F.fills_int_mul Pp repeat_list F.slot_int_index.lookup
  (call_meets Pp (typeIs_int s k t) F.entry_int_rmul (F.args_int_rmul_2 _ _) (int___rmul___int_list k t l its.toArray n)
   ⟨e,rfl,⟨_,e,rfl⟩,call_meets F.slot_list_mul ⟨_,e,rfl⟩ F.entry_list_mul (F.args_list_mul_2 _ _) (AutoListH.list___mul___list_int_3 l its.toArray n k t hfit hcap hlong) ⟨e,?_⟩⟩)
 rw [hnew]
 exact ⟨.ref _,_,I.lnew (t':=s.toks) (r.rep k.toNat) (by rw [len_rep,Nat.mul_comm];exact hz),rfl,q _ I.fresh⟩
end
end L2
namespace Att
open PySem PySem.W PySem.Calls PyProof.Rows
theorem pG {P:NV}{h:Heap}:∀(ns:List Int) (vs:List Mq),WellAll P h vs (ns.map WData.int)->IntsAre vs ns:=by
 intro ns
 induction ns with
 | nil =>
   intro vs w
   rw [OH] at w
   cases w
   exact .nil
 | cons n ns ih =>
   intro vs w
   rw [N4] at w
   cases w with
   | cons a b =>
     cases a
     exact .cons _ _ (ih _ b)
theorem yN {l:OpenLaw}{n:Nat}(hn:l.most=some n){P:NV}{h:Heap}{args:List WData}{vals:List Mq}
 (hpre:l.row.toRowW.claim.pre args=true) (hwl:WellAll P h vals args) :
 ∃a vs ns,vals=[Value.ref a]/\args=[WData.list (ns.map WData.int)]/\h.get? a=some {cls:=.type "list",data:=.seq vs.toArray}/\IntsAre vs ns/\ns.length<=n:=by
 have hsh:WShape.hasAll [] args [.list .int]=true:=(pre_splitW hpre).1
 have hc:l.pre.holds [] {args:=args}=true:=(pre_splitW hpre).2
 obtain ⟨d,r,rfl,h1,h2⟩:=hasAllW_cons hsh
 obtain rfl:=hasAllW_nil h2
 obtain ⟨xs,rfl,h3⟩:=hasW_list h1
 obtain ⟨ns,rfl⟩:=items_int h3
 have hlen:ns.length<=n:=by
  unfold OpenLaw.pre at hc
  have h4:(WTm.not (.lt (.lit (.int (n:Int))) (.len (.arg 0)))).holds [] {args:=[.list (ns.map .int)]}=true:=by
   have h4:=(holds_andW hc).1
   rw [hn] at h4
   exact h4
  have h5:=condW_of h4 (w_not (w_lt w_lit (w_len_list (w_arg rfl))))
  rw [MN] at h5
  refine Nat.le_of_not_lt fun q=>?_
  have q':(n:Int)<((ns.length:Nat):Int):=by omega
  first
   |(rw [decide_eq_true q'] at h5;exact absurd h5 #[1])
   |(simp at h5;omega)
 cases hwl with
 | cons w1 w2 =>
   cases w2
   cases w1 with
   |list ho hall=>exact ⟨_,_,ns,rfl,rfl,ho,pG ns _ hall,hlen⟩
theorem yY (l:OpenLaw)(args:List WData):l.row.toRowW.claim.post args #[156] args=true:=
 postW_of (r:=l.row.toRowW) (X:=(true==true))
  (show WShape.has [] #[156] .bool=true by first|rfl|decide|simp [WShape.has,WShape.arms,WShape.armsAll])
  (show (WTm.eq .res (.lit #[156])).value [] {args:=args,res:=some #[156],after:=args}=some (.bool (true==true)) from w_eq_bool (w_res rfl) w_lit) rfl
theorem attach_call {l:OpenLaw}{n:Nat}{q:MP}{loose:List Str}{XP:(Str->Option Mq)->Heap->Prop}{YP:Nd->Heap->Prop}{d:DefRec}
 (hn:l.most=some n) (hdf:d.params.defaults=[])
 (call:∀(w:Nd) (s₀ s₁:Mx) (mg mb:Str->Option Mq) (fa:Addr) (o:Obj) (pm cd doc:Mq) (a:Addr) (vs:List Mq) (ns:List Int),
  Ground q loose [] XP w s₀ mg mb s₁.heap->YP w s₁.heap->
  s₁.heap.get? fa=some o->o.data=.func (docDef d.name d.params d.body d.scope pm cd doc)->s₁.heap.CodeRec cd d.name->mg d.name=some (.ref fa)->
  s₁.heap.get? a=some {cls:=.type "list",data:=.seq vs.toArray}->IntsAre vs ns->ns.length<=n->s₁.gens=#[]->
  codeAny (model l.prog w) callerA #[270] #[52] s₁) :
 WalkO q loose XP YP l.row.toRowW d [] (fun f vs=>PySem.call f vs):=by
 intro w s₀ s₁ mg mb G Y fa o pm cd doc dV kV ho hd hcd hD hmg hg args vals as hpre hlay hrd hwl hlo
 obtain rfl:dV=.none:=Dflts.none hD hdf
 obtain rfl:kV=.none:=Dflts.noKw hD
 obtain ⟨a,vs,ns,rfl,rfl,hobj,hints,hlen⟩:=yN hn hpre hwl
 refine enter_call (codeAny_mono (call w s₀ s₁ mg mb fa o pm cd doc a vs ns G Y ho (fd_plain hd) hcd hmg hobj hints hlen hg) fun r s' hq=>?_)
 obtain ⟨rfl,h2,h3,h4⟩:=hq
 exact ⟨.inl ⟨.bool true,.bool true,[],rfl,fun _=>rfl,.bool true,yY l _,fun _=>⟨List.Pairwise.nil,fun _ hm=>(nomatch hm)⟩⟩,h2,h3,h4⟩
end Att
namespace L2
open PySem PySem.Spec PyProof.Rows
theorem qS:∀{vs:List Mq}{ns:List Int},IntsAre vs ns->Vals #[331] vs
 |_,_,.nil=>.nil
 |_,_,.cons n t h=>.cons ⟨t,rfl⟩ (qS h)
def xT (H:Hp):Prop:=∀b,H b=none\/∃o xs,H b=some (.frz o (.lst xs))
theorem BP {P:MP}{w:Nd}{K:Mr}{mg mb:Str->Option Mq}{CX:nV}{k:Nat}{fa a:Addr}{fd:OB}{x:Str}{sp:Sp}{s₁:Mx}{vs:List Mq}{ns:List Int}
 (KX:K.In s₁.heap) (hns:s₁.heap.Ns mainGlobals mg) (hb:s₁.heap.Ns builtinsNs mb) (hbb:∀x:Str,x≠"__name__"->mb x=bootBuiltins x) (hlim:s₁.heap.NoLimit) (hg:s₁.gens=#[])
 (ha:s₁.heap.get? a=some {cls:=.type "list",data:=.seq vs.toArray}) (hi:IntsAre vs ns) (hl:ns.length<=sizeLine) (hr:cx k callerA)
 (F:∀base:Heap,K.In base->base.Ns mainGlobals mg->kO P w K mg base CX k fa fd [x] sp) (hbind:∀(s:Mx) (u:Mq),BindsTo s fd ⟨[u],[]⟩ [(x,u)])
 (hsp:∀H:Hp,xT H->c9 K H a #[331]->sp [.ref a] H (fun v _=>v=.bl true) fun _ _ _=>False)
 (hCX:∀H e s',CX [] H s₁ (fun _ _ _=>False) e s'->False) :
 codeAny (model P w) callerA #[270] #[52] s₁:=by
 have rv:=qS hi
 have lenV:=hi.length
 have core:∀H:Hp,xT H->c9 K H a #[331]->eY P w H s₁.heap->(∀b,H b≠none->b=a)->(H a≠none->K.lookup a=none)->
  codeAny (model P w) callerA #[270] #[52] s₁:=by
  intro H hO hS hok hA hK
  have iN:∀{b:Addr}{o:Obj},s₁.heap.get? b=some o->H b=none->(lV s₁.heap H).get? b=some o:=fun e n=>BW e n
  have noA:∀{b:Addr}{o:Obj}{es:Array Ou}{ep:Nat},s₁.heap.get? b=some o->o.data=.dict es ep->H b=none:=fun {b o es ep} e d=>by
   cases q:H b with
   |none=>rfl
   | some u =>
     have e':b=a:=hA b (by rw [q];simp)
     subst e'
     rw [ha] at e;cases e
     have d':Data.seq vs.toArray _=Data.dict es ep:=d
     cases d'
  have nsK:∀{b:Addr}{m:Str->Option Mq},s₁.heap.Ns b m->(lV s₁.heap H).Ns b m:=fun {b m} ⟨o,es,ep,e,d,r⟩=>⟨o,es,ep,iN e (noA e d),d,r⟩
  have hKb:K.In (lV s₁.heap H):=fun b o e=>iN (KX b o e) (by
   cases q:H b with
   |none=>rfl
   | some u =>
     have e':b=a:=hA b (by rw [q];simp)
     subst e'
     rw [hK (by rw [q];simp)] at e;cases e)
  have hM:Mod K mg (lV s₁.heap H):=⟨hKb,nsK hns,⟨mb,nsK hb,hbb⟩,let ⟨mc,h1,h2⟩:=hlim;⟨mc,nsK h1,h2⟩⟩
  have e0:oJ P w K mg (lV s₁.heap H) callerA [] s₁ H:=⟨rfl,hM,fun b o e=>ES e,Nat.le_of_eq (zK _ _),trivial,fun b hb=>absurd (show b∈([]:List Addr) from hb) (by simp),hok,.of_eq hg⟩
  refine codeAny_mono ((F _ hKb (nsK hns)).run callerA [] s₁ H ⟨[.ref a],[]⟩ [.ref a] [.ref a] _ _ hr e0 (hbind s₁ (.ref a)) (.cons rfl .nil) (hsp H hO hS)) fun r s' h=>?_
  cases r with
  |error e=>exact (hCX H e s' h).elim
  | ok fl =>
    cases fl with
    |next=>exact False.elim h
    |brk=>exact False.elim h
    |cont=>exact False.elim h
    | ret u =>
      obtain ⟨v,H',os,bare,un,hok',r',q⟩:=h
      have q':v=.bl true:=q
      subst q'
      obtain rfl:u=Value.bool true:=r'
      refine ⟨rfl,OldK.of_keep fun b o e=>?_,os,bare⟩
      cases q:H b with
      |none=>exact un.keep b o e q (by intro z;exact absurd (show b∈([]:List Addr) from z) (by simp)) (by simp)
      | some u =>
        rcases hO b with z|⟨ob,xs,z⟩
        ·rw [q] at z;cases z
        ·have z2:=un.frzs b ob _ z
         obtain ⟨e1,_⟩:=hok b _ z
         obtain ⟨e2,_⟩:=hok' b _ z2
         rw [e] at e1;cases e1
         exact e2
 cases hk:K.lookup a with
 | some o =>
   have e:=KX a o hk
   rw [ha] at e
   cases e
   refine core (fun _=>none) (fun _=>.inl rfl) (.inr ⟨_,vs.toArray,_,hk,rfl,rfl,rfl,by rw [MB,lenV];exact hl,by simpa using rv⟩) (fun b u z=>by have z':(none:Option HO)=some u:=z;cases z') (fun b z=>absurd rfl z) fun z=>absurd rfl z
 | none =>
   refine core (fun b=>if b=a then some (.frz {cls:=.type "list",data:=.seq vs.toArray} (.lst #[331])) else none) (fun b=>?_) (.inl (.inr ⟨{cls:=.type "list",data:=.seq vs.toArray},if_pos rfl⟩)) (fun b u z=>?_) (fun b z=>?_) fun _=>hk
   ·by_cases hb:b=a
    ·exact .inr ⟨_,_,if_pos hb⟩
    ·exact .inl (if_neg hb)
   ·by_cases hb:b=a
    ·have z':=(if_pos hb).symm.trans z
     cases z'
     subst hb
     exact ⟨ha,by rw [MN];exact hl,vs,_,rv,ha⟩
    ·have z':=(if_neg hb).symm.trans z
     cases z'
   ·by_cases hb:b=a
    ·exact hb
    ·exact absurd (if_neg hb) z
end L2
namespace L2
open PySem PySem.Spec PyProof.Rows
theorem DH {l:PySem.W.OpenLaw}{n k:Nat}{q:MP}{loose:List Str}{XP:(Str->Option Mq)->Heap->Prop}{YP:Nd->Heap->Prop}{d:DefRec}{K:NV->Mr}{CX:Nd->nV}{sp:Nd->Sp}{x:Str}
 (hn:l.most=some n) (hn2:n<=sizeLine) (hdf:d.params.defaults=[]) (hr:cx k callerA)
 (hY:∀(w:Nd) (h:Heap),YP w h->(K w.params).In h)
 (F:∀(w:Nd) (mg:Str->Option Mq) (fa:Addr) (h:Heap),(K w.params).In h->h.Ns mainGlobals mg->mg d.name=some (.ref fa)->
  ∃fd:OB,(∀(s:Mx) (u:Mq),BindsTo s fd ⟨[u],[]⟩ [(x,u)])/\
   ∀base:Heap,(K w.params).In base->base.Ns mainGlobals mg->kO l.prog w (K w.params) mg base (CX w) k fa fd [x] (sp w))
 (hsp:∀(w:Nd) (H:Hp) (a:Addr) (ns:List Int),ns.length<=n->xT H->c9 (K w.params) H a #[331]->sp w [.ref a] H (fun v _=>v=.bl true) fun _ _ _=>False)
 (hCX:∀(w:Nd) (H:Hp) (s:Mx) (e:Mq) (s':Mx),CX w [] H s (fun _ _ _=>False) e s'->False) :
 PySem.W.WalkO q loose XP YP l.row.toRowW d [] (fun f vs=>PySem.call f vs):=by
 refine Att.attach_call hn hdf fun w s₀ s₁ mg mb fa o pm cd doc a vs ns G Y ho hd hcd hmg hobj hints hlen hg=>?_
 have KX:=hY w _ Y
 obtain ⟨fd,hb,hF⟩:=F w mg fa _ KX G.T.g hmg
 exact BP KX G.T.g G.T.b G.T.builtins G.T.nolimit hg hobj hints (MF hlen hn2) hr hF hb (fun H hO hS=>hsp w H a ns hlen hO hS) fun H e s'=>hCX w H s₁ e s'
end L2
namespace L2
open PySem PySem.Spec PyProof.Rows
def gr (s:Stmt):Arguments:=match s with
 |.FunctionDef _ a _ _ _ _ _ _ _ _=>a
 |_=>{posonlyargs:=[],args:=[],vararg:=none,kwonlyargs:=[],kw_defaults:=[],kwarg:=none,defaults:=[]}
def dw (s:Stmt):List Stmt:=match s with
 |.FunctionDef _ _ b _ _ _ _ _ _ _=>b
 |_=>[]
def aX (s:Stmt):Scope:=match s with
 |.FunctionDef _ _ _ _ _ _ sc _ _ _=>sc
 |_=>{kind:=.function,names:=[],isGenerator:=false,isCoroutine:=false}
abbrev E0:XK:=fun _ _ _=>False
structure r8 (K:Mr) (x qual:Str) (st:Stmt) (f:Addr) (fd:OB):Prop where
 ex:∃(oc:Mq) (od:Option Addr) (kV doc pm:Mq) (an:Option Addr) (cdv ct:Mq) (osl:Array (Option Mq)),
  fd=PySem.W.fnOf x qual (gr st) (dw st) (aX st) .none kV doc pm an cdv ct/\K.lookup f=some ⟨oc,od,.func fd,osl⟩/\PySem.W.codeIn K cdv qual=true
 kp:PySem.W.keepIn K (.ref f)=true
section
variable {P:MP}{w:Nd}{K:Mr}{mg:Str->Option Mq}{base:Heap}
theorem r8.binds {x qual:Str}{st:Stmt}{f:Addr}{fd:OB}{ps:List Str}(F:r8 K x qual st f fd)
 (h:∀(kV doc pm:Mq) (an:Option Addr) (cdv ct:Mq) (us:List Mq),us.length=ps.length->bindArgs #[81] ⟨us,[]⟩=pure (ps.zip us)):Binds K fd ps []:=by
 obtain ⟨oc,od,kV,doc,pm,an,cdv,ct,osl,rfl,lk,hcd⟩:=F.ex
 exact .all (h kV doc pm an cdv ct)
theorem zM {x qual:Str}{st:Stmt}{f:Addr}{oc:Mq}{od an:Option Addr}{osl:Array (Option Mq)}{kV doc pm cdv ct:Mq}(l:K.lookup f=some ⟨oc,od,.func #[81],osl⟩)
 (c:PySem.W.codeIn K cdv qual=true) (k:PySem.W.keepIn K (.ref f)=true):r8 K x qual st f #[81]:=⟨⟨oc,od,kV,doc,pm,an,cdv,ct,osl,rfl,l,c⟩,k⟩
end
end L2
namespace LD
open PySem
inductive D where
 |non|bl (b:Bool)|int (i:Int)|str (x:Str)|tup (ds:List D)|lst (ds:List D)|frz (ds:List D)|cell (k:Nat)|fn (f:Nat)|exc (c:Nat) (p:Option Int)
 deriving Inhabited
abbrev Mem:=List (List D)
abbrev Env:=List (Option D)
inductive Res (α:Type) where
 |ok (a:α) (M:Mem)
 |err (x:D) (M:Mem)
 |bad
def Res.bind {α β:Type}(r:Res α)(f:α->Mem->Res β):Res β:=match r with
 |.ok a M=>f a M
 |.err x M=>.err x M
 |.bad=>.bad
@[simp] theorem Res.bind_ok {α β:Type}(a:α)(M:Mem)(f:α->Mem->Res β):(Res.ok a M).bind f=f a M:=rfl
@[simp] theorem Res.bind_err {α β:Type}(x:D)(M:Mem)(f:α->Mem->Res β):(Res.err x M:Res α).bind f=.err x M:=rfl
@[simp] theorem Res.bind_bad {α β:Type}(f:α->Mem->Res β):(Res.bad:Res α).bind f=.bad:=rfl
inductive lA where
 |add|sub|mul|fdiv|mod|pow
 deriving DecidableEq
inductive j7 where
 |eq|ne|lt|le|gt|ge|isN|notN|isin|notin
 deriving DecidableEq
inductive Ty where
 |int|bool|str|tuple|list|own (c:Str)
 deriving DecidableEq
inductive u7 where
 |len|tuple|list (m:Bool)|listR (m:Bool)|all|sum|repr
 deriving DecidableEq
inductive dv where
 |one (i:Nat)
 |tup (l:List Nat)
noncomputable def sz:Nat:=16777216
def bG (m:Bool)(ds:List D)(M:Mem):Res D:=if ds.length<=sz then (if m then .ok #[215] (M++[ds]) else .ok (.lst ds) M) else .bad
def lP (ds:List D)(M:Mem):Res D:=if ds.length<=sz then .ok (.tup ds) M else .bad
def bZ (M:Mem):D->Option (List D)
 |.lst ds=>some ds
 |.tup ds=>some ds
 |.frz ds=>some ds
 |.cell k=>M[k]?
 |_=>none
def fS (M:Mem):D->Option (List D)
 |.lst ds=>some ds
 |.frz ds=>some ds
 |.cell k=>M[k]?
 |_=>none
def jW (M:Mem):D->Option (List D)
 |.lst ds=>some ds
 |.cell k=>M[k]?
 |_=>none
def aA:Nat->D->Bool
 |_,.non=>true
 |_,.bl _=>true
 |_,.int _=>true
 |_,.str x=>x.cps.all (· < 0x110000)
 |n+1,.tup ds=>ds.all (aA n)
 |n+1,.lst ds=>ds.all (aA n)
 |0,.tup _=>false
 |0,.lst _=>false
 |_,.frz _=>false
 |_,.cell _=>false
 |_,.fn _=>false
 |_,.exc _ _=>false
mutual
def bq:D->D->Bool
 |.non,.non=>true
 |.bl a,.bl b=>a==b
 |.bl a,.int b=>(if a then 1 else 0)==b
 |.int a,.bl b=>a==(if b then 1 else 0)
 |.int a,.int b=>a==b
 |.str a,.str b=>a==b
 |.tup a,.tup b=>jo a b
 |.lst a,.lst b=>jo a b
 |_,_=>false
def jo:List D->List D->Bool
 |[],[]=>true
 |a::r,b::t=>bq a b&&jo r t
 |[],_::_=>false
 |_::_,[]=>false
end
def iD:D->Bool
 |.str _=>true
 |_=>false
def pN (a b:D):Option Bool:=if iD a&&iD b||aA 64 a&&aA 64 b then some (bq a b) else none
def view (M:Mem):D->D
 | .cell k => match M[k]? with
   |some ds=>.lst ds
   |none=>.cell k
 |.frz ds=>.lst ds
 |d=>d
def cy:Nat->Mem->D->D
 |0,_,d=>d
 | n + 1, M, .cell k => match M[k]? with
   |some ds=>.lst #[111]
   |none=>.cell k
 |n+1,M,.frz ds=>.lst #[111]
 |n+1,M,.lst ds=>.lst #[111]
 |n+1,M,.tup ds=>.tup #[111]
 |_+1,_,d=>d
def la (M:Mem)(a b:D):Option Bool:=match pN (view M a) (view M b) with
 |some r=>some r
 |none=>pN (cy 64 M a) (cy 64 M b)
def kK (M:Mem):D->Option Bool
 |.non=>some false
 |.bl b=>some b
 |.int i=>some (i != 0)
 |.str x=>if x.cps.size<=sz then some (x.cps.size != 0) else none
 |.tup ds=>some (!ds.isEmpty)
 |.lst ds=>some (!ds.isEmpty)
 |.frz ds=>some (!ds.isEmpty)
 |.cell k=>(M[k]?).map fun ds=>!ds.isEmpty
 |.fn _=>none
 |.exc _ _=>none
def bB (n:Nat)(i:Int):Option Nat:=if 0<=i then (if i<n then some i.toNat else none) else if -(n:Int)<=i then some (i+n).toNat else none
def eW (m:Bool)(o:lA)(a b:D)(M:Mem):Res D:=match o,a,b with
 |.add,.int i,.int j=>.ok (.int (i+j)) M
 |.add,.str x,.str y=>if x.cps.size+y.cps.size<=sz then .ok (.str ⟨x.cps++y.cps⟩) M else .bad
 |.add,.tup x,.tup y=>lP (x++y) M
 | .add, a, b => match jW M a, jW M b with
   |some x,some y=>bG m (x++y) M
   |_,_=>.bad
 |.sub,.int i,.int j=>.ok (.int (i-j)) M
 |.mul,.int i,.int j=>if (-(2^64)<i/\i<2^64)\/(-(2^64)<j/\j<2^64) then .ok (.int (i*j)) M else .bad
 |.mul,.tup x,.int j=>if x.length*j.toNat<=sz/\-(2^63)<=j/\j<2^63 then .ok (.tup #[109].flatten) M else .bad
 | .mul, a, .int j => match jW M a with
   |some x=>if x.length*j.toNat<=sz/\-(2^63)<=j/\j<2^63 then bG m #[109].flatten M else .bad
   |none=>.bad
 |.fdiv,.int i,.int j=>if 0<j/\j<1073741824 then .ok (.int (i / j)) M else .bad
 |.mod,.int i,.int j=>if 0<j then .ok (.int (i % j)) M else .bad
 |.pow,.int i,.int j=>if 0<=j/\j<=1000000/\i.natAbs<2^64 then .ok (.int (i^j.toNat)) M else .bad
 |_,_,_=>.bad
def ik (x:D)(ds:List D):Option Bool:=if aA 64 x&&ds.all (aA 63) then some (ds.any fun y=>bq y x) else none
def jL (x y:Str):Bool:=!(Builtin.Str.occurrences y x 0 y.length 1).isEmpty
def ks:D->Bool
 |.non=>true
 |_=>false
def bx (o:j7)(a b:D)(M:Mem):Option Bool:=match o,a,b with
 |.eq,a,b=>la M a b
 |.ne,a,b=>(la M a b).map (!·)
 |.lt,.int i,.int j=>some (decide (i<j))
 |.le,.int i,.int j=>some (decide (i<=j))
 |.gt,.int i,.int j=>some (decide (j<i))
 |.ge,.int i,.int j=>some (decide (j<=i))
 |.isN,a,.non=>some (ks a)
 |.notN,a,.non=>some (!ks a)
 |.isin,.str x,.str y=>some (jL x y)
 |.notin,.str x,.str y=>some (!jL x y)
 |.isin,a,b=>(bZ M b).bind (ik (view M a))
 |.notin,a,b=>((bZ M b).bind (ik (view M a))).map (!·)
 |_,_,_=>none
def cu (a i:D)(M:Mem):Option D:=match a,i with
 |.str x,.int i=>if x.cps.size<=sz then (bB x.cps.size i).bind fun j=>(x.cps[j]?).map fun c=>.str ⟨#[c]⟩ else none
 |a,.int i=>(bZ M a).bind fun ds=>(bB ds.length i).bind fun j=>ds[j]?
 |_,_=>none
def aS (n d:Nat):D->Option Nat
 |.non=>some d
 |.int v=>some #[143]
 |_=>none
def b9:Bool->D->Bool
 |true,.int _=>true
 |false,.non=>true
 |_,_=>false
def cut {α:Type}(xs:List α)(lo hi:Nat):List α:=(xs.drop lo).take (hi-lo)
def eG (m:Bool)(a lo hi:D)(M:Mem):Res D:=match a with
 | .tup xs => match aS xs.length 0 lo, aS xs.length xs.length hi with
   |some l,some h=>.ok (.tup #[332]) M
   |_,_=>.bad
 | a => match fS M a with
   | some xs => match aS xs.length 0 lo, aS xs.length xs.length hi with
     |some l,some h=>bG m #[332] M
     |_,_=>.bad
   |none=>.bad
def bN (t:Ty):D->Option Bool
 |.non=>some false
 |.bl _=>some (t==.bool||t==.int)
 |.int _=>some (t==.int)
 |.str _=>some (t==.str)
 |.tup _=>some (t==.tuple)
 |.lst _=>some (t==.list)
 |.frz _=>some (t==.list)
 |.cell _=>some (t==.list)
 |.fn _=>none
 |.exc _ _=>none
def boolsOf:List D->Option (List Bool)
 |[]=>some []
 |.bl b::r=>(boolsOf r).map (b::·)
 |_=>none
def intsOf:List D->Option (List Int)
 |[]=>some []
 |.int b::r=>(intsOf r).map (b::·)
 |_=>none
def eV (f:u7)(ds:List D)(M:Mem):Res D:=match f,ds with
 |.len,[.str x]=>if x.cps.size<=sz then .ok (.int x.cps.size) M else .bad
 | .len, [d] => match bZ M d with
   |some xs=>.ok #[263] M
   |none=>.bad
 |.tuple,[.tup xs]=>.ok (.tup xs) M
 | .tuple, [d] => match fS M d with
   |some xs=>.ok (.tup xs) M
   |none=>.bad
 | .list m, [d] => match bZ M d with
   |some xs=>bG m xs M
   |none=>.bad
 |.listR m,[.int n]=>if n<2^20 then bG m #[22] M else .bad
 | .all, [d] => match fS M d with
   | some xs => match boolsOf xs with
     |some bs=>.ok (.bl (bs.all id)) M
     |none=>.bad
   |none=>.bad
 | .sum, [d] => match fS M d with
   | some xs => match intsOf xs with
     |some is=>.ok (.int is.sum) M
     |none=>.bad
   |none=>.bad
 |_,_=>.bad
def eL:List Nat->List D->Env->Option Env
 |[],[],Z=>some Z
 |i::l,d::ds,Z=>eL l ds (Z.set i (some d))
 |_,_,_=>none
def cX (t:dv)(d:D)(Z:Env):Option Env:=match t,d with
 |.one i,d=>some (Z.set i (some d))
 |.tup l,.tup ds=>eL l ds Z
 |.tup _,_=>none
abbrev Walk:=Mem->Option (List D)
def cf:Nat->List D->List D
 |_,[]=>[]
 |k,d::r=>.tup [.int k,d]::cf (k+1) r
def jl:List D->List D->List D
 |a::r,b::t=>.tup [a,b]::jl r t
 |_,_=>[]
def gm:List D->List D->List D->List D
 |a::r,b::t,c::q=>.tup [a,b,c]::gm r t q
 |_,_,_=>[]
def Dd {α:Type}(f:α->D->Mem->Res α):List D->α->Mem->Res α
 |[],a,M=>.ok a M
 |d::r,a,M=>(f a d M).bind (Dd f r)
def fy {α:Type}(f:α->D->Mem->Res α)(w:Walk):Nat->Nat->α->Mem->Res α
 |0,_,_,_=>.bad
 | n + 1, i, a, M => match w M with
   |none=>.bad
   | some ds => match ds[i]? with
     |none=>.ok a M
     |some d=>(f a d M).bind (fy f w n (i+1))
def dG {α:Type}(f:α->D->Mem->Res α)(w:Walk)(a:α)(M:Mem):Res α:=fy f w (((w M).getD []).length+1) 0 a M
def cV {α:Type}(M:Mem):Option α->Res α
 |some a=>.ok a M
 |none=>.bad
@[simp] theorem BG {α:Type}(M:Mem)(a:α):cV M (some a)=.ok a M:=rfl
@[simp] theorem Lk {α:Type}(M:Mem):(cV M none:Res α)=.bad:=rfl
inductive Fl where
 |next (Z:Env)
 |ret (d:D)
 |exc (x:D) (Z:Env)
end LD
namespace LD
open PySem PySem.Spec PyProof.Rows L2
structure Mu where
 pub:Nat->Option Addr
 priv:List Addr
def Mu.Mt (μ:Mu)(a:Addr):Prop:=(∃k,μ.pub k=some a)\/a∈μ.priv
abbrev Fa:=Nat->Option Addr
def KL (K:Mr)(a:Addr)(xs:List V):Prop:=
 ∃(o:Obj) (its:Array Mq) (n:Nat),K.lookup a=some o/\o.cls=.type "list"/\o.dict=none/\o.data=.seq its n/\its.size<=sizeLine/\Vals xs its.toList
def wg (C:Addr)(dx:Option Addr)(a:Addr)(h:Heap):Prop:=∃o vs,h.get? a=some o/\o.cls=.ref C/\o.dict=dx/\o.data=.fields vs/\1<vs.size
def fO (c:Nat):Str:=if c=1 then "number" else "place"
def xQ (H:Hp)(c:Nat)(dx:Option Addr):Option Int->Prop
 |none=>dx=none
 |some i=>∃d,dx=some d/\H d=some #[85]
def fq (c:Nat):Nat:=1000+c
section
variable (fa:Fa)(K:Mr)(μ:Mu)(H:Hp)
mutual
def Rep:D->V->Prop
 |.non,v=>v=.non
 |.bl b,v=>v=.bl b
 |.int i,v=>v=.int i
 |.str x,v=>v=.str x
 |.tup ds,v=>∃a vs,v=.ref a/\dO K H a vs/\aT ds vs
 |.lst ds,v=>∃a vs,v=.ref a/\(H a=some (.lst vs)/\¬ μ.Mt a)/\aT ds vs
 |.frz ds,v=>∃a vs,v=.ref a/\((∃ob,H a=some (.frz ob (.lst vs)))\/KL K a vs)/\aT ds vs
 |.cell k,v=>∃a,v=.ref a/\μ.pub k=some a
 |.fn f,v=>∃a,v=.ref a/\fa f=some a
 |.exc c p,v=>∃a C dx,v=.ref a/\fa (fq c)=some C/\H a=some (.ext (wg C dx a))/\xQ H c dx p
def aT:List D->List V->Prop
 |[],vs=>vs=[]
 |d::ds,vs=>∃v r,vs=v::r/\Rep d v/\aT ds r
end
end
def IsX (o:HO):Prop:=(∃φ,o=.ext φ)\/∃fs,o=.xd fs
structure ExtW (μ:Mu) (H:Hp) (μ':Mu) (H':Hp):Prop where
 mu:∀k a,μ.pub k=some a->μ'.pub k=some a
 tups:∀a vs,Rd H a (.tup vs)->Rd H' a (.tup vs)
 lsts:∀a vs,H a=some (.lst vs)->¬ μ.Mt a->H' a=some (.lst vs)/\¬ μ'.Mt a
 frzs:∀a ob u,H a=some (.frz ob u)->H' a=some (.frz ob u)
 exts:∀a o,IsX o->H a=some o->H' a=some o
structure Ext (μ:Mu) (H:Hp) (μ':Mu) (H':Hp):Prop extends ExtW μ H μ' H' where
 pr:μ'.priv=μ.priv
 pk:∀a∈μ.priv,H' a=H a
theorem ExtW.refl {μ:Mu}{H:Hp}:ExtW μ H μ H:=⟨fun _ _ h=>h,fun _ _ h=>h,fun _ _ h n=>⟨h,n⟩,fun _ _ _ h=>h,fun _ _ _ h=>h⟩
theorem ExtW.trans {μ μ1 μ2:Mu}{H H1 H2:Hp}(a:ExtW μ H μ1 H1)(b:ExtW μ1 H1 μ2 H2):ExtW μ H μ2 H2:=
 ⟨fun k x h=>b.mu k x (a.mu k x h),fun x vs h=>b.tups x vs (a.tups x vs h),fun x vs h n=>b.lsts x vs (a.lsts x vs h n).1 (a.lsts x vs h n).2,fun x ob u h=>b.frzs x ob u (a.frzs x ob u h),fun x o i h=>b.exts x o i (a.exts x o i h)⟩
theorem Ext.refl {μ:Mu}{H:Hp}:Ext μ H μ H:=⟨.refl,rfl,fun _ _=>rfl⟩
theorem Ext.trans {μ μ1 μ2:Mu}{H H1 H2:Hp}(a:Ext μ H μ1 H1)(b:Ext μ1 H1 μ2 H2):Ext μ H μ2 H2:=
 ⟨a.toExtW.trans b.toExtW,b.pr.trans a.pr,fun x hx=>(b.pk x (by rw [a.pr];exact hx)).trans (a.pk x hx)⟩
section
variable {fa:Fa}{K:Mr}{μ μ':Mu}{H H':Hp}
theorem ExtW.sqT {a:Addr}{vs:List V}(x:ExtW μ H μ' H')(h:dO K H a vs):dO K H' a vs:=h.elim (fun z=>.inl (x.tups a vs z)) .inr
mutual
theorem Rep.extW (x:ExtW μ H μ' H'):∀{d:D}{v:V},Rep fa K μ H d v->Rep fa K μ' H' d v
 |.non,v,h=>h
 |.bl b,v,h=>h
 |.int i,v,h=>h
 |.str y,v,h=>h
 | .tup ds, v, h => by
   obtain ⟨a,vs,e,s,r⟩:=h
   exact ⟨a,vs,e,x.sqT s,aT.extW x r⟩
 | .lst ds, v, h => by
   obtain ⟨a,vs,e,s,r⟩:=h
   exact ⟨a,vs,e,x.lsts a vs s.1 s.2,aT.extW x r⟩
 | .frz ds, v, h => by
   obtain ⟨a,vs,e,s,r⟩:=h
   exact ⟨a,vs,e,s.elim (fun ⟨ob,z⟩=>.inl ⟨ob,x.frzs a ob _ z⟩) .inr,aT.extW x r⟩
 | .cell k, v, h => by
   obtain ⟨a,e,m⟩:=h
   exact ⟨a,e,x.mu k a m⟩
 |.fn f,v,h=>h
 | .exc c p, v, h => by
   obtain ⟨a,C,dx,e,f,g,n⟩:=h
   refine ⟨a,C,dx,e,f,x.exts _ _ (.inl ⟨_,rfl⟩) g,?_⟩
   cases p with
   |none=>exact n
   |some i=>exact let ⟨d,h1,h2⟩:=n;⟨d,h1,x.exts _ _ (.inr ⟨_,rfl⟩) h2⟩
theorem aT.extW (x:ExtW μ H μ' H'):∀{ds:List D}{vs:List V},aT fa K μ H ds vs->aT fa K μ' H' ds vs
 |[],vs,h=>h
 | d :: ds, vs, h => by
   obtain ⟨v,r,e,p,q⟩:=h
   exact ⟨v,r,e,Rep.extW x p,aT.extW x q⟩
end
theorem Rep.ext (x:Ext μ H μ' H'){d:D}{v:V}(h:Rep fa K μ H d v):Rep fa K μ' H' d v:=Rep.extW x.toExtW h
theorem aT.ext (x:Ext μ H μ' H'){d:List D}{v:List V}(h:aT fa K μ H d v):aT fa K μ' H' d v:=aT.extW x.toExtW h
theorem aT.length:∀{ds:List D}{vs:List V},aT fa K μ H ds vs->vs.length=ds.length
 | [], vs, h => by
   have h:vs=[]:=h
   subst h;rfl
 | d :: ds, vs, h => by
   obtain ⟨v,r,e,p,q⟩:=h
   subst e
   simp [aT.length q]
theorem aT.get:∀{ds:List D}{vs:List V}{i:Nat}{d:D},aT fa K μ H ds vs->ds[i]?=some d->∃v,vs[i]?=some v/\Rep fa K μ H d v
 |[],_,_,_,_,e=>by simp at e
 | d :: ds, vs, 0, d', h, e => by
   obtain ⟨v,r,rfl,p,q⟩:=h
   simp at e;subst e
   exact ⟨v,rfl,p⟩
 | d :: ds, vs, i + 1, d', h, e => by
   obtain ⟨v,r,rfl,p,q⟩:=h
   obtain ⟨u,h1,h2⟩:=aT.get (i:=i) q #[327]
   exact ⟨u,by simpa using h1,h2⟩
theorem aT.append:∀{ds es:List D}{vs ws:List V},aT fa K μ H ds vs->aT fa K μ H es ws->aT fa K μ H (ds++es) (vs++ws)
 | [], _, vs, _, h, g => by
   have h:vs=[]:=h
   subst h;exact g
 | d :: ds, es, vs, ws, h, g => by
   obtain ⟨v,r,rfl,p,q⟩:=h
   exact ⟨v,r++ws,rfl,p,aT.append q g⟩
theorem aT.one {d:D}{v:V}(h:Rep fa K μ H d v):aT fa K μ H [d] [v]:=⟨v,[],rfl,h,rfl⟩
theorem aT.drop:∀(n:Nat) {ds:List D}{vs:List V},aT fa K μ H ds vs->aT fa K μ H (ds.drop n) (vs.drop n)
 |0,_,_,h=>h
 | n + 1, [], vs, h => by
   have h:vs=[]:=h
   subst h;exact rfl
 | n + 1, d :: ds, vs, h => by
   obtain ⟨v,r,rfl,p,q⟩:=h
   exact aT.drop n q
theorem aT.take:∀(n:Nat) {ds:List D}{vs:List V},aT fa K μ H ds vs->aT fa K μ H (ds.take n) (vs.take n)
 |0,_,_,h=>rfl
 | n + 1, [], vs, h => by
   have h:vs=[]:=h
   subst h;exact rfl
 | n + 1, d :: ds, vs, h => by
   obtain ⟨v,r,rfl,p,q⟩:=h
   exact ⟨v,r.take n,rfl,p,aT.take n q⟩
theorem aT.set:∀(n:Nat) {ds:List D}{vs:List V}{d:D}{v:V},aT fa K μ H ds vs->Rep fa K μ H d v->aT fa K μ H (ds.set n d) (vs.set n v)
 | _, [], vs, _, _, h, _ => by
   have h:vs=[]:=h
   subst h;exact rfl
 | 0, d :: ds, vs, _, v', h, g => by
   obtain ⟨v,r,rfl,p,q⟩:=h
   exact ⟨v',r,rfl,g,q⟩
 | n + 1, d :: ds, vs, _, v', h, g => by
   obtain ⟨v,r,rfl,p,q⟩:=h
   exact ⟨v,r.set n v',rfl,p,aT.set n q g⟩
theorem aT.reverse:∀{ds:List D}{vs:List V},aT fa K μ H ds vs->aT fa K μ H ds.reverse vs.reverse
 | [], vs, h => by
   have h:vs=[]:=h
   subst h;exact rfl
 | d :: ds, vs, h => by
   obtain ⟨v,r,rfl,p,q⟩:=h
   rw [OT,OT]
   exact aT.append (aT.reverse q) (.one p)
theorem aT.rep:∀(n:Nat) {ds:List D}{vs:List V},aT fa K μ H ds vs->aT fa K μ H (List.replicate n ds).flatten (List.replicate n vs).flatten
 |0,_,_,_=>rfl
 | n + 1, ds, vs, h => by
   rw [N3,N3,Om,Om]
   exact h.append (aT.rep n h)
theorem aT.ints:∀(ns:List Int),aT fa K μ H #[333] #[331]
 |[]=>rfl
 |n::ns=>⟨.int n,ns.map V.int,rfl,rfl,aT.ints ns⟩
end
structure RelM (fa:Fa) (K:Mr) (μ:Mu) (H:Hp) (M:Mem):Prop where
 at':∀(k:Nat) (ds:List D),M[k]?=some ds->∃a vs,μ.pub k=some a/\H a=some (.lst vs)/\aT fa K μ H ds vs
 out:∀(k:Nat),M.length<=k->μ.pub k=none
 inj:∀j k a,μ.pub j=some a->μ.pub k=some a->j=k
 pv:∀a∈μ.priv,(∃vs,H a=some (.lst vs))/\∀k,μ.pub k≠some a
structure bz (fa:Fa) (K:Mr) (μ:Mu) (H:Hp) (σ:L2.St) (Z:Env):Prop where
 len:σ.length=Z.length
 at':∀(i:Nat) (d:D),Z[i]?=some (some d)->∃v,σ[i]?=some (some v)/\Rep fa K μ H d v
section
variable {fa:Fa}{K:Mr}{μ μ':Mu}{H H':Hp}{σ:L2.St}{Z:Env}{M:Mem}
theorem bz.ext (h:bz fa K μ H σ Z)(x:Ext μ H μ' H'):bz fa K μ' H' σ Z:=
 ⟨h.len,fun i d e=>let ⟨v,h1,h2⟩:=h.at' i d e;⟨v,h1,h2.ext x⟩⟩
theorem bz.set (h:bz fa K μ H σ Z){i:Nat}{d:D}{v:V}(r:Rep fa K μ H d v):bz fa K μ H #[302] (Z.set i (some d)):=by
 refine ⟨by simp [h.len],fun j d' e=>?_⟩
 by_cases hj:j=i
 ·subst hj
  have hl:j<Z.length:=by
   have:=(Mw.mp e).1
   simpa using this
  rw [Nv hl] at e
  cases e
  exact ⟨v,Nv (by rw [h.len];exact hl),r⟩
 ·rw [MY (NM hj)] at e
  obtain ⟨u,h1,h2⟩:=h.at' j d' e
  exact ⟨u,by rw [MY (NM hj)];exact h1,h2⟩
theorem bz.extW (h:bz fa K μ H σ Z)(x:ExtW μ H μ' H'):bz fa K μ' H' σ Z:=
 ⟨h.len,fun i d e=>let ⟨v,h1,h2⟩:=h.at' i d e;⟨v,h1,h2.extW x⟩⟩
theorem RelM.mu_lt (h:RelM fa K μ H M){k:Nat}{a:Addr}(e:μ.pub k=some a):∃ds vs,M[k]?=some ds/\H a=some (.lst vs)/\aT fa K μ H ds vs:=by
 by_cases hk:k<M.length
 ·obtain ⟨a',vs,h1,h2,h3⟩:=h.at' k M[k] (by simp [hk])
  rw [e] at h1;cases h1
  exact ⟨_,vs,by simp [hk],h2,h3⟩
 ·rw [h.out k #[0]] at e;cases e
theorem RelM.fresh (h:RelM fa K μ H M){p:Addr}(hp:H p=none):¬ μ.Mt p:=fun e=>by
 rcases e with ⟨k,e⟩|e
 ·obtain ⟨ds,vs,_,h2,_⟩:=h.mu_lt e
  rw [hp] at h2;cases h2
 ·obtain ⟨⟨vs,h2⟩,_⟩:=h.pv p e
  rw [hp] at h2;cases h2
theorem RelM.pne (h:RelM fa K μ H M){p a:Addr}(hp:H p=none)(ha:a∈μ.priv):a≠p:=fun e=>by
 obtain ⟨⟨vs,h2⟩,_⟩:=h.pv a ha
 rw [e,hp] at h2;cases h2
theorem Ext.alloc {p:Addr}{o:HO}(h:RelM fa K μ H M)(hp:H p=none):Ext μ H μ (upd H p o):=by
 have rd:∀a u,Rd H a u->Rd (upd H p o) a u:=fun a u h=>by
  rcases h with h|⟨ob,h⟩
  ·exact .inl (by rw [aO (bg h hp)];exact h)
  ·exact .inr ⟨ob,by rw [aO (bg h hp)];exact h⟩
 exact ⟨⟨fun _ _ h=>h,fun a vs h=>rd a _ h,fun a vs h n=>⟨by rw [aO (bg h hp)];exact h,n⟩,fun a ob u h=>by rw [aO (bg h hp)];exact h,fun a o _ h=>by rw [aO (bg h hp)];exact h⟩,rfl,fun a ha=>by rw [aO (h.pne hp ha)]⟩
theorem RelM.alloc (h:RelM fa K μ H M){p:Addr}{o:HO}(hp:H p=none):RelM fa K μ (upd H p o) M:=
 ⟨fun k ds e=>let ⟨a,vs,h1,h2,h3⟩:=h.at' k ds e;⟨a,vs,h1,by rw [aO (bg h2 hp)];exact h2,h3.ext (Ext.alloc h hp)⟩,h.out,h.inj,fun a ha=>⟨let ⟨⟨vs,e⟩,_⟩:=h.pv a ha;⟨vs,by rw [aO (h.pne hp ha)];exact e⟩,(h.pv a ha).2⟩⟩
def gp (μ:Mu)(n:Nat)(p:Addr):Mu:=⟨fun k=>if k=n then some p else μ.pub k,μ.priv⟩
theorem Ext.cell {p:Addr}{o:HO}(h:RelM fa K μ H M)(hp:H p=none):Ext μ H (gp μ M.length p) (upd H p o):=by
 have rd:∀a u,Rd H a u->Rd (upd H p o) a u:=fun a u h=>by
  rcases h with h|⟨ob,h⟩
  ·exact .inl (by rw [aO (bg h hp)];exact h)
  ·exact .inr ⟨ob,by rw [aO (bg h hp)];exact h⟩
 refine ⟨⟨fun k a e=>?_,fun a vs g=>rd a _ g,fun a vs g n=>⟨by rw [aO (bg g hp)];exact g,fun e=>?_⟩,fun a ob u h=>by rw [aO (bg h hp)];exact h,fun a o _ h=>by rw [aO (bg h hp)];exact h⟩,rfl,fun a ha=>by rw [aO (h.pne hp ha)]⟩
 ·show #[73]=some a
  split
  ·next q=>rw [q,h.out _ (My _)] at e;cases e
  ·exact e
 ·rcases e with ⟨k,e⟩|e
  ·have e:#[73]=some a:=e
   split at e
   ·cases e;exact bg g hp rfl
   ·exact n (.inl ⟨k,e⟩)
  ·exact n (.inr e)
theorem RelM.cell (h:RelM fa K μ H M){p:Addr}{ds:List D}{vs:List V}(hp:H p=none)(r:aT fa K μ H ds vs) :
 RelM fa K (gp μ M.length p) (upd H p (.lst vs)) (M++[ds]):=by
 have x:Ext μ H (gp μ M.length p) (upd H p (.lst vs)):=Ext.cell h hp
 have np:=h.fresh hp
 refine ⟨fun k ds' e=>?_,fun k hk=>?_,fun j k a h1 h2=>?_,fun a ha=>?_⟩
 ·by_cases hk:k<M.length
  ·rw [Ng hk] at e
   obtain ⟨a,ws,h1,h2,h3⟩:=h.at' k ds' e
   exact ⟨a,ws,x.mu k a h1,by rw [aO (bg h2 hp)];exact h2,h3.ext x⟩
  ·have hk':k=M.length:=by
    have:=(Mw.mp e).1
    simp at this;omega
   subst hk'
   rw [NK (My _)] at e
   simp at e
   subst e
   exact ⟨p,vs,by simp [gp],bV,r.ext x⟩
 ·simp at hk
  show #[73]=none
  rw [if_neg #[0]]
  exact h.out k #[0]
 ·have h1:(if j=M.length then some p else μ.pub j)=some a:=h1
  have h2:#[73]=some a:=h2
  split at h1<;>split at h2
  ·omega
  ·cases h1;exact absurd (.inl ⟨k,h2⟩) np
  ·cases h2;exact absurd (.inl ⟨j,h1⟩) np
  ·exact h.inj j k a h1 h2
 ·obtain ⟨⟨ws,e⟩,n⟩:=h.pv a ha
  refine ⟨⟨ws,by rw [aO (h.pne hp ha)];exact e⟩,fun k e2=>?_⟩
  have e2:#[73]=some a:=e2
  split at e2
  ·cases e2;exact h.pne hp ha rfl
  ·exact n k e2
theorem ExtW.write {a:Addr}{vs ws:List V}(h2:H a=some (.lst vs))(e:μ.Mt a):ExtW μ H μ #[136]:=by
 have ne:∀b u,Rd H b u->(∀xs,u≠.lst xs)->b≠a:=fun b u g nu q=>by
  subst q
  rcases g with g|⟨ob,g⟩
  ·rw [h2] at g;cases g;exact nu _ rfl
  ·rw [h2] at g;cases g
 have rd:∀b u,b≠a->Rd H b u->Rd #[136] b u:=fun b u nb g=>by
  rcases g with g|⟨ob,g⟩
  ·exact .inl (by rw [aO nb];exact g)
  ·exact .inr ⟨ob,by rw [aO nb];exact g⟩
 exact ⟨fun _ _ q=>q,fun b us g=>rd b _ (ne b _ g (fun xs q=>by cases q)) g,fun b us g n=>⟨by rw [aO (fun q=>n (by rw [q];exact e))];exact g,n⟩,fun b ob u g=>by rw [aO (fun q=>by rw [q,h2] at g;cases g)];exact g,fun b o i g=>by rw [aO (fun q=>by rw [q,h2] at g;cases g;rcases i with ⟨_,i⟩|⟨_,i⟩<;>cases i)];exact g⟩
theorem Ext.write {k:Nat}{a:Addr}{vs ws:List V}(h:RelM fa K μ H M)(e:μ.pub k=some a):Ext μ H μ #[136]:=by
 obtain ⟨ds,vs,_,h2,_⟩:=h.mu_lt e
 exact ⟨ExtW.write h2 (.inl ⟨k,e⟩),rfl,fun b hb=>by rw [aO (fun q=>(h.pv b hb).2 k (by rw [q];exact e))]⟩
theorem RelM.write (h:RelM fa K μ H M){k:Nat}{a:Addr}{ds:List D}{ws:List V}(e:μ.pub k=some a)(r:aT fa K μ H ds ws):RelM fa K μ #[136] (M.set k ds):=by
 have x:Ext μ H μ #[136]:=Ext.write (vs:=ws) h e
 refine ⟨fun j es q=>?_,fun j hj=>h.out j (by simpa using hj),h.inj,fun b hb=>⟨let ⟨⟨vs,g⟩,_⟩:=h.pv b hb;⟨vs,by rw [x.pk b hb];exact g⟩,(h.pv b hb).2⟩⟩
 by_cases hj:j=k
 ·subst hj
  have hl:j<M.length:=by have:=(Mw.mp q).1;simpa using this
  rw [Nv hl] at q
  cases q
  exact ⟨a,ws,e,bV,r.ext x⟩
 ·rw [MY (NM hj)] at q
  obtain ⟨b,vs,h1,h2,h3⟩:=h.at' j es q
  have nb:b≠a:=fun z=>hj (h.inj j k a (z ▸ h1) e)
  exact ⟨b,vs,h1,by rw [aO nb];exact h2,h3.ext x⟩
end
def ai {α:Type}(r:Res α)(k:α->Mem->Prop):Prop:=match r with
 |.ok a M=>k a M
 |_=>False
theorem aW {α β:Type}{r:Res α}{f:α->Mem->Res β}{k:β->Mem->Prop}(h:ai (r.bind f) k):∃a M,r=.ok a M/\ai (f a M) k:=by
 cases r with
 |ok a M=>exact ⟨a,M,rfl,h⟩
 |err=>exact h.elim
 |bad=>exact h.elim
theorem nh {α:Type}{M:Mem}{o:Option α}{k:α->Mem->Prop}(h:ai (cV M o) k):∃a,o=some a/\k a M:=by
 cases o with
 |none=>exact h.elim
 |some a=>exact ⟨a,rfl,h⟩
theorem aG {α:Type}{r:Res α}{k k':α->Mem->Prop}(h:ai r k)(m:∀a M,k a M->k' a M):ai r k':=by
 cases r with
 |ok a M=>exact m a M h
 |err=>exact h
 |bad=>exact h
section
variable (fa:Fa)(K:Mr)
def bp (μ:Mu)(H:Hp)(Q:VK)(d:D)(M':Mem):Prop:=∀v H' μ',Ext μ H μ' H'->RelM fa K μ' H' M'->Rep fa K μ' H' d v->Q v H'
def tE (g:Env->Mem->Res D):TE:=fun σ H Q=>∃μ Z M,bz fa K μ H σ Z/\RelM fa K μ H M/\ai (g Z M) #[216]
def tT (g:Env->Mem->Res Bool):TT:=fun σ H Q=>∃μ Z M,bz fa K μ H σ Z/\RelM fa K μ H M/\ai (g Z M) fun b M'=>∀H' μ',Ext μ H μ' H'->RelM fa K μ' H' M'->Q b H'
def tA (g:Env->Mem->Res (List D)):TA:=fun σ H Q=>∃μ Z M,bz fa K μ H σ Z/\RelM fa K μ H M/\ai (g Z M) fun ds M'=>∀vs H' μ',Ext μ H μ' H'->RelM fa K μ' H' M'->aT fa K μ' H' ds vs->Q vs H'
end
def mf (New:Addr->Prop)(C:Addr)(dx:Option Addr)(a:Addr)(h:Heap)(H:Hp):Prop:=New a/\H a=none/\∃o vs,h.get? a=some o/\o.cls=.ref C/\o.dict=dx/\o.data=.fields vs/\
 (vs[1]?=some .none\/∃T oT ts,vs[1]?=some (.ref T)/\T≠a/\New T/\H T=none/\h.get? T=some oT/\oT.data=.fields ts/\ts[3]?=some .none)
def kN (X:Cx)(b:Addr):Prop:=X.s₀.heap.get? b=none/\∀p∈X.pn,p.1≠b
def XW (fa:Fa)(X:Cx)(μ:Mu)(H:Hp)(x:D)(Z:Env)(M:Mem):Prop:=∀pins σ' H' μ' s' a C dx c p,Inv X pins σ' H' s'->Ext μ H μ' H'->bz fa X.K μ' H' σ' Z->RelM fa X.K μ' H' M->x=.exc c p->fa (fq c)=some C->xQ H' c dx p->mf (kN X) C dx a s'.heap H'->X.xe (.ref a) s'
def mU (fa:Fa)(X:Cx)(μ:Mu)(H:Hp)(D:Ends):Fl->Mem->Prop
 |.next ρ',M'=>∀σ' H' μ',Ext μ H μ' H'->bz fa X.K μ' H' σ' ρ'->RelM fa X.K μ' H' M'->D.nx σ' H'
 |.ret d,M'=>bp fa X.K μ H D.rt d M'
 |.exc x ρ',M'=>XW fa X μ H x ρ' M'
def tF (fa:Fa)(X:Cx)(g:Env->Mem->Res Fl):TS:=fun D σ H=>∃μ Z M,bz fa X.K μ H σ Z/\RelM fa X.K μ H M/\ai (g Z M) (mU fa X μ H D)
theorem XW.ext {fa:Fa}{X:Cx}{μ μ':Mu}{H H':Hp}{x:D}{Z:Env}{M:Mem}(h:XW fa X μ H x Z M)(y:Ext μ H μ' H'):XW fa X μ' H' x Z M:=fun pins σ1 H1 μ1 s1 a C dx c p I e=>h pins σ1 H1 μ1 s1 a C dx c p I (y.trans e)
section
variable {fa:Fa}{K:Mr}{μ μ':Mu}{H H':Hp}{Q:VK}
theorem bp.ext {d:D}{M:Mem}(h:bp fa K μ H Q d M)(x:Ext μ H μ' H'):bp fa K μ' H' Q d M:=fun v H'' μ'' y m r=>h v H'' μ'' (x.trans y) m r
theorem ki {r:Res D}(h:ai r #[216])(x:Ext μ H μ' H'):ai r (bp fa K μ' H' Q):=aG h fun _ _ w=>w.ext x
end
theorem bK {X:Cx}{e:Expr}{t t':TE}(h:PE X e t)(i:∀σ H Q,t' σ H Q->t σ H Q):PE X e t':=fun pins s σ H Q I q=>h pins s σ H Q I (i σ H Q q)
theorem kT {X:Cx}{e:Expr}{t t':TT}(h:PT X e t)(i:∀σ H Q,t' σ H Q->t σ H Q):PT X e t':=fun pins s σ H Q I q=>h pins s σ H Q I (i σ H Q q)
theorem yW {X:Cx}{e:Expr}{t t':TT}(h:PW X e t)(i:∀σ H Q,t' σ H Q->t σ H Q):PW X e t':=fun w pins s σ H Q I q=>h w pins s σ H Q I (i σ H Q q)
theorem zh {X:Cx}{e:List Expr}{t t':TA}(h:PA X e t)(i:∀σ H Q,t' σ H Q->t σ H Q):PA X e t':=fun pos pins s σ H Q I q=>h pos pins s σ H Q I (i σ H Q q)
theorem fH {X:Cx}{e:Stmt}{t t':TS}(h:PS X e t)(i:∀D σ H,t' D σ H->t D σ H):PS X e t':=fun pins s σ H D I q=>h pins s σ H D I (i D σ H q)
theorem vD {X:Cx}{e:List Stmt}{t t':TS}(h:mT X e t)(i:∀D σ H,t' D σ H->t D σ H):mT X e t':=fun pins s σ H D I q=>h pins s σ H D I (i D σ H q)
section
variable {fa:Fa}{K:Mr}{μ:Mu}{H:Hp}{σ:L2.St}{Z:Env}{M:Mem}
theorem t1 {g:Env->Mem->Res D}{β:Type}{f:D->Mem->Res β}{P:β->Mem->Prop}{R:V->Hp->Prop}(hE:bz fa K μ H σ Z)(hM:RelM fa K μ H M)(h:ai ((g Z M).bind f) P)
 (k:∀x M1 v H1 μ1,Ext μ H μ1 H1->bz fa K μ1 H1 σ Z->RelM fa K μ1 H1 M1->Rep fa K μ1 H1 x v->ai (f x M1) P->R v H1):tE fa K g σ H R:=by
 obtain ⟨x,M1,e,q⟩:=aW h
 refine ⟨μ,Z,M,hE,hM,?_⟩
 rw [e]
 exact fun v H1 μ1 x1 m1 r1=>k x M1 v H1 μ1 x1 #[217] m1 r1 q
theorem yw {g:Env->Mem->Res Bool}{β:Type}{f:Bool->Mem->Res β}{P:β->Mem->Prop}{R:Bool->Hp->Prop}(hE:bz fa K μ H σ Z)(hM:RelM fa K μ H M)(h:ai ((g Z M).bind f) P)
 (k:∀b M1 H1 μ1,Ext μ H μ1 H1->bz fa K μ1 H1 σ Z->RelM fa K μ1 H1 M1->ai (f b M1) P->R b H1):tT fa K g σ H R:=by
 obtain ⟨b,M1,e,q⟩:=aW h
 refine ⟨μ,Z,M,hE,hM,?_⟩
 rw [e]
 exact fun H1 μ1 x1 m1=>k b M1 H1 μ1 x1 #[217] m1 q
theorem tj {g:Env->Mem->Res (List D)}{β:Type}{f:List D->Mem->Res β}{P:β->Mem->Prop}{R:List V->Hp->Prop}(hE:bz fa K μ H σ Z)(hM:RelM fa K μ H M)(h:ai ((g Z M).bind f) P)
 (k:∀ds M1 vs H1 μ1,Ext μ H μ1 H1->bz fa K μ1 H1 σ Z->RelM fa K μ1 H1 M1->aT fa K μ1 H1 ds vs->ai (f ds M1) P->R vs H1):tA fa K g σ H R:=by
 obtain ⟨ds,M1,e,q⟩:=aW h
 refine ⟨μ,Z,M,hE,hM,?_⟩
 rw [e]
 exact fun v H1 μ1 x1 m1 r1=>k ds M1 v H1 μ1 x1 #[217] m1 r1 q
end
end LD
namespace LD
open PySem PySem.Spec PyProof.Rows L2
mutual
def toPy:D->PyData
 |.non=>.none
 |.bl b=>.bool b
 |.int i=>.int i
 |.str x=>.str x
 |.tup ds=>.tuple (bF ds)
 |.lst ds=>.list (bF ds)
 |.frz _=>.none
 |.cell _=>.none
 |.fn _=>.none
 |.exc _ _=>.none
def bF:List D->List PyData
 |[]=>[]
 |d::r=>toPy d::bF r
end
theorem mX:∀(n:Nat) (d:D),aA n d=true->(toPy d).canLay0=true/\(toPy d).depth<=n:=by
 have all:∀(n:Nat),(∀d,aA n d=true->(toPy d).canLay0=true/\(toPy d).depth<=n)->∀ds:List D,ds.all (aA n)=true->PyData.canLayAll0 (bF ds)=true/\PyData.depthAll (bF ds)<=n:=by
  intro n h ds
  induction ds with
  |nil=>intro _;simp [bF,PyData.canLayAll0,PyData.depthAll]
  | cons d r ih =>
    intro q
    simp only [NB,Ms] at q
    obtain ⟨h1,h2⟩:=h d q.1
    obtain ⟨h3,h4⟩:=ih q.2
    simp only [bF,PyData.canLayAll0,PyData.depthAll,h1,h3,Bool.and_self,true_and]
    omega
 intro n
 induction n with
 | zero =>
   intro d h
   cases d with
   |str x=>exact ⟨by simpa [toPy,PyData.canLay0,PyData.strOk,aA] using h,by simp [toPy,PyData.depth]⟩
   |tup _=>simp [aA] at h
   |lst _=>simp [aA] at h
   |frz _=>simp [aA] at h
   |cell _=>simp [aA] at h
   |fn _=>simp [aA] at h
   |exc y p=>simp [aA] at h
   |_=>exact ⟨by simp [toPy,PyData.canLay0],by simp [toPy,PyData.depth]⟩
 | succ n ih =>
   intro d h
   cases d with
   |str x=>exact ⟨by simpa [toPy,PyData.canLay0,PyData.strOk,aA] using h,by simp [toPy,PyData.depth]⟩
   | tup ds =>
     obtain ⟨h1,h2⟩:=all n ih ds #[307]
     simp only [toPy,PyData.canLay0,PyData.depth,h1,true_and]
     omega
   | lst ds =>
     obtain ⟨h1,h2⟩:=all n ih ds #[307]
     simp only [toPy,PyData.canLay0,PyData.depth,h1,true_and]
     omega
   |frz _=>simp [aA] at h
   |cell _=>simp [aA] at h
   |fn _=>simp [aA] at h
   |exc y p=>simp [aA] at h
   |_=>exact ⟨by simp [toPy,PyData.canLay0],by simp [toPy,PyData.depth]⟩
theorem kd {d:D}(h:aA 64 d=true):SeqAt.shaped (toPy d)=true:=by
 obtain ⟨h1,h2⟩:=mX 64 d h
 simp [SeqAt.shaped,h1,h2]
mutual
theorem nt:∀(n m:Nat) (a b:D),aA n a=true->aA m b=true->PyData.eqv (toPy a) (toPy b)=bq a b
 | n, m, .tup a, .tup b, ha, hb => by
   cases n with
   |zero=>simp [aA] at ha
   | succ n =>
     cases m with
     |zero=>simp [aA] at hb
     | succ m =>
       simp only [toPy,PyData.eqv,bq]
       exact oz n m a b (by simpa [aA] using ha) (by simpa [aA] using hb)
 | n, m, .lst a, .lst b, ha, hb => by
   cases n with
   |zero=>simp [aA] at ha
   | succ n =>
     cases m with
     |zero=>simp [aA] at hb
     | succ m =>
       simp only [toPy,PyData.eqv,bq]
       exact oz n m a b (by simpa [aA] using ha) (by simpa [aA] using hb)
 |n,m,.frz _,_,ha,hb=>by cases n<;>simp [aA] at ha
 |n,m,.cell _,_,ha,hb=>by cases n<;>simp [aA] at ha
 |n,m,.fn _,_,ha,hb=>by cases n<;>simp [aA] at ha
 |n,m,.exc _ _,_,ha,hb=>by cases n<;>simp [aA] at ha
 |n,m,_,.frz _,ha,hb=>by cases m<;>simp [aA] at hb
 |n,m,_,.cell _,ha,hb=>by cases m<;>simp [aA] at hb
 |n,m,_,.fn _,ha,hb=>by cases m<;>simp [aA] at hb
 |n,m,_,.exc _ _,ha,hb=>by cases m<;>simp [aA] at hb
 |_,_,.non,.non,_,_=>by simp [toPy,PyData.eqv,bq]
 |_,_,.non,.bl _,_,_=>by simp [toPy,PyData.eqv,bq]
 |_,_,.non,.int _,_,_=>by simp [toPy,PyData.eqv,bq]
 |_,_,.non,.str _,_,_=>by simp [toPy,PyData.eqv,bq]
 |_,_,.non,.tup _,_,_=>by simp [toPy,PyData.eqv,bq]
 |_,_,.non,.lst _,_,_=>by simp [toPy,PyData.eqv,bq]
 |_,_,.bl _,.non,_,_=>by simp [toPy,PyData.eqv,bq]
 |_,_,.bl _,.bl _,_,_=>by simp [toPy,PyData.eqv,bq]
 |_,_,.bl _,.int _,_,_=>by simp [toPy,PyData.eqv,bq]
 |_,_,.bl _,.str _,_,_=>by simp [toPy,PyData.eqv,bq]
 |_,_,.bl _,.tup _,_,_=>by simp [toPy,PyData.eqv,bq]
 |_,_,.bl _,.lst _,_,_=>by simp [toPy,PyData.eqv,bq]
 |_,_,.int _,.non,_,_=>by simp [toPy,PyData.eqv,bq]
 |_,_,.int _,.bl _,_,_=>by simp [toPy,PyData.eqv,bq]
 |_,_,.int _,.int _,_,_=>by simp [toPy,PyData.eqv,bq]
 |_,_,.int _,.str _,_,_=>by simp [toPy,PyData.eqv,bq]
 |_,_,.int _,.tup _,_,_=>by simp [toPy,PyData.eqv,bq]
 |_,_,.int _,.lst _,_,_=>by simp [toPy,PyData.eqv,bq]
 |_,_,.str _,.non,_,_=>by simp [toPy,PyData.eqv,bq]
 |_,_,.str _,.bl _,_,_=>by simp [toPy,PyData.eqv,bq]
 |_,_,.str _,.int _,_,_=>by simp [toPy,PyData.eqv,bq]
 |_,_,.str _,.str _,_,_=>by simp [toPy,PyData.eqv,bq]
 |_,_,.str _,.tup _,_,_=>by simp [toPy,PyData.eqv,bq]
 |_,_,.str _,.lst _,_,_=>by simp [toPy,PyData.eqv,bq]
 |_,_,.tup _,.non,_,_=>by simp [toPy,PyData.eqv,bq]
 |_,_,.tup _,.bl _,_,_=>by simp [toPy,PyData.eqv,bq]
 |_,_,.tup _,.int _,_,_=>by simp [toPy,PyData.eqv,bq]
 |_,_,.tup _,.str _,_,_=>by simp [toPy,PyData.eqv,bq]
 |_,_,.tup _,.lst _,_,_=>by simp [toPy,PyData.eqv,bq]
 |_,_,.lst _,.non,_,_=>by simp [toPy,PyData.eqv,bq]
 |_,_,.lst _,.bl _,_,_=>by simp [toPy,PyData.eqv,bq]
 |_,_,.lst _,.int _,_,_=>by simp [toPy,PyData.eqv,bq]
 |_,_,.lst _,.str _,_,_=>by simp [toPy,PyData.eqv,bq]
 |_,_,.lst _,.tup _,_,_=>by simp [toPy,PyData.eqv,bq]
theorem oz:∀(n m:Nat) (a b:List D),a.all (aA n)=true->b.all (aA m)=true->PyData.eqvAll (bF a) (bF b)=jo a b
 |n,m,[],[],_,_=>by simp [bF,PyData.eqvAll,jo]
 |n,m,[],_::_,_,_=>by simp [bF,PyData.eqvAll,jo]
 |n,m,_::_,[],_,_=>by simp [bF,PyData.eqvAll,jo]
 | n, m, x :: a, y :: b, ha, hb => by
   simp only [NB,Ms] at ha hb
   simp only [bF,PyData.eqvAll,jo]
   rw [nt n m x y ha.1 hb.1,oz n m a b ha.2 hb.2]
end
section
variable {fa:Fa}{X:Cx}{μ:Mu}{H:Hp}{σ:L2.St}{pins:List #[15]}{s:Mx}{M:Mem}
theorem jT {d:D}{v:V}{ds:List D}(hM:RelM fa X.K μ H M)(h:Rep fa X.K μ H d v)(e:jW M d=some ds):∃a vs,v=.ref a/\H a=some (.lst vs)/\aT fa X.K μ H ds vs:=by
 cases d with
 | lst xs =>
   cases e
   obtain ⟨a,vs,e,s,r⟩:=h
   exact ⟨a,vs,e,s.1,r⟩
 | cell k =>
   obtain ⟨a,rfl,hk⟩:=h
   obtain ⟨b,vs,h1,h2,h3⟩:=hM.at' k ds e
   rw [hk] at h1;cases h1
   exact ⟨a,vs,rfl,h2,h3⟩
 |_=>cases e
theorem bW {d:D}{v:V}{ds:List D}(hM:RelM fa X.K μ H M)(h:Rep fa X.K μ H d v)(e:fS M d=some ds):∃a vs,v=.ref a/\c9 X.K H a vs/\aT fa X.K μ H ds vs:=by
 cases d with
 | lst xs =>
   obtain ⟨a,vs,h1,h2,h3⟩:=jT (ds:=ds) hM h e
   exact ⟨a,vs,h1,.of h2,h3⟩
 | frz xs =>
   cases e
   obtain ⟨a,vs,e,s,r⟩:=h
   exact ⟨a,vs,e,s.elim (fun z=>.inl (.inr z)) .inr,r⟩
 | cell k =>
   obtain ⟨a,vs,h1,h2,h3⟩:=jT (ds:=ds) hM h e
   exact ⟨a,vs,h1,.of h2,h3⟩
 |_=>cases e
theorem jS {d:D}{v:V}{ds:List D}(hM:RelM fa X.K μ H M)(h:Rep fa X.K μ H d v)(e:bZ M d=some ds):∃a vs,v=.ref a/\(c9 X.K H a vs\/dO X.K H a vs)/\aT fa X.K μ H ds vs:=by
 cases d with
 | tup xs =>
   cases e
   obtain ⟨a,vs,rfl,h1,h2⟩:=h
   exact ⟨a,vs,rfl,.inr h1,h2⟩
 | lst xs =>
   obtain ⟨a,vs,h1,h2,h3⟩:=bW (ds:=ds) hM h e
   exact ⟨a,vs,h1,.inl h2,h3⟩
 | frz xs =>
   obtain ⟨a,vs,h1,h2,h3⟩:=bW (ds:=ds) hM h e
   exact ⟨a,vs,h1,.inl h2,h3⟩
 | cell k =>
   obtain ⟨a,vs,h1,h2,h3⟩:=bW (ds:=ds) hM h e
   exact ⟨a,vs,h1,.inl h2,h3⟩
 |_=>cases e
mutual
theorem eO (I:Inv X pins σ H s):∀(d:D) (n:Nat) (v:V) (u:Mq),aA n d=true->Rep fa X.K μ H d v->RelV v u->∃as,Reads s.heap u (toPy d) as
 | .non, n, v, u, _, h, r => by
   obtain rfl:v=.non:=h
   obtain rfl:u=Value.none:=r
   exact ⟨_,.none⟩
 | .bl b, n, v, u, _, h, r => by
   obtain rfl:v=.bl b:=h
   obtain rfl:u=Value.bool b:=r
   exact ⟨_,.bool b⟩
 | .int i, n, v, u, _, h, r => by
   obtain rfl:v=.int i:=h
   obtain ⟨t,rfl⟩:=r
   exact ⟨_,.int i t⟩
 | .str x, n, v, u, _, h, r => by
   obtain rfl:v=.str x:=h
   obtain ⟨t,rfl⟩:=r
   exact ⟨_,.str x t⟩
 | .tup ds, n, v, u, hp, h, r => by
   cases n with
   |zero=>simp [aA] at hp
   | succ n =>
     obtain ⟨a,vs,rfl,h1,h2⟩:=h
     obtain rfl:u=Value.ref a:=r
     obtain ⟨its,rv,⟨o,e1,e2,k,e3⟩,_⟩:=I.tuple h1
     obtain ⟨as,q⟩:=gn I ds n vs its #[205] h2 rv
     exact ⟨_,.tuple e1 e2 e3 #[116]⟩
 | .lst ds, n, v, u, hp, h, r => by
   cases n with
   |zero=>simp [aA] at hp
   | succ n =>
     obtain ⟨a,vs,rfl,h1,h2⟩:=h
     obtain rfl:u=Value.ref a:=r
     obtain ⟨its,rv,⟨o,k,e1,e2,e4,e3⟩,_⟩:=I.list (c9.of h1.1)
     obtain ⟨as,q⟩:=gn I ds n vs its #[205] h2 rv
     exact ⟨_,.list e1 e2 e3 #[116]⟩
 |.frz k,n,v,u,hp,_,_=>by cases n<;>simp [aA] at hp
 |.cell k,n,v,u,hp,_,_=>by cases n<;>simp [aA] at hp
 |.fn f,n,v,u,hp,_,_=>by cases n<;>simp [aA] at hp
 |.exc _ _,n,v,u,hp,_,_=>by cases n<;>simp [aA] at hp
theorem gn (I:Inv X pins σ H s):∀(ds:List D) (n:Nat) (vs:List V) (us:List Mq),ds.all (aA n)=true->aT fa X.K μ H ds vs->Vals vs us->∃as,ReadsAll s.heap us (bF ds) as
 | [], n, vs, us, _, h, r => by
   obtain rfl:vs=[]:=h
   cases r
   exact ⟨_,.nil⟩
 | d :: ds, n, vs, us, hp, h, r => by
   obtain ⟨v,vr,rfl,h1,h2⟩:=h
   simp only [NB,Ms] at hp
   cases r with
   | cons r1 r2 =>
     obtain ⟨as,q1⟩:=eO I d n v _ hp.1 h1 r1
     obtain ⟨bs,q2⟩:=gn I ds n vr _ hp.2 h2 r2
     exact ⟨_,.cons q1 q2⟩
end
theorem DL {d:D}{n:Nat}(h:aA n (view M d)=true):(view M d=d/\aA n d=true)\/∃ds,fS M d=some ds/\view M d=.lst ds:=by
 cases d with
 | cell k =>
   cases e:M[k]? with
   | none =>
     have ev:view M (.cell k)=.cell k:=by simp [view,e]
     rw [ev] at h
     cases n<;>simp [aA] at h
   |some ds=>exact .inr ⟨ds,e,by simp [view,e]⟩
 |frz ds=>exact .inr ⟨ds,rfl,rfl⟩
 |_=>exact .inl ⟨rfl,h⟩
theorem lD (I:Inv X pins σ H s)(hM:RelM fa X.K μ H M){d:D}{v:V}{u:Mq}(hp:aA 64 (view M d)=true)(h:Rep fa X.K μ H d v)(r:RelV v u):∃as,Reads s.heap u (toPy (view M d)) as:=by
 rcases DL hp with ⟨e,hp'⟩|⟨ds,e,ev⟩
 ·rw [e];exact eO I _ 64 v u hp' h r
 ·rw [ev] at hp ⊢
  obtain ⟨a,vs,rfl,h1,h2⟩:=bW (ds:=ds) hM h e
  obtain rfl:u=Value.ref a:=r
  obtain ⟨its,rv,⟨o,k,e1,e2,e4,e3⟩,_⟩:=I.list h1
  obtain ⟨as,q⟩:=gn I ds 63 vs its #[205] h2 rv
  exact ⟨_,.list e1 e2 e3 #[116]⟩
theorem iU (I:Inv X pins σ H s)(hM:RelM fa X.K μ H M):∀(n m:Nat) (d:D) (v:V) (u:Mq),aA m (cy n M d)=true->Rep fa X.K μ H d v->RelV v u->∃as,Reads s.heap u (toPy (cy n M d)) as
 |0,m,d,v,u,hp,h,r=>eO I d m v u hp h r
 | n + 1, m, d, v, u, hp, h, r => by
   have ih:=iU I hM n
   have all:∀(m:Nat) (ds:List D) (vs:List V) (us:List Mq),#[111].all (aA m)=true->aT fa X.K μ H ds vs->Vals vs us->∃as,ReadsAll s.heap us (bF #[111]) as:=by
    intro m ds
    induction ds with
    | nil =>
      intro vs us _ h r
      obtain rfl:vs=[]:=h
      cases r
      exact ⟨_,.nil⟩
    | cons d ds ihl =>
      intro vs us hp h r
      obtain ⟨v,vr,rfl,h1,h2⟩:=h
      simp only [N4,NB,Ms] at hp
      cases r with
      | cons r1 r2 =>
        obtain ⟨as,q1⟩:=ih m d v _ hp.1 h1 r1
        obtain ⟨bs,q2⟩:=ihl vr _ hp.2 h2 r2
        exact ⟨_,.cons q1 q2⟩
   have lst:∀(ds:List D) (a:Addr) (vs:List V),aA m (.lst #[111])=true->c9 X.K H a vs->aT fa X.K μ H ds vs->u=.ref a->∃as,Reads s.heap u (toPy (.lst #[111])) as:=by
    intro ds a vs hp h1 h2 e
    subst e
    cases m with
    |zero=>simp [aA] at hp
    | succ m =>
      obtain ⟨its,rv,⟨o,k,e1,e2,e4,e3⟩,_⟩:=I.list h1
      obtain ⟨as,q⟩:=all m ds vs its #[205] h2 rv
      exact ⟨_,.list e1 e2 e3 #[116]⟩
   cases d with
   | cell k =>
     cases e:M[k]? with
     | none =>
       have ev:cy (n+1) M (.cell k)=.cell k:=by simp [cy,e]
       rw [ev] at hp
       cases m<;>simp [aA] at hp
     | some ds =>
       have ev:cy (n+1) M (.cell k)=.lst #[111]:=by simp [cy,e]
       rw [ev] at hp ⊢
       obtain ⟨a,vs,rfl,h1,h2⟩:=bW (ds:=ds) hM h e
       exact lst ds a vs hp h1 h2 r
   | frz ds =>
     obtain ⟨a,vs,rfl,h1,h2⟩:=bW (ds:=ds) hM h rfl
     exact lst ds a vs hp h1 h2 r
   | lst ds =>
     obtain ⟨a,vs,rfl,h1,h2⟩:=bW (ds:=ds) hM h rfl
     exact lst ds a vs hp h1 h2 r
   | tup ds =>
     have hp:aA m (.tup #[111])=true:=hp
     cases m with
     |zero=>simp [aA] at hp
     | succ m =>
       obtain ⟨a,vs,rfl,h1,h2⟩:=h
       obtain rfl:u=Value.ref a:=r
       obtain ⟨its,rv,⟨o,e1,e2,k,e3⟩,_⟩:=I.tuple h1
       obtain ⟨as,q⟩:=all m ds vs its #[205] h2 rv
       exact ⟨_,.tuple e1 e2 e3 #[116]⟩
   |non=>exact eO I .non m v u hp h r
   |bl b=>exact eO I (.bl b) m v u hp h r
   |int i=>exact eO I (.int i) m v u hp h r
   |str x=>exact eO I (.str x) m v u hp h r
   |fn f=>exact eO I (.fn f) m v u hp h r
   |exc y p=>exact eO I (.exc y p) m v u hp h r
abbrev Rm (X:Cx):Prop:=X.A.units+100<cLine
def hZ (fa:Fa)(K:Mr)(o:j7):R2:=fun x y H Q=>∃μ M dx dy b,RelM fa K μ H M/\Rep fa K μ H dx x/\Rep fa K μ H dy y/\bx o dx dy M=some b/\Q (.bl b) H
theorem uC {a b:D}{k:Bool}(hs:(iD a&&iD b)=false)(h:pN a b=some k):aA 64 a=true/\aA 64 b=true/\k=bq a b:=by
 unfold pN at h
 rw [hs,Bool.false_or] at h
 split at h
 ·next q=>
  simp only [Ms] at q
  exact ⟨q.1,q.2,(MA h).symm⟩
 ·cases h
theorem uq (d:D):iD (view M d)=iD d:=by
 cases d with
 |cell k=>cases e:M[k]?<;>simp [view,e,iD]
 |_=>rfl
theorem rD (n:Nat)(d:D):iD (cy n M d)=iD d:=by
 cases n with
 |zero=>rfl
 | succ n =>
   cases d with
   |cell k=>cases e:M[k]?<;>simp [cy,e,iD]
   |_=>rfl
theorem rJ (I:Inv X pins σ H s)(hM:RelM fa X.K μ H M){a b:D}{x y:V}{v u:Mq}{k:Bool}(hs:(iD a&&iD b)=false)(h:la M a b=some k)(h1:Rep fa X.K μ H a x)(h2:Rep fa X.K μ H b y)(rx:RelV x v)(ry:RelV y u) :
 ∃c e as bs,aA 64 c=true/\aA 64 e=true/\k=bq c e/\Reads s.heap v (toPy c) as/\Reads s.heap u (toPy e) bs:=by
 unfold la at h
 cases q:pN (view M a) (view M b) with
 | some r =>
   rw [q] at h
   cases h
   obtain ⟨p1,p2,e⟩:=uC (by rw [uq,uq];exact hs) q
   obtain ⟨as,r1⟩:=lD I hM p1 h1 rx
   obtain ⟨bs,r2⟩:=lD I hM p2 h2 ry
   exact ⟨_,_,as,bs,p1,p2,e,r1,r2⟩
 | none =>
   rw [q] at h
   obtain ⟨p1,p2,e⟩:=uC (by rw [rD,rD];exact hs) h
   obtain ⟨as,r1⟩:=iU I hM 64 64 a x v p1 h1 rx
   obtain ⟨bs,r2⟩:=iU I hM 64 64 b y u p2 h2 ry
   exact ⟨_,_,as,bs,p1,p2,e,r1,r2⟩
theorem tm {a b:D}(h:(iD a&&iD b)=true):∃x y,a=.str x/\b=.str y:=by
 cases a with
 | str x =>
   cases b with
   |str y=>exact ⟨x,y,rfl,rfl⟩
   |_=>cases h
 |_=>cases h
theorem qB {x y:Str}:la M (.str x) (.str y)=some (x==y):=by
 have e:bq (.str x) (.str y)=(x==y):=by simp [bq]
 rw [<- e];rfl
theorem L6 (hu:Rm X):bY X (compareOp .Eq) (hZ fa X.K .eq):=by
 intro pins s σ H x y v u Q I rx ry h
 obtain ⟨μ,M,dx,dy,b,hM,h1,h2,e,q⟩:=h
 cases hs:iD dx&&iD dy with
 | true =>
   obtain ⟨i,j,rfl,rfl⟩:=tm hs
   obtain rfl:x=.str i:=h1
   obtain rfl:y=.str j:=h2
   obtain rfl:(i==j)=b:=MA (qB.symm.trans e)
   exact Jy pins s σ H _ _ v u Q I rx ry ⟨rfl,by rw [nz];exact q⟩
 | false =>
   obtain ⟨_,_,as,bs,p1,p2,rfl,r1,r2⟩:=rJ I hM hs (show la M dx dy=some b from e) h1 h2 rx ry
   refine SeqAt.compareEq_shaped r1 r2 (kd p1) (kd p2) (by unfold Rm at hu;omega) ?_
   rw [nt 64 64 _ _ p1 p2]
   exact ⟨.bl _,H,I,rfl,q⟩
theorem LV (hu:Rm X):bY X (compareOp .NotEq) (hZ fa X.K .ne):=by
 intro pins s σ H x y v u Q I rx ry h
 obtain ⟨μ,M,dx,dy,b,hM,h1,h2,e,q⟩:=h
 have e:(la M dx dy).map (!·)=some b:=e
 cases e':la M dx dy with
 |none=>rw [e'] at e;cases e
 | some k =>
   rw [e'] at e
   obtain rfl:(!k)=b:=MA e
   cases hs:iD dx&&iD dy with
   | true =>
     obtain ⟨i,j,rfl,rfl⟩:=tm hs
     obtain rfl:x=.str i:=h1
     obtain rfl:y=.str j:=h2
     obtain rfl:(i==j)=k:=MA (qB.symm.trans e')
     exact Jt pins s σ H _ _ v u Q I rx ry ⟨rfl,by rw [nz];exact q⟩
   | false =>
     obtain ⟨_,_,as,bs,p1,p2,rfl,r1,r2⟩:=rJ I hM hs e' h1 h2 rx ry
     refine SeqAt.compareNe_shaped r1 r2 (kd p1) (kd p2) (by unfold Rm at hu;omega) ?_
     rw [nt 64 64 _ _ p1 p2]
     exact ⟨.bl _,H,I,rfl,q⟩
end
end LD
namespace LD
open PySem PySem.Spec PyProof.Rows L2
section
variable {fa:Fa}{X:Cx}{μ:Mu}{H:Hp}{σ:L2.St}{pins:List #[15]}{s:Mx}{M:Mem}
theorem jc {f:Mq->Mq->Sem Mq}{r r':R2}(h:bY X f r)(i:∀x y H Q,r' x y H Q->r x y H Q):bY X f r':=fun pins s σ H x y v u Q I rx ry q=>h pins s σ H x y v u Q I rx ry (i x y H Q q)
theorem l4 {f:Mq}{r r':List V->Hp->VK->Prop}(h:di X f r)(i:∀xs H Q,r' xs H Q->r xs H Q):di X f r':=fun pins s σ H xs us Q I rx q=>h pins s σ H xs us Q I rx (i xs H Q q)
theorem nB {o:j7}{g:Int->Int->Bool}(ho:o=.lt\/o=.le\/o=.gt\/o=.ge)(hg:∀i j,bx o (.int i) (.int j) []=some (g i j)){x y:V}{Q:VK}(h:hZ fa X.K o x y H Q) :
 ∃i j,x=.int i/\y=.int j/\Q (.bl (g i j)) H:=by
 obtain ⟨μ,M,dx,dy,b,hM,h1,h2,e,q⟩:=h
 have key:∀i j,dx=.int i->dy=.int j->∃i j,x=.int i/\y=.int j/\Q (.bl (g i j)) H:=fun i j e1 e2=>by
  subst e1 e2
  have e3:bx o (.int i) (.int j) M=some (g i j):=by
   have:=hg i j
   rcases ho with rfl|rfl|rfl|rfl<;>exact this
  rw [e] at e3
  have e4:=MA e3
  subst e4
  exact ⟨i,j,h1,h2,q⟩
 rcases ho with rfl|rfl|rfl|rfl<;>
 ·cases dx with
  |int i=>cases dy<;>first|exact key _ _ rfl rfl|cases e
  |_=>cases e
theorem LW:bY X (compareOp .Lt) (hZ fa X.K .lt):=jc Ju fun x y H Q h=>nB #[131] (fun _ _=>rfl) h
theorem LX:bY X (compareOp .LtE) (hZ fa X.K .le):=jc Jv fun x y H Q h=>nB (.inr #[131]) (fun _ _=>rfl) h
theorem LZ:bY X (compareOp .Gt) (hZ fa X.K .gt):=jc Jw fun x y H Q h=>nB (.inr (.inr #[131])) (fun _ _=>rfl) h
theorem L5:bY X (compareOp .GtE) (hZ fa X.K .ge):=jc Jx fun x y H Q h=>nB (.inr (.inr (.inr rfl))) (fun _ _=>rfl) h
theorem vB {d:D}{v:V}{K:Mr}(h:Rep fa K μ H d v):decide (v=.non)=ks d:=by
 cases d with
 |non=>obtain rfl:v=.non:=h;rfl
 |bl b=>obtain rfl:v=.bl b:=h;rfl
 |int b=>obtain rfl:v=.int b:=h;rfl
 |str b=>obtain rfl:v=.str b:=h;rfl
 |tup b=>obtain ⟨a,vs,rfl,_⟩:=h;rfl
 |lst b=>obtain ⟨a,vs,rfl,_⟩:=h;rfl
 |frz b=>obtain ⟨a,vs,rfl,_⟩:=h;rfl
 |cell b=>obtain ⟨a,rfl,_⟩:=h;rfl
 |fn b=>obtain ⟨a,rfl,_⟩:=h;rfl
 |exc y p=>obtain ⟨a,_,_,rfl,_⟩:=h;rfl
theorem J6:bY X (compareOp .Is) (hZ fa X.K .isN):=jc G9 fun x y H Q h=>by
 obtain ⟨μ,M,dx,dy,b,hM,h1,h2,e,q⟩:=h
 cases dy<;>first|cases (show (none:Option Bool)=some b from e)|skip
 refine ⟨h2,?_⟩
 rw [vB h1]
 have e:some (ks dx)=some b:=e
 rw [MA e];exact q
theorem Ip:bY X (compareOp .IsNot) (hZ fa X.K .notN):=jc EN fun x y H Q h=>by
 obtain ⟨μ,M,dx,dy,b,hM,h1,h2,e,q⟩:=h
 cases dy<;>first|cases (show (none:Option Bool)=some b from e)|skip
 refine ⟨h2,?_⟩
 rw [vB h1]
 have e:some (!ks dx)=some b:=e
 rw [MA e];exact q
theorem u4 (x:D)(hx:aA 64 x=true):∀(ds:List D),ds.all (aA 63)=true->((bF ds).any fun y=>PyData.eqv y (toPy x))=ds.any fun y=>bq y x
 |[],_=>rfl
 | d :: r, h => by
   simp only [NB,Ms] at h
   simp only [bF,List.any_cons,nt 63 64 d x h.1 hx,u4 x hx r h.2]
theorem sX (n:Nat):∀ds:List D,ds.all (aA n)=true->PyData.canLayAll0 (bF ds)=true/\PyData.depthAll (bF ds)<=n
 |[],_=>by simp [bF,PyData.canLayAll0,PyData.depthAll]
 | d :: r, h => by
   simp only [NB,Ms] at h
   obtain ⟨h1,h2⟩:=mX n d h.1
   obtain ⟨h3,h4⟩:=sX n r h.2
   simp only [bF,PyData.canLayAll0,PyData.depthAll,h1,h3,Bool.and_self,true_and]
   omega
theorem yM (I:Inv X pins σ H s)(hM:RelM fa X.K μ H M){d:D}{v:V}{u:Mq}{ds:List D}(hp:ds.all (aA 63)=true)(h:Rep fa X.K μ H d v)(r:RelV v u)(e:bZ M d=some ds) :
 (∃as,Reads s.heap u (.list (bF ds)) as)\/∃as,Reads s.heap u (.tuple (bF ds)) as:=by
 obtain ⟨a,vs,rfl,h1,h2⟩:=jS (ds:=ds) hM h e
 obtain rfl:u=Value.ref a:=r
 rcases h1 with h1|h1
 ·obtain ⟨its,rv,⟨o,k,e1,e2,e4,e3⟩,_⟩:=I.list h1
  obtain ⟨as,q⟩:=gn I ds 63 vs its hp h2 rv
  exact .inl ⟨_,.list e1 e2 e3 #[116]⟩
 ·obtain ⟨its,rv,⟨o,e1,e2,k,e3⟩,_⟩:=I.tuple h1
  obtain ⟨as,q⟩:=gn I ds 63 vs its hp h2 rv
  exact .inr ⟨_,.tuple e1 e2 e3 #[116]⟩
theorem zG (hu:Rm X){x y:V}{v u:Mq}{dx dy:D}{ds:List D}{b:Bool}{Q:Mq->Mx->Prop}(I:Inv X pins σ H s)(hM:RelM fa X.K μ H M)(h1:Rep fa X.K μ H dx x)(h2:Rep fa X.K μ H dy y)(rx:RelV x v)(ry:RelV y u)
 (e1:bZ M dy=some ds) (e2:ik (view M dx) ds=some b) (neg:Bool) (q:Q (.bool (if neg then !b else b)) s):wpAny #[2] X.A (compareOp (if neg then .NotIn else .In) v u) Q X.xe s:=by
 unfold ik at e2
 split at e2
 ·next z=>
  simp only [Ms] at z
  obtain ⟨p1,p2⟩:=z
  have e3:=MA e2
  subst e3
  obtain ⟨as,r1⟩:=lD I hM p1 h1 rx
  obtain ⟨c1,d1⟩:=mX 64 _ p1
  obtain ⟨c2,d2⟩:=sX 63 ds p2
  have hu':X.A.units+1+min (PyData.depthAll (bF ds)) (toPy (view M dx)).depth<cLine:=by unfold Rm at hu;omega
  rw [<- u4 _ p1 ds p2] at q
  rcases yM I hM p2 h2 ry e1 with ⟨bs,r2⟩|⟨bs,r2⟩
  ·cases neg
   ·exact SeqAt.in_list_reads r2 r1 c2 c1 hu' q
   ·exact SeqAt.notIn_list_reads r2 r1 c2 c1 hu' q
  ·cases neg
   ·exact SeqAt.in_tuple_reads r2 r1 c2 c1 hu' q
   ·exact SeqAt.notIn_tuple_reads r2 r1 c2 c1 hu' q
 ·cases e2
theorem LY (hu:Rm X):bY X (compareOp .In) (hZ fa X.K .isin):=by
 intro pins s σ H x y v u Q I rx ry h
 obtain ⟨μ,M,dx,dy,b,hM,h1,h2,e,q⟩:=h
 have gen:(bZ M dy).bind (ik (view M dx))=some b->wpAny #[2] X.A (compareOp .In v u) #[27] X.xe s:=fun e=>by
  cases e1:bZ M dy with
  |none=>rw [e1] at e;cases e
  | some ds =>
    rw [e1] at e
    exact zG hu I hM h1 h2 rx ry e1 e false ⟨.bl b,H,I,rfl,q⟩
 by_cases hs:(∃a,dx=.str a)/\∃c,dy=.str c
 ·obtain ⟨⟨a,rfl⟩,c,rfl⟩:=hs
  have e:some (jL a c)=some b:=e
  have e':=MA e
  subst e'
  exact zi pins s σ H x y v u Q I rx ry ⟨a,c,h1,h2,q⟩
 ·refine gen ?_
  cases dx<;>first|exact e|(cases dy<;>first|exact e|exact absurd ⟨⟨_,rfl⟩,_,rfl⟩ hs)
theorem FD (hu:Rm X):bY X (compareOp .NotIn) (hZ fa X.K .notin):=by
 intro pins s σ H x y v u Q I rx ry h
 obtain ⟨μ,M,dx,dy,b,hM,h1,h2,e,q⟩:=h
 have gen:((bZ M dy).bind (ik (view M dx))).map (!·)=some b->wpAny #[2] X.A (compareOp .NotIn v u) #[27] X.xe s:=fun e=>by
  cases e1:bZ M dy with
  |none=>rw [e1] at e;cases e
  | some ds =>
    rw [e1] at e
    cases e2:ik (view M dx) ds with
    |none=>rw [NZ,e2] at e;cases e
    | some k =>
      rw [NZ,e2] at e
      have e':=MA e
      subst e'
      exact zG hu I hM h1 h2 rx ry e1 e2 true ⟨.bl _,H,I,rfl,q⟩
 by_cases hs:(∃a,dx=.str a)/\∃c,dy=.str c
 ·obtain ⟨⟨a,rfl⟩,c,rfl⟩:=hs
  have e:some (!jL a c)=some b:=e
  have e':=MA e
  subst e'
  exact t8 pins s σ H x y v u Q I rx ry ⟨a,c,h1,h2,q⟩
 ·refine gen ?_
  cases dx<;>first|exact e|(cases dy<;>first|exact e|exact absurd ⟨⟨_,rfl⟩,_,rfl⟩ hs)
def fU:j7->CmpOp
 |.eq=>.Eq|.ne=>.NotEq|.lt=>.Lt|.le=>.LtE|.gt=>.Gt|.ge=>.GtE|.isN=>.Is|.notN=>.IsNot|.isin=>.In|.notin=>.NotIn
theorem nF (hu:Rm X):∀o:j7,bY X (compareOp (fU o)) (hZ fa X.K o)
 |.eq=>L6 hu|.ne=>LV hu|.lt=>LW|.le=>LX|.gt=>LZ|.ge=>L5|.isN=>J6|.notN=>Ip|.isin=>LY hu|.notin=>FD hu
def mr (fa:Fa)(K:Mr)(m:Bool)(o:lA):R2:=fun x y H Q=>∃μ M dx dy,RelM fa K μ H M/\Rep fa K μ H dx x/\Rep fa K μ H dy y/\ai (eW m o dx dy M) #[216]
theorem bf {Q:VK}{d:D}{v:V}(hM:RelM fa X.K μ H M)(h:bp fa X.K μ H Q d M)(r:Rep fa X.K μ H d v):Q v H:=h v H μ .refl hM r
theorem gM {Q:VK}{m:Bool}{ds:List D}{vs:List V}(hM:RelM fa X.K μ H M)(r:aT fa X.K μ H ds vs)(h:ai (bG m ds M) #[18]):ds.length<=sz/\∀p,H p=none->Q (.ref p) (upd H p (.lst vs)):=by
 unfold bG at h
 split at h
 ·next hz=>
  refine ⟨hz,fun p hp=>?_⟩
  cases m with
  | true =>
    have h:bp fa X.K μ H Q #[215] (M++[ds]):=h
    exact h (.ref p) _ (gp μ M.length p) (Ext.cell hM hp) (hM.cell hp r) ⟨p,rfl,by simp [gp]⟩
  | false =>
    have h:bp fa X.K μ H Q (.lst ds) M:=h
    exact h (.ref p) _ μ #[144] (hM.alloc hp) ⟨p,vs,rfl,⟨bV,hM.fresh hp⟩,r.ext #[144]⟩
 ·exact h.elim
theorem gL {Q:VK}{ds:List D}{vs:List V}(hM:RelM fa X.K μ H M)(r:aT fa X.K μ H ds vs)(h:bp fa X.K μ H Q (.tup ds) M):∀p,H p=none->Q (.ref p) (upd H p (.tup vs)):=fun p hp=>
 h (.ref p) _ μ #[144] (hM.alloc hp) ⟨p,vs,rfl,.of bV,r.ext #[144]⟩
theorem dH:sz=sizeLine:=by rw [sizeLine_eq];rfl
theorem BD:bY X (binaryOp .Add) (fun x y H Q=>∃a b ys,x=.ref a/\y=.ref b/\dO X.K H a []/\dO X.K H b ys/\Q (.ref b) H):=by
 intro pins s σ H x y v u Q I rx ry h
 obtain ⟨a,b,ys,rfl,rfl,ha,hb,q⟩:=h
 cases rx
 cases ry
 obtain ⟨its,r1,p1,_⟩:=I.tuple ha
 obtain ⟨its2,r2,p2,_⟩:=I.tuple hb
 cases r1
 obtain ⟨⟨cls,dd,data,sl⟩,ho,hc,n,hd⟩:=id p1
 obtain ⟨⟨cls2,dd2,data2,sl2⟩,ho2,hc2,n2,hd2⟩:=id p2
 simp only at hc hd hc2 hd2
 subst hc hd hc2 hd2
 exact concat_meets ⟨_,ho,rfl⟩ ⟨_,ho2,rfl⟩ noFill_tuple_add seq_tuple_add O6 OY (OW _ _)
  (tuple_addW0 a b #[] its2.toArray n n2 dd dd2 sl sl2 rfl) ⟨ho,ho2,⟨.ref b,H,I,rfl,q⟩⟩
theorem Cm {m:Bool}{x y:V}{v u:Mq}{dx dy:D}{Q:VK}(I:Inv X pins σ H s)(hM:RelM fa X.K μ H M)(h1:Rep fa X.K μ H dx x)(h2:Rep fa X.K μ H dy y)(rx:RelV x v)(ry:RelV y u)
 (h:ai (match jW M dx,jW M dy with|some x,some y=>bG m (x++y) M|_,_=>.bad) #[18]):wpAny #[2] X.A (binaryOp .Add v u) #[27] X.xe s:=by
 cases e1:jW M dx with
 |none=>rw [e1] at h;exact h.elim
 | some xs =>
   cases e2:jW M dy with
   |none=>rw [e1,e2] at h;exact h.elim
   | some ys =>
     rw [e1,e2] at h
     obtain ⟨a,vs,rfl,ha,ra⟩:=jT hM h1 e1
     obtain ⟨b,ws,rfl,hb,rb⟩:=jT hM h2 e2
     obtain ⟨hz,k⟩:=gM hM (ra.append rb) h
     refine Ha pins s σ H _ _ v u Q I rx ry ⟨a,b,vs,ws,rfl,rfl,ha,hb,?_,k⟩
     rw [ra.length,rb.length,<- Nx,<- dH];exact hz
theorem Kd (m:Bool):bY X (binaryOp .Add) (mr fa X.K m .add):=by
 intro pins s σ H x y v u Q I rx ry h
 obtain ⟨μ,M,dx,dy,hM,h1,h2,h⟩:=h
 have hi:∀i j,dx=.int i->dy=.int j->wpAny #[2] X.A (binaryOp .Add v u) #[27] X.xe s:=fun i j e1 e2=>by
  subst e1 e2
  exact Hb pins s σ H x y v u Q I rx ry ⟨i,j,h1,h2,bf (v:=.int (i+j)) hM h rfl⟩
 have hs:∀i j,dx=.str i->dy=.str j->wpAny #[2] X.A (binaryOp .Add v u) #[27] X.xe s:=fun i j e1 e2=>by
  subst e1 e2
  have h:ai (if i.cps.size+j.cps.size<=sz then .ok (.str ⟨i.cps++j.cps⟩) M else .bad) #[18]:=h
  split at h
  ·next hz=>exact wW pins s σ H x y v u Q I rx ry ⟨i,j,h1,h2,by rw [<- dH];exact hz,bf (v:=.str ⟨i.cps++j.cps⟩) hM h rfl⟩
  ·exact h.elim
 have ht:∀i j,dx=.tup i->dy=.tup j->wpAny #[2] X.A (binaryOp .Add v u) #[27] X.xe s:=fun i j e1 e2=>by
  subst e1 e2
  have h:ai (if (i++j).length<=sz then .ok (.tup (i++j)) M else .bad) #[18]:=h
  split at h
  ·next hz=>
   have h:bp fa X.K μ H Q (.tup (i++j)) M:=h
   obtain ⟨a,vs,e1,ha,ra⟩:=id h1
   obtain ⟨b,ws,e2,hb,rb⟩:=id h2
   by_cases h0:i=[]
   ·subst h0
    obtain rfl:vs=[]:=ra
    exact BD pins s σ H x y v u Q I rx ry ⟨a,b,ws,e1,e2,ha,hb,bf hM h ⟨b,ws,rfl,hb,rb⟩⟩
   ·have hv:vs≠[]:=fun z=>h0 (by have:=ra.length;rw [z] at this;exact O3.mp this.symm)
    refine ER pins s σ H x y v u Q I rx ry ⟨a,b,vs,ws,e1,e2,ha,hb,hv,?_,fun z=>?_,fun _=>gL hM (ra.append rb) h⟩
    ·rw [ra.length,rb.length,<- Nx,<- dH];exact hz
    ·subst z
     have ej:j=[]:=O3.mp rb.length.symm
     subst ej
     exact bf hM h ⟨a,vs,rfl,ha,by simpa using ra⟩
  ·exact h.elim
 cases dx<;>cases dy<;>first|exact hi _ _ rfl rfl|exact hs _ _ rfl rfl|exact ht _ _ rfl rfl|exact Cm (m:=m) I hM h1 h2 rx ry h
theorem sM {op:Operator}{o:lA}{m:Bool}{C:Int->Int->Prop}{g:Int->Int->Int}(hr:bY X (binaryOp op) (rI C fun i j=>.int (g i j)))
 (hD:∀dx dy M (P:D->Mem->Prop),ai (eW m o dx dy M) P->∃i j,dx=.int i/\dy=.int j/\C i j/\P (.int (g i j)) M):bY X (binaryOp op) (mr fa X.K m o):=jc hr fun x y H Q h=>by
 obtain ⟨μ,M,dx,dy,hM,h1,h2,h⟩:=h
 obtain ⟨i,j,rfl,rfl,c,q⟩:=hD dx dy M _ h
 exact ⟨i,j,h1,h2,c,bf (v:=.int (g i j)) hM q rfl⟩
theorem J8 (m:Bool):bY X (binaryOp .Sub) (mr fa X.K m .sub):=sM (C:=fun _ _=>True) (g:=fun i j=>i-j) (jc G4 fun x y H Q ⟨i,j,e1,e2,_,q⟩=>⟨i,j,e1,e2,q⟩) fun dx dy M P h=>by
 cases dx<;>cases dy<;>first|exact ⟨_,_,rfl,rfl,trivial,h⟩|exact h.elim
theorem Iu (m:Bool):bY X (binaryOp .FloorDiv) (mr fa X.K m .fdiv):=sM EO fun dx dy M P h=>by
 have key:∀i j,dx=.int i->dy=.int j->∃i j,dx=.int i/\dy=.int j/\IP i j/\P (.int (i / j)) M:=fun i j e1 e2=>by
  subst e1 e2
  have h:ai (if 0<j/\j<1073741824 then .ok (.int (i / j)) M else .bad) P:=h
  split at h
  ·next c=>exact ⟨i,j,rfl,rfl,c,h⟩
  ·exact h.elim
 cases dx<;>cases dy<;>first|exact key _ _ rfl rfl|exact h.elim
theorem Kb (m:Bool):bY X (binaryOp .Mod) (mr fa X.K m .mod):=sM G8 fun dx dy M P h=>by
 have key:∀i j,dx=.int i->dy=.int j->∃i j,dx=.int i/\dy=.int j/\0<j/\P (.int (i % j)) M:=fun i j e1 e2=>by
  subst e1 e2
  have h:ai (if 0<j then .ok (.int (i % j)) M else .bad) P:=h
  split at h
  ·next c=>exact ⟨i,j,rfl,rfl,c,h⟩
  ·exact h.elim
 cases dx<;>cases dy<;>first|exact key _ _ rfl rfl|exact h.elim
theorem J9 (m:Bool):bY X (binaryOp .Pow) (mr fa X.K m .pow):=sM G6 fun dx dy M P h=>by
 have key:∀i j,dx=.int i->dy=.int j->∃i j,dx=.int i/\dy=.int j/\IM i j/\P (.int (i^j.toNat)) M:=fun i j e1 e2=>by
  subst e1 e2
  have h:ai (if 0<=j/\j<=1000000/\i.natAbs<2^64 then .ok (.int (i^j.toNat)) M else .bad) P:=h
  split at h
  ·next c=>exact ⟨i,j,rfl,rfl,c,h⟩
  ·exact h.elim
 cases dx<;>cases dy<;>first|exact key _ _ rfl rfl|exact h.elim
theorem Bt {m:Bool}{x y:V}{v u:Mq}{dx:D}{j:Int}{Q:VK}(I:Inv X pins σ H s)(hM:RelM fa X.K μ H M)(h1:Rep fa X.K μ H dx x)(h2:Rep fa X.K μ H (.int j) y)(rx:RelV x v)(ry:RelV y u)
 (h:ai (match jW M dx with|some x=>if x.length*j.toNat<=sz/\-(2^63)<=j/\j<2^63 then bG m #[109].flatten M else .bad|none=>.bad) #[18]) :
 wpAny #[2] X.A (binaryOp .Mult v u) #[27] X.xe s:=by
 cases e1:jW M dx with
 |none=>rw [e1] at h;exact h.elim
 | some xs =>
   rw [e1] at h
   simp only at h
   split at h
   ·next c=>
    obtain ⟨a,vs,rfl,ha,ra⟩:=jT hM h1 e1
    obtain ⟨hz,k⟩:=gM hM (ra.rep j.toNat) h
    exact G5 pins s σ H _ _ v u Q I rx ry ⟨a,j,vs,rfl,h2,ha,c.2.1,c.2.2,by rw [ra.length,<- dH];exact c.1,k⟩
   ·exact h.elim
end
end LD
namespace LD
open PySem PySem.Spec PyProof.Rows L2 PySem.Builtin
open PySem.Sem (wp)
theorem oj:fillsNumberSlot (.type "tuple") "mul"=pure false:=
 PySem.fillsNumberSlot_seq (id:="tuple.__mul__") (r:=some (.builtin "tuple.__rmul__")) OP.lookup #[3] F.slot_tuple_rmul.lookup #[3]
theorem tP:seqRepeat? (.type "tuple")=pure (some (.builtin "tuple.__mul__")):=by
 unfold seqRepeat?
 rw [PySem.seqSlot_of (T:="tuple") (name:="__mul__") (id:="tuple.__mul__") OP.lookup #[3],PySem.seqSlot_of (T:="tuple") (name:="__rmul__") (id:="tuple.__rmul__") F.slot_tuple_rmul.lookup #[3]]
 rfl
theorem qe (a:Int)(t:Tok)(l:Addr)(items:Array Mq)(n:Nat)(dd:Option Addr)(sl:Array (Option Mq)) :
 Meets (Builtin.«int.__rmul__» ⟨[.int a t,.ref l],[]⟩) (fun _ R s=>s.heap.get? l=some {cls:=.type "tuple",dict:=dd,data:=.seq items n,slots:=sl}/\R (.ok (.ret Value.notImplemented)) s):=
 .of_wp fun prog w A R s h=>by obtain ⟨hp,g,d,tk,os⟩:=s;obtain ⟨hl,h⟩:=h;wp_walk using wpAny_loadPart' hl;exact ⟨_,rfl,h⟩
theorem wV {x:Int}(h0:-(2^63)<=x)(h1:x<2^63):(decide (x < -2^63)||decide (x≥2^63))=false:=by
 rw [decide_eq_false #[0],decide_eq_false #[0]];rfl
theorem qm (l:Addr)(items:Array Mq)(n:Nat)(dd:Option Addr)(sl:Array (Option Mq))(x:Int)(u:Tok)(h0:-(2^63)<=x)(h1:x<2^63)(hc:(items.isEmpty||x==1)=true) :
 Meets #[121] (fun _ R s=>s.heap.get? l=some {cls:=.type "tuple",dict:=dd,data:=.seq items n,slots:=sl}/\R (.ok (.ret (.ref l))) s):=
 .of_wp fun prog w A R s h=>by
  obtain ⟨hp,g,d,tk,os⟩:=s;obtain ⟨hl,h⟩:=h;have f1:=AutoSeq1.idx_int
  wp_walk using wpAny_loadPart' hl
  refine wpAny_ite_false (by rw [wV h0 h1];rfl) ?_
  wp_walk using wpAny_loadPart' hl
  exact ⟨_,rfl,h⟩
theorem qo (l:Addr)(items:Array Mq)(n:Nat)(dd:Option Addr)(sl:Array (Option Mq))(x:Int)(u:Tok)(h0:-(2^63)<=x)(h1:x<2^63)(hc:(items.isEmpty||x==1)=false)(hc1:(decide (x<=0)||items.isEmpty)=true) :
 Meets #[121] (fun _ R s=>s.heap.get? l=some {cls:=.type "tuple",dict:=dd,data:=.seq items n,slots:=sl}/\R (.ok (.ret #[49])) {s with heap:=s.heap.push {cls:=Value.type "tuple",data:=Data.seq #[]},toks:=s.toks}):=
 .of_wp fun prog w A R s h=>by
  obtain ⟨hp,g,d,tk,os⟩:=s;obtain ⟨hl,h⟩:=h;have f1:=AutoSeq1.idx_int
  wp_walk using wpAny_loadPart' hl
  refine wpAny_ite_false (by rw [wV h0 h1];rfl) ?_
  wp_walk using wpAny_loadPart' hl
  exact ⟨_,rfl,h⟩
theorem qp (l:Addr)(items:Array Mq)(n:Nat)(dd:Option Addr)(sl:Array (Option Mq))(x:Int)(u:Tok)(h0:-(2^63)<=x)(h1:x<2^63)(hc:(items.isEmpty||x==1)=false)(hc1:(decide (x<=0)||items.isEmpty)=false)
 (hs:(items.size:Int)*x<=16777216) (hs2:#[334].size<=sizeLine) :
 Meets #[121] (fun _ R s=>s.heap.get? l=some {cls:=.type "tuple",dict:=dd,data:=.seq items n,slots:=sl}/\R (.ok (.ret #[49])) {s with heap:=s.heap.push {cls:=Value.type "tuple",data:=Data.seq #[334]},toks:=s.toks}):=
 .of_wp fun prog w A R s h=>by
  obtain ⟨hp,g,d,tk,os⟩:=s;obtain ⟨hl,h⟩:=h;have f1:=AutoSeq1.idx_int
  wp_walk using wpAny_loadPart' hl
  refine wpAny_ite_false (by rw [wV h0 h1];rfl) ?_
  wp_walk using wpAny_loadPart' hl
  refine wpAny_ite_false (decide_eq_false #[0]) ?_
  wp_walk using wpAny_loadPart' hl
  refine wpAny_ite_false (decide_eq_false (by unfold Tuple.tupleTooMany;rw [sizeLine_eq];simp;omega)) ?_
  wp_walk using wpAny_loadPart' hl
  exact ⟨_,rfl,h⟩
section
variable {fa:Fa}{X:Cx}{μ:Mu}{H:Hp}{σ:L2.St}{pins:List #[15]}{s:Mx}{M:Mem}
theorem rg (its:List Mq)(m:Nat):List.foldl #[177] #[] (List.replicate m its.toArray)=(List.replicate m its).flatten.toArray:=by
 have:=foldl_rep its m []
 rw [NW] at this
 exact this
theorem EL:bY X (binaryOp .Mult) (fun x y H Q=>∃l k xs,x=.ref l/\y=.int k/\dO X.K H l xs/\-(2^63)<=k/\k<2^63/\xs.length*k.toNat<=sz/\
 (#[159].flatten=xs->Q (.ref l) H)/\∀p,H p=none->Q (.ref p) (upd H p (.tup #[159].flatten))):=by
 intro pins s σ H x y v u Q I rx ry h
 obtain ⟨l,k,xs,rfl,rfl,hq,h1,h2,hz,q1,q2⟩:=h
 cases rx
 obtain ⟨t,rfl⟩:=ry
 obtain ⟨its,r,p,hzz⟩:=I.tuple hq
 have hl:=r.length
 obtain ⟨⟨cls,dd,data,sl⟩,ho,hc,n,hd⟩:=id p
 simp only at hc hd
 subst hc hd
 refine wpAny_binaryOp_repeat_ref (T:="tuple") (U:="int") #[1] ⟨_,ho,rfl⟩ (fun s'=>typeIs_int s' k t) oj F.fills_int_mul Pp tP F.slot_int_index.lookup
  (call_meets Pp (typeIs_int s k t) F.entry_int_rmul (F.args_int_rmul_2 _ _) (qe k t l its.toArray n dd sl) ⟨ho,rfl,⟨_,ho,rfl⟩,?_⟩)
 have new:∀(its':List Mq),Vals #[159].flatten its'->EP X pins σ Q #[49] {s with heap:=s.heap.push {cls:=Value.type "tuple",data:=Data.seq its'.toArray}}:=fun its' r'=>by
  refine ⟨.ref s.heap.objs.size,_,I.laid (t':=s.toks) (o:=.tup #[159].flatten) #[158] (My _) ?_,rfl,q2 _ #[284]⟩
  exact ⟨by rw [len_rep,Nat.mul_comm,<- dH];exact hz,_,r',IsTup.new _ _⟩
 by_cases c1:(its.toArray.isEmpty||k==1)=true
 ·refine call_meets OP ⟨_,ho,rfl⟩ F.entry_tuple_mul (F.args_tuple_mul_2 _ _) (qm l its.toArray n dd sl k t h1 h2 c1) ⟨ho,⟨.ref l,H,I,rfl,q1 ?_⟩⟩
  rcases Bool.or_eq_true_iff.mp c1 with z|z
  ·have e:its=[]:=by simpa using z
   subst e
   have e2:xs=[]:=O3.mp hl
   subst e2
   simp
  ·have e:k=1:=by simpa using z
   subst e
   simp
 ·have c1':(its.toArray.isEmpty||k==1)=false:=by simpa using c1
  by_cases c2:(decide (k<=0)||its.toArray.isEmpty)=true
  ·refine call_meets OP ⟨_,ho,rfl⟩ F.entry_tuple_mul (F.args_tuple_mul_2 _ _) (qo l its.toArray n dd sl k t h1 h2 c1' c2) ⟨ho,new [] ?_⟩
   have hk:k<=0:=by
    rcases Bool.or_eq_true_iff.mp c2 with z|z
    ·simpa using z
    ·rw [z] at c1';cases c1'
   have hk0:k.toNat=0:=by omega
   rw [hk0];exact .nil
  ·have c2':(decide (k<=0)||its.toArray.isEmpty)=false:=by simpa using c2
   have hk:0<k:=by
    have:=(Bool.or_eq_false_iff.mp c2').1
    simpa using this
   have hs:(its.toArray.size:Int)*k<=16777216:=by
    have e1:(its.toArray.size:Int)*k=((xs.length*k.toNat:Nat):Int):=by
     rw [MB,<- hl,Pd,Oz #[0]]
    rw [e1]
    have:xs.length*k.toNat<=16777216:=hz
    omega
   have hs2:(List.foldl #[177] #[] (List.replicate k.toNat its.toArray)).size<=sizeLine:=by
    rw [rg,MB,len_rep,Nat.mul_comm,<- hl,<- dH];exact hz
   refine call_meets OP ⟨_,ho,rfl⟩ F.entry_tuple_mul (F.args_tuple_mul_2 _ _) (qp l its.toArray n dd sl k t h1 h2 c1' c2' hs hs2) ⟨ho,?_⟩
   rw [rg]
   exact new _ (r.rep k.toNat)
theorem Ka (m:Bool):bY X (binaryOp .Mult) (mr fa X.K m .mul):=by
 intro pins s σ H x y v u Q I rx ry h
 obtain ⟨μ,M,dx,dy,hM,h1,h2,h⟩:=h
 have hi:∀i j,dx=.int i->dy=.int j->wpAny #[2] X.A (binaryOp .Mult v u) #[27] X.xe s:=fun i j e1 e2=>by
  subst e1 e2
  have h:ai (if (-(2^64)<i/\i<2^64)\/(-(2^64)<j/\j<2^64) then .ok (.int (i*j)) M else .bad) #[18]:=h
  split at h
  ·next c=>exact G7 pins s σ H x y v u Q I rx ry ⟨i,j,h1,h2,c,bf (v:=.int (i*j)) hM h rfl⟩
  ·exact h.elim
 have ht:∀i j,dx=.tup i->dy=.int j->wpAny #[2] X.A (binaryOp .Mult v u) #[27] X.xe s:=fun i j e1 e2=>by
  subst e1 e2
  have h:ai (if i.length*j.toNat<=sz/\-(2^63)<=j/\j<2^63 then .ok (.tup (List.replicate j.toNat i).flatten) M else .bad) #[18]:=h
  split at h
  ·next c=>
   have h:bp fa X.K μ H Q (.tup (List.replicate j.toNat i).flatten) M:=h
   obtain ⟨a,vs,e1,ha,ra⟩:=id h1
   refine EL pins s σ H x y v u Q I rx ry ⟨a,j,vs,e1,h2,ha,c.2.1,c.2.2,by rw [ra.length];exact c.1,fun z=>?_,gL hM (ra.rep j.toNat) h⟩
   refine bf hM h ⟨a,vs,rfl,ha,?_⟩
   have:=ra.rep j.toNat
   rw [z] at this
   exact this
  ·exact h.elim
 have hl:∀j,dy=.int j->ai (match jW M dx with|some x=>if x.length*j.toNat<=sz/\-(2^63)<=j/\j<2^63 then bG m #[109].flatten M else .bad|none=>.bad) #[18]->
  wpAny #[2] X.A (binaryOp .Mult v u) #[27] X.xe s:=fun j e1 h'=>by
  subst e1
  exact Bt (m:=m) I hM h1 h2 rx ry h'
 cases dy with
 |int j=>cases dx<;>first|exact hi _ _ rfl rfl|exact ht _ _ rfl rfl|exact hl _ rfl h
 |_=>cases dx<;>exact h.elim
def binOp:lA->Operator
 |.add=>.Add|.sub=>.Sub|.mul=>.Mult|.fdiv=>.FloorDiv|.mod=>.Mod|.pow=>.Pow
theorem Kc (m:Bool):∀o:lA,bY X (binaryOp (binOp o)) (mr fa X.K m o)
 |.add=>Kd m|.sub=>J8 m|.mul=>Ka m|.fdiv=>Iu m|.mod=>Kb m|.pow=>J9 m
end
end LD
namespace LD
open PySem PySem.Spec PyProof.Rows L2
section
variable {fa:Fa}{X:Cx}{μ:Mu}{H:Hp}{σ:L2.St}{pins:List #[15]}{s:Mx}{M:Mem}
theorem HE {r r':R2}(h:lu X r)(i:∀x y H Q,r' x y H Q->r x y H Q):lu X r':=fun value slice pins s σ H x y v u Q I rx ry q hs=>h value slice pins s σ H x y v u Q I rx ry (i x y H Q q) hs
def Lh (fa:Fa)(K:Mr):R2:=fun x y H Q=>∃μ M dx dy d,RelM fa K μ H M/\Rep fa K μ H dx x/\Rep fa K μ H dy y/\cu dx dy M=some d/\bp fa K μ H Q d M
theorem um (n:Nat)(i:Int):LD.bB n i=L2.bB n i:=rfl
theorem JD:lu X (Lh fa X.K):=HE HC fun x y H Q h=>by
 obtain ⟨μ,M,dx,dy,d,hM,h1,h2,e,q⟩:=h
 have gen:∀i,dy=.int i->((bZ M dx).bind fun ds=>(LD.bB ds.length i).bind fun j=>ds[j]?)=some d->Gz X.K x y H Q:=fun i e0 e'=>by
  subst e0
  clear e
  have e:=e'
  clear e'
  cases e1:bZ M dx with
  |none=>rw [e1] at e;cases e
  | some ds =>
    rw [e1,NZ] at e
    obtain ⟨a,vs,rfl,hq,r⟩:=jS hM h1 e1
    cases e2:LD.bB ds.length i with
    |none=>rw [e2] at e;cases e
    | some j =>
      rw [e2,NZ] at e
      obtain ⟨v,hv,rv⟩:=r.get e
      have he:rX vs i=some v:=by
       unfold rX
       rw [r.length,<- um,e2];exact hv
      rcases hq with hq|hq
      ·exact .inl ⟨a,vs,i,v,rfl,h2,hq,he,bf hM q rv⟩
      ·exact .inr (.inl ⟨a,vs,i,v,rfl,h2,hq,he,bf hM q rv⟩)
 have str:∀z i,dx=.str z->dy=.int i->Gz X.K x y H Q:=fun z i e1 e2=>by
  subst e1 e2
  have e:(if z.cps.size<=sz then (LD.bB z.cps.size i).bind fun j=>(z.cps[j]?).map fun c=>D.str ⟨#[c]⟩ else none)=some d:=e
  split at e
  ·next hz=>
   cases e2:LD.bB z.cps.size i with
   |none=>rw [e2] at e;cases e
   | some j =>
     rw [e2,NZ] at e
     cases e3:z.cps[j]? with
     |none=>rw [e3] at e;cases e
     | some c =>
       rw [e3] at e
       have e4:D.str ⟨#[c]⟩=d:=MA e
       subst e4
       refine .inr (.inr ⟨z,i,c,h1,h2,by rw [<- dH];exact hz,?_,bf hM q rfl⟩)
       unfold rX
       rw [show z.cps.toList.length=z.cps.size by simp,<- um,e2]
       simpa using e3
  ·cases e
 cases dy with
 |int i=>cases dx<;>first|exact str _ _ rfl rfl|exact gen _ rfl e
 |_=>cases dx<;>cases (show (none:Option D)=some d from e)
theorem Ga {r r':V->Option Int->Option Int->Hp->VK->Prop}(h:md X r)(i:∀x lo hi H Q,r' x lo hi H Q->r x lo hi H Q):md X r':=fun pins s σ H x v vl vu lo hi sl Q I rx hs pl pu q=>h pins s σ H x v vl vu lo hi sl Q I rx hs pl pu (i x lo hi H Q q)
def pe:D->Option (Option Int)
 |.non=>some none
 |.int i=>some (some i)
 |_=>none
theorem n5 (n d:Nat)(x:D):LD.aS n d x=(pe x).map (HT.aS n d):=by
 cases x<;>rfl
theorem tL:md X (fun x lo hi H Q=>∃a xs,x=.ref a/\dO X.K H a xs/\#[91]/\Q (.ref a) H):=by
 intro pins s σ H x v vl vu lo hi sl Q I rx hs pl pu h
 obtain ⟨a,xs,rfl,hx,hw,q⟩:=h
 cases rx
 obtain ⟨its,r,ht,hz⟩:=I.tuple hx
 refine ⟨"tuple",_,Na.lookup,ht.typeIs,?_⟩
 have hlen:its.toArray.size=xs.length:=by rw [MB];exact r.length.symm
 rw [<- hlen] at hw
 obtain ⟨os,hos,hcs,hds⟩:=id hs
 have hTs:s.TypeIs (.ref sl) "slice":=⟨os,hos,hcs⟩
 unfold getItem
 try with_reducible refine tqo ?_
 first|refine tqa (tqb ?_)|skip
 refine tqa #[129]
 refine tqa (wpAny_callSpecial?_slot (name:=Str.ofString "__getitem__") ht.typeIs Na
  #[40])
 show wpAny _ _ (Builtin.Tuple.tupleItemsOf (.ref a) >>= _) _ _ s
 refine tqa (tupleItemsOf_ ht ?_)
 refine tqa (wpAny_typeOf hTs ?_)
 rw [if_pos #[1]]
 refine tqa (HT.jM hs pl pu ?_)
 have hyes:#[68]=true:=by
  rw [hw.1,hw.2];simp
 show wpAny _ _ (if #[68]=true then _ else _) _ _ s
 rw [if_pos hyes]
 refine tqa (m:=Builtin.Tuple.tupleIsExact (.ref a)) ?_
 unfold Builtin.Tuple.tupleIsExact
 refine tqa (wpAny_typeOf ht.typeIs ?_)
 refine tqb ?_
 rw [if_pos #[1]]
 exact tqa (wpAny_rule (tqb ⟨_,rfl,tqb ⟨.ref a,H,I,rfl,q⟩⟩))
def Lf (fa:Fa)(K:Mr)(m:Bool):V->Option Int->Option Int->Hp->VK->Prop:=fun x lo hi H Q=>∃μ M dx dl dh,RelM fa K μ H M/\Rep fa K μ H dx x/\pe dl=some lo/\pe dh=some hi/\ai (eG m dx dl dh M) #[216]
theorem Ef (m:Bool):md X (Lf fa X.K m):=by
 refine Ga (Eg.or (F8.or tL)) fun x lo hi H Q h=>?_
 obtain ⟨μ,M,dx,dl,dh,hM,h1,e1,e2,h⟩:=h
 have gen:ai (match fS M dx with
  | some xs => match LD.aS xs.length 0 dl, LD.aS xs.length xs.length dh with
    |some l,some h=>bG m #[332] M
    |_,_=>.bad
  |none=>.bad) #[18]->Gu X.K x lo hi H Q:=fun h=>by
  cases e:fS M dx with
  |none=>rw [e] at h;exact h.elim
  | some xs =>
    rw [e] at h
    simp only [n5,e1,e2,ON] at h
    obtain ⟨a,vs,rfl,hq,r⟩:=bW hM h1 e
    have hl:=r.length
    obtain ⟨_,k⟩:=gM hM ((r.drop #[120]).take #[46]) h
    refine ⟨a,vs,rfl,hq,?_⟩
    unfold mI
    rw [hl]
    exact k
 have tup:∀xs,dx=.tup xs->Gs X.K x lo hi H Q\/∃a xs,x=.ref a/\dO X.K H a xs/\#[91]/\Q (.ref a) H:=fun xs e=>by
  subst e
  have h:ai (match LD.aS xs.length 0 dl,LD.aS xs.length xs.length dh with
   |some l,some h=>.ok (.tup #[332]) M
   |_,_=>.bad) #[18]:=h
  simp only [n5,e1,e2,ON] at h
  have h:bp fa X.K μ H Q (.tup (cut xs #[120] (HT.aS xs.length xs.length hi))) M:=h
  obtain ⟨a,vs,rfl,hq,r⟩:=h1
  have hl:=r.length
  by_cases hw:HT.aS vs.length 0 lo=0/\HT.aS vs.length vs.length hi=vs.length
  ·refine .inr ⟨a,vs,rfl,hq,hw,?_⟩
   rw [hl] at hw
   have e3:cut xs #[120] (HT.aS xs.length xs.length hi)=xs:=by rw [hw.1,hw.2];simp [cut]
   rw [e3] at h
   exact bf hM h ⟨a,vs,rfl,hq,r⟩
  ·refine .inl ⟨a,vs,rfl,hq,hw,?_⟩
   have k:=gL hM ((r.drop #[120]).take #[46]) h
   unfold mI
   rw [hl]
   exact k
 cases dx<;>first|exact .inr (tup _ rfl)|exact .inl (gen h)
def qg (fa:Fa)(K:Mr)(f:u7):List V->Hp->VK->Prop:=fun vs H Q=>∃μ M ds,RelM fa K μ H M/\aT fa K μ H ds vs/\ai (eV f ds M) #[216]
theorem oY {d:D}{vs:List V}{K:Mr}(h:aT fa K μ H [d] vs):∃v,vs=[v]/\Rep fa K μ H d v:=by
 obtain ⟨v,r,rfl,h1,h2⟩:=h
 obtain rfl:r=[]:=h2
 exact ⟨v,rfl,h1⟩
theorem JJ:di X (.builtin "len") (qg fa X.K .len):=l4 (uP.or uO) fun vs H Q h=>by
 obtain ⟨μ,M,ds,hM,r,h⟩:=h
 match ds,r,h with
 |[],_,h=>exact h.elim
 |d::_::_,_,h=>cases d<;>exact h.elim
 | [d], r, h =>
   obtain ⟨v,rfl,hv⟩:=oY r
   have gen:ai (match bZ M d with|some xs=>.ok #[263] M|none=>.bad) #[18]->∃p ys,[v]=[.ref p]/\#[330]/\Q (.int ys.length) H:=fun h=>by
    cases e:bZ M d with
    |none=>rw [e] at h;exact h.elim
    | some xs =>
      rw [e] at h
      obtain ⟨a,vs,rfl,hq,r⟩:=jS hM hv e
      refine ⟨a,vs,rfl,hq,?_⟩
      rw [r.length]
      exact bf (v:=.int xs.length) hM h rfl
   have str:∀x,d=.str x->∃z,[v]=[V.str z]/\z.length<=sizeLine/\Q (.int z.length) H:=fun x e=>by
    subst e
    have h:ai (if x.cps.size<=sz then .ok (.int x.cps.size) M else .bad) #[18]:=h
    split at h
    ·next c=>exact ⟨x,by rw [show v=.str x from hv],by rw [<- dH];exact c,bf (v:=.int x.cps.size) hM h rfl⟩
    ·exact h.elim
   cases d<;>first|exact .inr (str _ rfl)|exact .inl (gen h)
theorem E5:di X (.type "tuple") (qg fa X.K .tuple):=l4 sj fun vs H Q h=>by
 obtain ⟨μ,M,ds,hM,r,h⟩:=h
 match ds,r,h with
 |[],_,h=>exact h.elim
 |d::_::_,_,h=>cases d<;>exact h.elim
 | [d], r, h =>
   obtain ⟨v,rfl,hv⟩:=oY r
   have gen:ai (match fS M d with|some xs=>.ok (.tup xs) M|none=>.bad) #[18]->∃p ys,[v]=[.ref p]/\#[47]:=fun h=>by
    cases e:fS M d with
    |none=>rw [e] at h;exact h.elim
    | some xs =>
      rw [e] at h
      obtain ⟨a,vs,rfl,hq,r⟩:=bW hM hv e
      exact ⟨a,vs,rfl,.inl ⟨hq,gL hM r h⟩⟩
   have tup:∀x,d=.tup x->∃p ys,[v]=[.ref p]/\#[47]:=fun x e=>by
    subst e
    obtain ⟨a,vs,rfl,hq,r⟩:=id hv
    exact ⟨a,vs,rfl,.inr ⟨hq,bf hM h hv⟩⟩
   cases d<;>first|exact tup _ rfl|exact gen h
theorem HN (m:Bool):di X (.type "list") (qg fa X.K (.list m)):=l4 uN fun vs H Q h=>by
 obtain ⟨μ,M,ds,hM,r,h⟩:=h
 match ds,r,h with
 |[],_,h=>exact h.elim
 |_::_::_,_,h=>exact h.elim
 | [d], r, h =>
   obtain ⟨v,rfl,hv⟩:=oY r
   have h:ai (match bZ M d with|some xs=>bG m xs M|none=>.bad) #[18]:=h
   cases e:bZ M d with
   |none=>rw [e] at h;exact h.elim
   | some xs =>
     rw [e] at h
     obtain ⟨a,vs,rfl,hq,r⟩:=jS hM hv e
     obtain ⟨_,k⟩:=gM hM r h
     exact ⟨a,vs,rfl,hq,k⟩
end
end LD
namespace LD
open PySem PySem.Spec PyProof.Rows L2
section
variable {fa:Fa}{X:Cx}{μ:Mu}{H:Hp}{σ:L2.St}{pins:List #[15]}{s:Mx}{M:Mem}
theorem KP {d:D}{v:V}{k:Bool}(hM:RelM fa X.K μ H M)(h:Rep fa X.K μ H d v)(e:kK M d=some k):Cr X.K v H k:=by
 cases d with
 |non=>obtain rfl:v=.non:=h;exact (MA e).symm
 |bl b=>obtain rfl:v=.bl b:=h;exact (MA e).symm
 |int i=>obtain rfl:v=.int i:=h;exact (MA e).symm
 | str x =>
   obtain rfl:v=.str x:=h
   have e:(if x.cps.size<=sz then some (x.cps.size != 0) else none)=some k:=e
   split at e
   ·next c=>
    refine ⟨by rw [<- dH];exact c,?_⟩
    rw [<- MA e]
    show (x.cps.size != 0)=((x.cps.size:Int) != 0)
    rw [N8];simp
   ·cases e
 | tup ds =>
   obtain ⟨a,vs,rfl,hq,r⟩:=h
   refine .inr (.inl ⟨vs,hq,?_⟩)
   rw [<- MA e]
   have:=r.length
   cases vs<;>cases ds<;>simp_all
 | lst ds =>
   obtain ⟨a,vs,rfl,hq,r⟩:=bW (ds:=ds) hM h rfl
   refine .inl ⟨vs,hq,?_⟩
   rw [<- MA e]
   have:=r.length
   cases vs<;>cases ds<;>simp_all
 | frz ds =>
   obtain ⟨a,vs,rfl,hq,r⟩:=bW (ds:=ds) hM h rfl
   refine .inl ⟨vs,hq,?_⟩
   rw [<- MA e]
   have:=r.length
   cases vs<;>cases ds<;>simp_all
 | cell c =>
   have e:(M[c]?).map (fun ds=>!ds.isEmpty)=some k:=e
   cases e1:M[c]? with
   |none=>rw [e1] at e;cases e
   | some ds =>
     rw [e1] at e
     obtain ⟨a,vs,rfl,hq,r⟩:=bW (ds:=ds) hM h e1
     refine .inl ⟨vs,hq,?_⟩
     rw [<- MA e]
     have:=r.length
     cases vs<;>cases ds<;>simp_all
 |fn f=>cases e
 |exc y p=>cases e
theorem mq:∀{ds:List D}{bs:List Bool}{vs:List V}{us:List Mq},boolsOf ds=some bs->aT fa X.K μ H ds vs->Vals vs us->PyProof.Rows.LSm.BoolsAre us bs:=by
 intro ds
 induction ds with
 | nil =>
   intro bs vs us e h r
   obtain rfl:vs=[]:=h
   cases r;cases e
   exact .nil
 | cons d ds ih =>
   intro bs vs us e h r
   obtain ⟨v,vr,rfl,h1,h2⟩:=h
   cases r with
   | cons r1 r2 =>
     cases d with
     | bl b =>
       have e:(boolsOf ds).map (b::·)=some bs:=e
       cases e1:boolsOf ds with
       |none=>rw [e1] at e;cases e
       | some cs =>
         rw [e1] at e
         have e2:b::cs=bs:=MA e
         subst e2
         obtain rfl:v=.bl b:=h1
         obtain rfl:_=Value.bool b:=r1
         exact .cons b (ih e1 h2 r2)
     |_=>cases e
theorem qG:di X (.builtin "all") (fun xs H Q=>∃μ ds bs p vs,xs=[.ref p]/\X.calm=true/\c9 X.K H p vs/\aT fa X.K μ H ds vs/\boolsOf ds=some bs/\Q (.bl (bs.all id)) H):=by
 intro pins s σ H xs us Q I r h
 obtain ⟨μ,ds,bs,p,vs,rfl,hc,hq,rl,eb,q⟩:=h
 obtain ⟨u,rfl,rx⟩:=vals1 r
 cases rx
 obtain ⟨its,rv,pl,hz⟩:=I.list hq
 have hb:=mq eb rl rv
 have hlt:p<s.heap.objs.size:=pl.lt
 refine call_all_walk (wpAny_pyIter_list pl.isList ?_)
 refine ⟨s.heap.objs.size,[s.heap.objs.size,p],[s.heap.objs.size],its.toArray.size,_,_,fun i=>(bs[i]?).getD true,rfl,Walks.list (A:=X.A.in1) #[176] _ p (Nt hlt) its.toArray,
  ⟨⟨_,MG _ rfl,rfl,rfl⟩,pl.isList.push _⟩,fun i v s' Q' E' hP hQ=>?_,fun h' tk hk=>?_⟩
 ·obtain ⟨b,e,rfl⟩:=hb.get i v (by simpa using hP)
  simp only [e,Nk] at hQ
  exact tqp hQ
 ·have e:((List.range its.toArray.size).all fun i=>(bs[i]?).getD true)=bs.all id:=by
   rw [MB,hb.length];exact PyProof.Rows.LSm.range_all bs
  rw [e]
  exact ⟨.bl _,H,I.kept (PyProof.Rows.LSm.kept_iter hk),rfl,q⟩
theorem JK (hc:X.calm=true):di X (.builtin "all") (qg fa X.K .all):=l4 (qG (fa:=fa)) fun vs H Q h=>by
 obtain ⟨μ,M,ds,hM,r,h⟩:=h
 match ds,r,h with
 |[],_,h=>exact h.elim
 |d::_::_,_,h=>exact h.elim
 | [d], r, h =>
   obtain ⟨v,rfl,hv⟩:=oY r
   have h:ai (match fS M d with|some xs=>(match boolsOf xs with|some bs=>.ok (.bl (bs.all id)) M|none=>.bad)|none=>.bad) #[18]:=h
   cases e:fS M d with
   |none=>rw [e] at h;exact h.elim
   | some xs =>
     rw [e] at h
     simp only at h
     cases e2:boolsOf xs with
     |none=>rw [e2] at h;exact h.elim
     | some bs =>
       rw [e2] at h
       obtain ⟨a,vs,rfl,hq,r⟩:=bW hM hv e
       exact ⟨μ,xs,bs,a,vs,rfl,hc,hq,r,e2,bf (v:=.bl (bs.all id)) hM h rfl⟩
def tyName:Ty->String
 |.int=>"int" | .bool=>"bool" | .str=>"str" | .tuple=>"tuple" | .list=>"list" | .own _=>""
def Kh:D->String
 |.non=>"NoneType" | .bl _=>"bool" | .int _=>"int" | .str _=>"str" | .tup _=>"tuple" | _=>"list"
theorem IT (t:Ty)(d:D)(b:Bool)(ht:∀c,t≠.own c)(e:bN t d=some b):PySem.W.kitOne X.K (.type (Kh d)) (.type (tyName t))=some b:=by
 cases t with
 |own c=>exact absurd rfl (ht c)
 |_=>cases d<;>first|(cases (show (none:Option Bool)=some b from e))|(have e':=MA e;subst e';(first|rfl|decide +kernel))
theorem AX {d:D}{v:V}{b:Bool}{t:Ty}(hM:RelM fa X.K μ H M)(h:Rep fa X.K μ H d v)(e:bN t d=some b)(I:Inv X pins σ H s){u c:Mq}(r:RelV v u){Q:Mq->Mx->Prop}
 (ek:PySem.W.kitOne X.K (.type (Kh d)) c=some b) (q:∀tk,Q (.bool b) {s with toks:=tk}):wpAny #[2] X.A (call #[58] [u,c]) Q X.xe s:=by
 cases d with
 |non=>obtain rfl:v=.non:=h;exact kr I r .non ek q
 |bl x=>obtain rfl:v=.bl x:=h;exact kr I r (.bl x) ek q
 |int x=>obtain rfl:v=.int x:=h;exact kr I r (.int x) ek q
 |str x=>obtain rfl:v=.str x:=h;exact kr I r (.str x) ek q
 | tup ds =>
   obtain ⟨a,vs,rfl,hq,_⟩:=h
   obtain rfl:u=Value.ref a:=r
   obtain ⟨its,rv,⟨o,h1,h2,_⟩,_⟩:=I.tuple hq
   exact Ny PySem.W.kitx_tuple I.kIn ⟨o,h1,h2⟩ ek #[20] q
 | lst ds =>
   obtain ⟨a,vs,rfl,hq,_⟩:=bW (ds:=ds) hM h rfl
   obtain rfl:u=Value.ref a:=r
   obtain ⟨its,rv,⟨o,n,h1,h2,_⟩,_⟩:=I.list hq
   exact Ny OF I.kIn ⟨o,h1,h2⟩ ek #[20] q
 | frz ds =>
   obtain ⟨a,vs,rfl,hq,_⟩:=bW (ds:=ds) hM h rfl
   obtain rfl:u=Value.ref a:=r
   obtain ⟨its,rv,⟨o,n,h1,h2,_⟩,_⟩:=I.list hq
   exact Ny OF I.kIn ⟨o,h1,h2⟩ ek #[20] q
 | cell k =>
   obtain ⟨a,rfl,hk⟩:=h
   obtain ⟨ds,vs,_,hq,_⟩:=hM.mu_lt hk
   obtain rfl:u=Value.ref a:=r
   obtain ⟨its,rv,⟨o,n,h1,h2,_⟩,_⟩:=I.list (c9.of hq)
   exact Ny OF I.kIn ⟨o,h1,h2⟩ ek #[20] q
 |fn f=>cases e
 |exc y p=>cases e
def Ji (fa:Fa)(K:Mr)(t:Ty):List V->Hp->VK->Prop:=fun vs H Q=>∃μ M d v b,vs=[v,.ty (tyName t)]/\RelM fa K μ H M/\Rep fa K μ H d v/\bN t d=some b/\Q (.bl b) H
theorem HP (t:Ty)(ht:∀c,t≠.own c):di X #[58] (Ji fa X.K t):=by
 intro pins s σ H xs us Q I r h
 obtain ⟨μ,M,d,v,b,rfl,hM,hv,e,q⟩:=h
 obtain ⟨u,w,rfl,r1,r2⟩:=vals2 r
 obtain rfl:w=Value.type (tyName t):=r2
 exact AX hM hv e I r1 (IT t d b ht e) fun tk=>⟨.bl b,H,I.tok _,rfl,q⟩
end
end LD
namespace LD
open PySem PySem.Spec PyProof.Rows L2
section
variable {fa:Fa}{X:Cx}
abbrev DE (fa:Fa)(X:Cx)(e:Expr)(g:Env->Mem->Res D):Prop:=PE X e (tE fa X.K g)
abbrev DT (fa:Fa)(X:Cx)(e:Expr)(g:Env->Mem->Res Bool):Prop:=PT X e (tT fa X.K g)
abbrev DW (fa:Fa)(X:Cx)(e:Expr)(g:Env->Mem->Res Bool):Prop:=PW X e (tT fa X.K g)
abbrev DA (fa:Fa)(X:Cx)(es:List Expr)(g:Env->Mem->Res (List D)):Prop:=PA X es (tA fa X.K g)
abbrev DS (fa:Fa)(X:Cx)(st:Stmt)(g:Env->Mem->Res Fl):Prop:=PS X st (tF fa X g)
abbrev kJ (fa:Fa)(X:Cx)(st:List Stmt)(g:Env->Mem->Res Fl):Prop:=mT X st (tF fa X g)
variable {a b d:Expr}{ga gb gd:Env->Mem->Res D}{pos:Pos}
theorem JR {i:Nat}{x:Str}(hN:X.N[i]?=some x)(hv:rZ X.env.scope x)(hd:#[6]=false)(hcd:#[169]=false) :
 DE fa X #[248] (fun Z M=>cV M (Z[i]?.getD none)):=bK (pd hN hv hd hcd) fun σ H Q ⟨μ,Z,M,hE,hM,h⟩=>by
 obtain ⟨d,e,w⟩:=nh h
 have e':Z[i]?=some (some d):=by
  cases q:Z[i]? with
  |none=>rw [q] at e;cases e
  |some o=>rw [q] at e;simp at e;rw [e]
 obtain ⟨v,h1,h2⟩:=hE.at' i d e'
 exact ⟨v,h1,bf hM w h2⟩
theorem lg {e:Expr}{dc:D}{v:V}(h:PE X e (tC v))(r:∀μ H,Rep fa X.K μ H dc v):DE fa X e (fun _ M=>.ok dc M):=bK h fun σ H Q ⟨μ,Z,M,hE,hM,h⟩=>bf hM h (r μ H)
theorem J0 {i:Int}{j:Nat}:DE fa X (.Constant (.int i) j pos) (fun _ M=>.ok (.int i) M):=lg (v:=.int i) zc fun _ _=>rfl
theorem Im {i:Bool}{j:Nat}:DE fa X (.Constant (.bool i) j pos) (fun _ M=>.ok (.bl i) M):=lg (v:=.bl i) wR fun _ _=>rfl
theorem JT {i:Str}{j:Nat}:DE fa X (.Constant (.str i) j pos) (fun _ M=>.ok (.str i) M):=lg (v:=.str i) GR fun _ _=>rfl
theorem JW {j:Nat}:DE fa X (.Constant .none j pos) (fun _ M=>.ok .non M):=lg (v:=.non) GZ fun _ _=>rfl
theorem t2 {μ:Mu}{H:Hp}{σ:L2.St}{Z:Env}{M:Mem}{β:Type}{f:D->D->Mem->Res β}{P:β->Mem->Prop}{R:V->V->Hp->Prop}(hE:bz fa X.K μ H σ Z)(hM:RelM fa X.K μ H M)
 (h:ai ((ga Z M).bind fun x M=>(gb Z M).bind fun y M=>f x y M) P)
 (k:∀x y M2 v u H2 μ2,Ext μ H μ2 H2->bz fa X.K μ2 H2 σ Z->RelM fa X.K μ2 H2 M2->Rep fa X.K μ2 H2 x v->Rep fa X.K μ2 H2 y u->ai (f x y M2) P->R v u H2) :
 tE fa X.K ga σ H fun v H1=>tE fa X.K gb σ H1 fun u H2=>R v u H2:=
 t1 hE hM h fun x M1 v H1 μ1 x1 hE1 hM1 r1 h1=>t1 hE1 hM1 h1 fun y M2 u H2 μ2 x2 hE2 hM2 r2 h2=>k x y M2 v u H2 μ2 (x1.trans x2) hE2 hM2 (r1.ext x2) r2 h2
theorem J3 (m:Bool)(o:lA)(ha:DE fa X a ga)(hb:DE fa X b gb):DE fa X (.BinOp a (binOp o) b pos) (fun Z M=>(ga Z M).bind fun x M=>(gb Z M).bind fun y M=>eW m o x y M):=
 bK (Jo (Kc m o) ha hb) fun σ H Q ⟨μ,Z,M,hE,hM,h⟩=>t2 hE hM h fun x y M2 v u H2 μ2 x2 hE2 hM2 r1 r2 h2=>⟨μ2,M2,x,y,hM2,r1,r2,ki h2 x2⟩
theorem pj {r:Option Bool}{M:Mem}{P:D->Mem->Prop}(h:ai ((cV M r).bind fun b M=>.ok (.bl b) M) P):∃b,r=some b/\P (.bl b) M:=by
 obtain ⟨b,M1,e,q⟩:=aW h
 cases r with
 |none=>cases e
 |some b'=>cases e;exact ⟨_,rfl,q⟩
theorem Dl (hu:Rm X)(o:j7)(ha:DE fa X a ga)(hb:DE fa X b gb)(hm:behindInMarks (fU o) b=false) :
 DE fa X (.Compare a [fU o] [b] pos) (fun Z M=>(ga Z M).bind fun x M=>(gb Z M).bind fun y M=>#[137].bind fun b M=>.ok (.bl b) M):=
 bK (vG (nF hu o) ha hb hm) fun σ H Q ⟨μ,Z,M,hE,hM,h⟩=>t2 hE hM h fun x y M2 v u H2 μ2 x2 hE2 hM2 r1 r2 h2=>by
  obtain ⟨b,e,q⟩:=pj h2
  exact ⟨μ2,M2,x,y,b,hM2,r1,r2,e,bf (v:=.bl b) hM2 (q.ext x2) rfl⟩
theorem zR (hu:Rm X)(o:j7)(ha:DE fa X a ga)(hb:DE fa X b gb)(hm:behindInMarks (fU o) b=false) :
 DT fa X (.Compare a [fU o] [b] pos) (fun Z M=>#[186].bind fun x M=>cV M (kK M x)):=
 kT (qh (nF hu o) ha hb hm) fun σ H Q ⟨μ,Z,M,hE,hM,h⟩=>by
  obtain ⟨z,M3,e,q⟩:=aW h
  have h':ai #[186] (fun d M=>d=z/\M=M3):=by rw [e];exact ⟨rfl,rfl⟩
  refine t2 hE hM h' fun x y M2 v u H2 μ2 x2 hE2 hM2 r1 r2 h2=>?_
  obtain ⟨b,e1,e2,e3⟩:=pj h2
  subst e2 e3
  exact ⟨μ2,M2,x,y,b,hM2,r1,r2,e1,b,rfl,q H2 μ2 x2 hM2⟩
theorem D4 {g:Env->Mem->Res D}{σ:L2.St}{H:Hp}{Q:Bool->Hp->Prop}(hb:∀Z M x M',g Z M=.ok x M'->∃k,x=.bl k)(h:tT fa X.K (fun Z M=>(g Z M).bind fun x M=>cV M (kK M x)) σ H Q) :
 tE fa X.K g σ H (fun x H'=>∃k,x=.bl k/\Q k H'):=by
 obtain ⟨μ,Z,M,hE,hM,h⟩:=h
 obtain ⟨x,M1,e,q⟩:=aW h
 obtain ⟨k,rfl⟩:=hb Z M x M1 e
 refine ⟨μ,Z,M,hE,hM,?_⟩
 rw [e]
 intro v H1 μ1 x1 m1 r1
 obtain rfl:v=.bl k:=r1
 exact ⟨k,rfl,q H1 μ1 x1 m1⟩
theorem Dc {o o':j7}{gc:Env->Mem->Res D}(σ:L2.St)(H:Hp)(Q:VK):tE fa X.K (fun Z M=>(ga Z M).bind fun x M=>(gb Z M).bind fun y M=>#[137].bind fun k M=>
 if k then (gc Z M).bind fun z M=>(cV M (bx o' y z M)).bind fun b M=>.ok (.bl b) M else .ok #[99] M) σ H Q->td (hZ fa X.K o) (hZ fa X.K o') (tE fa X.K ga) (tE fa X.K gb) (tE fa X.K gc) σ H Q:=fun ⟨μ,Z,M,hE,hM,h⟩=>by
 refine t2 hE hM h fun x y M2 v u H2 μ2 x2 hE2 hM2 r1 r2 h2=>?_
 obtain ⟨k,M3,e,q⟩:=aW h2
 cases ec:bx o x y M2 with
 |none=>rw [ec] at e;cases e
 | some k' =>
   rw [ec] at e
   cases e
   refine ⟨μ2,_,x,y,k,hM2,r1,r2,ec,k,rfl,?_⟩
   cases k with
   |false=>exact bf (v:=.bl false) hM2 (bp.ext q x2) rfl
   | true =>
     refine t1 hE2 hM2 q fun z M4 w H4 μ4 x4 hE4 hM4 r4 h4=>?_
     obtain ⟨b,e4,q4⟩:=pj h4
     exact ⟨μ4,M4,y,z,b,hM4,r2.ext x4,r4,e4,bf (v:=.bl b) hM4 (q4.ext (x2.trans x4)) rfl⟩
theorem J2 (hu:Rm X)(o o':j7){gc:Env->Mem->Res D}(ha:DE fa X a ga)(hb:DE fa X b gb)(hc:DE fa X d gc)(hm:lastMarks [fU o,fU o'] [b,d]=false) :
 DE fa X (.Compare a [fU o,fU o'] [b,d] pos) (fun Z M=>(ga Z M).bind fun x M=>(gb Z M).bind fun y M=>#[137].bind fun k M=>
  if k then (gc Z M).bind fun z M=>(cV M (bx o' y z M)).bind fun b M=>.ok (.bl b) M else .ok #[99] M):=bK (BC (nF hu o) (nF hu o') ha hb hc hm) Dc
theorem BE {r:Option Bool}{M M':Mem}{x:D}(h:((cV M r).bind fun b M=>Res.ok (.bl b) M)=.ok x M'):∃k,x=.bl k:=by
 cases r with
 |none=>cases h
 |some b=>cases h;exact ⟨b,rfl⟩
theorem fD {α β:Type}{r:Res α}{f:α->Mem->Res β}{x:β}{M:Mem}(h:r.bind f=.ok x M):∃a M1,r=.ok a M1/\f a M1=.ok x M:=by
 cases r with
 |ok a M1=>exact ⟨a,M1,rfl,h⟩
 |err=>cases h
 |bad=>cases h
theorem HY (hu:Rm X)(o o':j7){gc:Env->Mem->Res D}(ha:DE fa X a ga)(hb:DE fa X b gb)(hc:DE fa X d gc)(hm:lastMarks [fU o,fU o'] [b,d]=false) :
 DT fa X (.Compare a [fU o,fU o'] [b,d] pos) (fun Z M=>((ga Z M).bind fun x M=>(gb Z M).bind fun y M=>#[137].bind fun k M=>
  if k then (gc Z M).bind fun z M=>(cV M (bx o' y z M)).bind fun b M=>.ok (.bl b) M else .ok #[99] M).bind fun x M=>cV M (kK M x)):=
 kT (By (nF hu o) (nF hu o') ha hb hc hm) fun σ H Q h=>Dc σ H _ (D4 (fun Z M x M' e=>by
  obtain ⟨x1,M1,_,e⟩:=fD e
  obtain ⟨x2,M2,_,e⟩:=fD e
  obtain ⟨k,M3,_,e⟩:=fD e
  cases k with
  |false=>cases e;exact ⟨_,rfl⟩
  | true =>
    obtain ⟨x4,M4,_,e⟩:=fD e
    exact BE e) h)
theorem JX (ha:DE fa X a ga):DE fa X (.UnaryOp .USub a pos) (fun Z M=>(ga Z M).bind fun x M=>match x with|.int i=>.ok (.int (-i)) M|_=>.bad):=
 bK (CS yi ha) fun σ H Q ⟨μ,Z,M,hE,hM,h⟩=>t1 hE hM h fun x M1 v H1 μ1 x1 hE1 hM1 r1 h1=>by
  cases x with
  |int i=>exact ⟨i,r1,bf (v:=.int (-i)) hM1 #[243] rfl⟩
  |_=>exact h1.elim
theorem J4 {rest:List Expr}(ha:DE fa X a ga)(hb:DE fa X #[234] gb):DE fa X #[192] (fun Z M=>(ga Z M).bind fun x M=>match x with
 |.bl true=>gb Z M
 |.bl false=>.ok #[99] M
 |_=>.bad):=
 bK (G2 ha hb) fun σ H Q ⟨μ,Z,M,hE,hM,h⟩=>t1 hE hM h fun x M1 v H1 μ1 x1 hE1 hM1 r1 h1=>by
  cases x with
  | bl k =>
    refine ⟨k,r1,?_⟩
    cases k with
    |true=>exact ⟨μ1,Z,M1,hE1,hM1,ki h1 x1⟩
    |false=>exact bf (v:=.bl false) hM1 #[243] rfl
  |_=>exact h1.elim
theorem LQ {rest:List Expr}(ha:DE fa X a ga)(hb:DE fa X #[249] gb):DE fa X #[203] (fun Z M=>(ga Z M).bind fun x M=>match x with
 |.bl true=>.ok #[170] M
 |.bl false=>gb Z M
 |_=>.bad):=
 bK (Jn ha hb) fun σ H Q ⟨μ,Z,M,hE,hM,h⟩=>t1 hE hM h fun x M1 v H1 μ1 x1 hE1 hM1 r1 h1=>by
  cases x with
  | bl k =>
    refine ⟨k,r1,?_⟩
    cases k with
    |true=>exact bf (v:=.bl true) hM1 #[243] rfl
    |false=>exact ⟨μ1,Z,M1,hE1,hM1,ki h1 x1⟩
  |_=>exact h1.elim
theorem Dk {op:PySem.BoolOp}(ha:DE fa X a ga):DE fa X (.BoolOp op [a] pos) ga:=GX ha
theorem JV (ha:DE fa X a ga):DE fa X (.UnaryOp .Not a pos) (fun Z M=>(ga Z M).bind fun x M=>match x with|.bl k=>.ok (.bl (!k)) M|_=>.bad):=
 bK (GY ha) fun σ H Q ⟨μ,Z,M,hE,hM,h⟩=>t1 hE hM h fun x M1 v H1 μ1 x1 hE1 hM1 r1 h1=>by
  cases x with
  |bl k=>exact ⟨k,r1,bf (v:=.bl (!k)) hM1 #[243] rfl⟩
  |_=>exact h1.elim
variable {ta tb:Env->Mem->Res Bool}
theorem Ff (ha:DT fa X a ta):DW fa X (.BoolOp .And [a] pos) ta:=Ez ha
theorem HV (ha:DT fa X a ta):DW fa X (.BoolOp .Or [a] pos) ta:=GF ha
theorem Kp {b':Res Bool}{μ μ':Mu}{H H':Hp}{Q:Bool->Hp->Prop}(x:Ext μ H μ' H')(h:ai b' fun b M'=>∀H'' μ'',Ext μ H μ'' H''->RelM fa X.K μ'' H'' M'->Q b H''):ai b' fun b M'=>∀H'' μ'',Ext μ' H' μ'' H''->RelM fa X.K μ'' H'' M'->Q b H'':=
 aG h fun b M q H'' μ'' y m=>q H'' μ'' (x.trans y) m
theorem HW {rest:List Expr}(ha:DT fa X a ta)(hb:DW fa X #[234] tb):DW fa X #[192] (fun Z M=>(ta Z M).bind fun k M=>if k then tb Z M else .ok false M):=
 yW (GG ha hb) fun σ H Q ⟨μ,Z,M,hE,hM,h⟩=>yw hE hM h fun k M1 H1 μ1 x1 hE1 hM1 h1=>by
  cases k with
  |true=>exact ⟨μ1,Z,M1,hE1,hM1,Kp x1 h1⟩
  |false=>exact h1 H1 μ1 x1 hM1
theorem JO {rest:List Expr}(ha:DT fa X a ta)(hb:DW fa X #[249] tb):DW fa X #[203] (fun Z M=>(ta Z M).bind fun k M=>if k then .ok true M else tb Z M):=
 yW (Jl ha hb) fun σ H Q ⟨μ,Z,M,hE,hM,h⟩=>yw hE hM h fun k M1 H1 μ1 x1 hE1 hM1 h1=>by
  cases k with
  |true=>exact h1 H1 μ1 x1 hM1
  |false=>exact ⟨μ1,Z,M1,hE1,hM1,Kp x1 h1⟩
theorem HX (ha:DT fa X a ta):DT fa X (.UnaryOp .Not a pos) (fun Z M=>(ta Z M).bind fun k M=>.ok (!k) M):=
 kT (GI ha) fun σ H Q ⟨μ,Z,M,hE,hM,h⟩=>yw hE hM h fun k M1 H1 μ1 x1 hE1 hM1 h1=>h1 H1 μ1 x1 hM1
theorem B9 (ha:DE fa X a ga)(he:∀whole,isTrue a X.env whole=(do let v <- whole;standAt a.pos;holding [v] (truthy v))):DT fa X a (fun Z M=>(ga Z M).bind fun x M=>cV M (kK M x)):=
 kT (Bx ha he) fun σ H Q ⟨μ,Z,M,hE,hM,h⟩=>t1 hE hM h fun x M1 v H1 μ1 x1 hE1 hM1 r1 h1=>by
  obtain ⟨k,e,q⟩:=nh h1
  exact ⟨k,KP hM1 r1 e,q H1 μ1 x1 hM1⟩
theorem JZ {c:Expr}{gc:Env->Mem->Res Bool}(hc:DT fa X c gc)(ha:DE fa X a ga)(hb:DE fa X b gb):DE fa X (.IfExp c a b pos) (fun Z M=>(gc Z M).bind fun k M=>if k then ga Z M else gb Z M):=
 bK (tX hc ha hb) fun σ H Q ⟨μ,Z,M,hE,hM,h⟩=>yw hE hM h fun k M1 H1 μ1 x1 hE1 hM1 h1=>by
  cases k with
  |true=>exact ⟨μ1,Z,M1,hE1,hM1,ki h1 x1⟩
  |false=>exact ⟨μ1,Z,M1,hE1,hM1,ki h1 x1⟩
theorem J1 (ha:DE fa X a ga)(hb:DE fa X b gb)(hs:lp b):DE fa X (.Subscript a b pos) (fun Z M=>(ga Z M).bind fun x M=>(gb Z M).bind fun y M=>cV M (cu x y M)):=
 bK (CT JD ha hb hs) fun σ H Q ⟨μ,Z,M,hE,hM,h⟩=>t2 hE hM h fun x y M2 v u H2 μ2 x2 hE2 hM2 r1 r2 h2=>by
  obtain ⟨d,e,q⟩:=nh h2
  exact ⟨μ2,M2,x,y,d,hM2,r1,r2,e,q.ext x2⟩
def DO (fa:Fa)(X:Cx)(e:Option Expr)(hp:Bool)(g:Env->Mem->Res D):Prop:=PO X e fun σ H Q=>∃μ Z M,bz fa X.K μ H σ Z/\RelM fa X.K μ H M/\ai (g Z M) fun d M'=>∃o,b9 hp d=true/\pe d=some o/\∀H' μ',Ext μ H μ' H'->RelM fa X.K μ' H' M'->Q o H'
theorem Fn:DO fa X none false (fun _ M=>.ok .non M):=fun pins s σ H Q I ⟨μ,Z,M,hE,hM,o,_,e,k⟩=>by
 cases e
 exact EG pins s σ H Q I (k H μ .refl hM)
theorem Fm (ha:DE fa X a ga):DO fa X (some a) true ga:=fun pins s σ H Q I ⟨μ,Z,M,hE,hM,h⟩=>EF ha pins s σ H Q I ⟨μ,Z,M,hE,hM,aG h fun d M' ⟨o,p,e,k⟩ v H' μ' x m r=>by
 cases d with
 |int i=>cases e;exact ⟨i,r,k H' μ' x m⟩
 |_=>cases p⟩
theorem part_of {hp:Bool}{d:D}(h:b9 hp d=true):∃o,pe d=some o:=by
 cases hp<;>cases d<;>first|exact ⟨_,rfl⟩|cases h
theorem JU (m hl hh:Bool){lo hi:Option Expr}{gl gh:Env->Mem->Res D}{p2:Pos}(ha:DE fa X a ga)(hlo:DO fa X lo hl gl)(hhi:DO fa X hi hh gh):DE fa X (.Subscript a #[329] pos)
 (fun Z M=>(ga Z M).bind fun x M=>(gl Z M).bind fun l M=>(gh Z M).bind fun h M=>if b9 hl l&&b9 hh h then eG m x l h M else .bad):=
 bK (tW (Ef (fa:=fa) m) ha hlo hhi) fun σ H Q ⟨μ,Z,M,hE,hM,h⟩=>t1 hE hM h fun x M1 v H1 μ1 x1 hE1 hM1 r1 h1=>by
  obtain ⟨l,M2,e2,h2⟩:=aW h1
  obtain ⟨u,M3,e3,h3⟩:=aW h2
  split at h3
  ·next c=>
   rw [Ms] at c
   obtain ⟨ol,el⟩:=part_of c.1
   obtain ⟨ou,eu⟩:=part_of c.2
   refine ⟨μ1,Z,M1,hE1,hM1,?_⟩
   rw [e2]
   refine ⟨ol,c.1,el,fun H2 μ2 x2 hM2=>⟨μ2,Z,M2,hE1.ext x2,hM2,?_⟩⟩
   rw [e3]
   exact ⟨ou,c.2,eu,fun H3 μ3 x3 hM3=>⟨μ3,M3,x,l,u,hM3,(r1.ext x2).ext x3,el,eu,ki h3 #[206]⟩⟩
  ·exact h3.elim
theorem Ii:DA fa X [] (fun _ M=>.ok [] M):=zh eA fun σ H Q ⟨μ,Z,M,hE,hM,h⟩=>h [] H μ .refl hM rfl
theorem Fx {es:List Expr}{gs:Env->Mem->Res (List D)}(ha:DE fa X a ga)(hs:DA fa X es gs)(h0:starEach (a::es) X.env=#[42]::starEach es X.env) :
 DA fa X (a::es) (fun Z M=>(ga Z M).bind fun x M=>(gs Z M).bind fun xs M=>.ok (x::xs) M):=
 zh (b7 ha hs h0) fun σ H Q ⟨μ,Z,M,hE,hM,h⟩=>t1 hE hM h fun x M1 v H1 μ1 x1 hE1 hM1 r1 h1=>tj hE1 hM1 h1 fun xs M2 vs H2 μ2 x2 hE2 hM2 r2 h2=>h2 (v::vs) H2 μ2 (x1.trans x2) hM2 ⟨v,vs,rfl,r1.ext x2,r2⟩
theorem JS {es:List Expr}{gs:Env->Mem->Res (List D)}{k:Nat}(hs:DA fa X es gs):DE fa X (.Tuple es k pos) (fun Z M=>(gs Z M).bind lP):=
 bK (GQ hs) fun σ H Q ⟨μ,Z,M,hE,hM,h⟩=>tj hE hM h fun xs M1 vs H1 μ1 x1 hE1 hM1 r1 h1=>by
  unfold lP at h1
  split at h1
  ·next c=>exact ⟨by rw [r1.length,<- dH];exact c,gL hM1 r1 #[243]⟩
  ·exact h1.elim
theorem JY (m:Bool){es:List Expr}{gs:Env->Mem->Res (List D)}(hs:DA fa X es gs):DE fa X (.List es pos) (fun Z M=>(gs Z M).bind (bG m)):=
 bK (G0 hs) fun σ H Q ⟨μ,Z,M,hE,hM,h⟩=>tj hE hM h fun xs M1 vs H1 μ1 x1 hE1 hM1 r1 h1=>by
  obtain ⟨c,k⟩:=gM hM1 r1 (ki h1 x1)
  exact ⟨by rw [r1.length,<- dH];exact c,k⟩
end
end LD
namespace LD
open PySem PySem.Spec PyProof.Rows L2
theorem mH (o:Obj)(f:Array Mq->Array Mq):(o.mapFields f).dict=o.dict:=by
 obtain ⟨c,d,dt,sl⟩:=o
 cases dt<;>rfl
section
variable {P:MP}{w:Nd}{M:Model}{A:Nr}{E:Mq->Mx->Prop}{base:Heap}{env:Np}{outer:List Np}{L a C:Addr}{dx:Option Addr}{New:Addr->Prop}{H:Hp}{s:Mx}{Q:Unit->Mx->Prop}
theorem vg {oe:Obj}{vs:Array Mq}{head:Mq}{had:Bool}(hfr:A.frames=some (env::outer))(hl:s.heap.FunFrames base (env::outer))(hf:env.frame=some L)
 (he:s.heap.get? a=some oe) (hd:oe.data=.fields vs) (hsz:1<vs.size)
 (h:∀h' T oT ts,(∀b o,b∉f7 (env::outer)->b≠a->s.heap.get? b=some o->h'.get? b=some o)->(∀b o,b≠a->s.heap.get? b=some o->∃sl,h'.get? b=some {o with slots:=sl})->s.heap.objs.size<=T->T≠a->
  h'.get? a=some (oe.mapFields (·.setIfInBounds 1 (.ref T)))->h'.get? T=some oT->oT.data=.fields ts->ts[3]?=some .none->Q () {s with heap:=h'}) :
 wpAny M A (do let f <- frameOf env;let pl <- entryPlaceOf L had;let b <- EntryCells.newEntry head f .none (rawInt L) .none pl;setField (.ref a) 1 b) (fun _ s'=>wpAny M A (setFlight (.ref a) none) Q E s') E s:=by
 have hene:a∉f7 (env::outer):=fun hm=>by
  obtain ⟨_,o,ho,hnf⟩:=hl.mem hm
  rw [he] at ho;cases ho;exact hnf vs hd
 refine tqa (wpAny_frameOf_fun hfr hl hf fun h₁ hs₁=>?_)
 refine tqa (wpAny_entryPlaceOf fun pl hpl=>?_)
 unfold EntryCells.newEntry newFields
 refine tqa (wpAny_newObj_type ?_ (hpl.sizeOk5 _ _ _ _ _))
 have he₁:h₁.get? a=some oe:=(hs₁.2.1 a hene).trans he
 generalize ho:({cls:=.type "traceback",dict:=none,data:=.fields #[145].toArray}:Obj)=o
 have hod:o.data=.fields #[145].toArray:=by rw [<- ho]
 have he₂:=Mp (h:=h₁) o he₁
 refine wpAny_setField he₂ hd hsz ?_
 have hTe:h₁.objs.size≠a:=NI (MJ he₁)
 have hd₃:=NR hd (·.setIfInBounds 1 #[264])
 have he₃:=N1 (Obj.mapFields (·.setIfInBounds 1 #[264])) he₂ (Ov hd₃)
 have hT₃:=(NC (h₁.push o) (Obj.mapFields (·.setIfInBounds 1 #[264])) (NM hTe)).trans (MG h₁ (Ov hod))
 unfold setFlight
 refine tqa (tqf he₃ hd₃ (x:=.ref h₁.objs.size) (by simp [hsz]) ?_)
 rw [if_pos (show (Value.ref h₁.objs.size != Value.none)=true from by simp)]
 refine wpAny_setField hT₃ hod (by simp only [MB,Nx,O4,List.length_nil]<;>omega) ?_
 have keep:∀b u,b≠a->h₁.get? b=some u->(((h₁.push o).update a (Obj.mapFields (·.setIfInBounds 1 #[264]))).update h₁.objs.size (Obj.mapFields (·.setIfInBounds 3 ((none:Option Addr).elim Value.none fun f=>rawInt f)))).get? b=some u:=fun b u hbe hb=>by
  have hbT:h₁.objs.size≠b:=NI (MJ hb)
  rw [NC _ _ hbT,NC _ _ (NM hbe)]
  exact Mp _ hb
 refine h _ h₁.objs.size _ _ (fun b u hb hbe q=>keep b u hbe ((hs₁.2.1 b hb).trans q)) (fun b u hbe q=>?_) (Nat.le_of_eq hs₁.1.symm) hTe ?_ (N1 _ hT₃ (Ov (NR hod _))) (NR hod _) ?_
 ·obtain ⟨sl,e⟩:=hs₁.2.2 b u q
  exact ⟨sl,keep b _ hbe e⟩
 ·rw [NC _ _ hTe];exact he₃
 ·first|(simp;done)|(rcases hpl with rfl|⟨_,_,_,_,_,_,_,rfl⟩<;>simp)
theorem qj (hfr:A.frames=some (env::outer))(hl:s.heap.FunFrames base (env::outer))(hf:env.frame=some L)(hF:mf New C dx a s.heap H)(hN:∀b,s.heap.objs.size<=b->New b)(hok:eY P w H s.heap)(hfree:∀b∈f7 (env::outer),H b=none)
 (h:∀h' ch,#[218]->Un (f7 (env::outer)) ch H H s.heap h'->eY P w H h'->mf New C dx a h' H->Q () {s with heap:=h'}) :
 wpAny M A (noteFrame (.ref a) env) (fun _ s1=>wpAny M A (setFlight (.ref a) none) Q E s1) E s:=by
 obtain ⟨na,ha,oe,vs,he,hc,hdx,hd,tr⟩:=hF
 have fin:∀h' ch,#[218]->(∀b o,b∉f7 (env::outer)->b∉ch->s.heap.get? b=some o->h'.get? b=some o)->(∀b o,b∉ch->s.heap.get? b=some o->∃sl,h'.get? b=some {o with slots:=sl})->mf New C dx a h' H->Q () {s with heap:=h'}:=fun h' ch hch keep slot fl=>by
  refine h h' ch hch ⟨fun b o q _ hb hx=>keep b o hb hx q,fun b o q _ _ hx=>slot b o hx q,fun _ _ _ n _=>n,fun b o q hx=>let ⟨sl,e⟩:=slot b o hx q;⟨_,e⟩,fun _ _ e=>e,fun _ _ _ e=>e,fun b ps e=>⟨#[],by rw [e];simp⟩⟩ (fun b u e=>(hok b u e).stay (fun c v hc q=>?_) (fun _ q=>q) fun _ _ q=>q) fl
  have nn:H c≠none:=by rcases hc with z|z<;>(intro z';first|(rw [z,e] at z';cases z')|(rw [z] at z';cases z'))
  exact keep c v (fun z=>nn (hfree c z)) (fun z=>nn (hch c z).2.1) q
 unfold noteFrame
 simp only [hf]
 rcases tr with h1|⟨T,oT,ts,h1,hTa,nT,hT0,hT,hdT,h3⟩
 ·refine tqa (tqf he hd h1 ?_)
  rw [if_neg #[1]]
  refine vg hfr hl hf he hd (Nj.mp h1).1 fun h' T oT ts k1 k2 k3 k4 k5 k6 k7 k8=>?_
  refine fin h' [a] (fun b hb=>?_) (fun b o hb hx q=>k1 b o hb #[124] q) (fun b o hx q=>k2 b o #[124] q) ⟨na,ha,_,_,k5,?_,?_,NR hd _,.inr ⟨T,oT,ts,by simp [(Nj.mp h1).1],k4,hN _ k3,hok.fresh k3,k6,k7,k8⟩⟩
  ·rcases Nc.mp hb with rfl
   exact ⟨na,ha,oe,vs,he,hd⟩
  ·rw [O7];exact hc
  ·rw [mH];exact hdx
 ·refine tqa (tqf he hd h1 ?_)
  rw [if_pos (show (Value.ref T != Value.none)=true from by simp)]
  refine tqa (tqf hT hdT h3 ?_)
  rw [if_neg (show ¬ ((Value.none==rawInt L)=true) from by simp [rawInt])]
  refine tqa (wpAny_setField hT hdT (Nj.mp h3).1 ?_)
  have other:∀b,b≠T->(s.heap.update T (Obj.mapFields (·.setIfInBounds 3 Value.none))).get? b=s.heap.get? b:=fun b hb=>NC _ _ (NM hb)
  have noRec:∀b o,s.heap.get? b=some o->(∀vs,o.data≠.fields vs)->b≠T:=fun b o hb hnf q=>by
   rw [q,hT] at hb;cases hb;exact hnf ts hdT
  have hz:(s.heap.update T (Obj.mapFields (·.setIfInBounds 3 Value.none))).objs.size=s.heap.objs.size:=Heap.size_after_update ..
  refine vg (s:={s with heap:=s.heap.update T (Obj.mapFields (·.setIfInBounds 3 Value.none))}) hfr (hl.of_keeps fun b o hb hnf=>⟨o,(other b (noRec b o hb hnf)).trans hb,rfl⟩) hf ((other a (NM hTa)).trans he) hd (Nj.mp h1).1 fun h' T' oT' ts' k1 k2 k3 k4 k5 k6 k7 k8=>?_
  have k3:s.heap.objs.size<=T':=by rw [<- hz];exact k3
  refine fin h' [a,T] (fun b hb=>?_) (fun b o hb hx q=>k1 b o hb #[124] ((other b #[124]).trans q)) (fun b o hx q=>k2 b o #[124] ((other b #[124]).trans q)) ⟨na,ha,_,_,k5,?_,?_,NR hd _,.inr ⟨T',oT',ts',by simp [(Nj.mp h1).1],k4,hN _ k3,hok.fresh k3,k6,k7,k8⟩⟩
  ·rcases Mz.mp hb with rfl|hb
   ·exact ⟨na,ha,oe,vs,he,hd⟩
   ·rcases Nc.mp hb with rfl
    exact ⟨nT,hT0,oT,ts,hT,hdT⟩
  ·rw [O7];exact hc
  ·rw [mH];exact hdx
end
def gD (P:MP)(w:Nd):nV:=fun outer H s E e s'=>∃a C dx H',e=.ref a/\s'.os=s.os/\Pu s'.gens/\Un (f7 outer) [] H H' s.heap s'.heap/\eY P w H' s'.heap/\mf (fun b=>s.heap.get? b=none) C dx a s'.heap H'/\E (.ref C) dx H'
theorem mf.imp {New New':Addr->Prop}{C a:Addr}{dx:Option Addr}{h:Heap}{H:Hp}(f:mf New C dx a h H)(i:∀b,New b->New' b):mf New' C dx a h H:=by
 obtain ⟨na,ha,o,vs,h1,h2,h3,h4,tr⟩:=f
 refine ⟨i _ na,ha,o,vs,h1,h2,h3,h4,?_⟩
 rcases tr with t|⟨T,oT,ts,t1,t2,t3,t4⟩
 ·exact .inl t
 ·exact .inr ⟨T,oT,ts,t1,t2,i _ t3,t4⟩
section
variable {P:MP}{w:Nd}{K:Mr}{mg:Str->Option Mq}{base:Heap}{N:List Str}{qual:Str}{scope:Scope}{f:Addr}{cd:Mq}{A:Nr}{outer:List Np}{s:Mx}{H:Hp}{E:XK}
theorem BN {pins:List #[15]}{σ:L2.St}{H':Hp}{s':Mx}{a C:Addr}{dx:Option Addr}(I:Inv #[56] pins σ H' s')(hF:mf (kN #[56]) C dx a s'.heap H')(hE:E (.ref C) dx H') :
 #[56].xe (.ref a) s':=by
 have hst:=I.stack
 have hsz:s.heap.objs.size<=s'.heap.objs.size:=I.sz
 have hL:∀b o,s.heap.get? b=some o->b∈f7 (envOfC qual scope s.heap.objs.size f cd::outer)->b∈f7 outer:=fun b o q hb=>by
  rcases Mz.mp (show b∈s.heap.objs.size::f7 outer from hb) with e|e
  ·exact absurd (MJ q) (by rw [e];exact NO _)
  ·exact e
 unfold fB
 dsimp only
 unfold leaving
 refine tqa (qj (P:=P) (w:=w) (New:=fun b=>s.heap.get? b=none) I.ok.frames hst rfl (hF.imp fun b z=>z.1) (fun b z=>Oc (MF hsz z)) I.hok I.stkFree fun h' ch hch u hok fl=>?_)
 have nch:∀b o,s.heap.get? b=some o->b∉ch:=fun b o q z=>by have:=(hch b z).1;rw [q] at this;cases this
 have hb0:Un (f7 outer) [] H H' s.heap s'.heap:=I.base
 refine ⟨a,C,dx,H',rfl,I.os,I.bare,⟨fun b o q n hb hx=>?_,fun b o q n hb hx=>?_,hb0.free,fun b o q hx=>?_,hb0.tups,hb0.frzs,hb0.tbls⟩,hok,fl,hE⟩
 ·exact u.keep b o (hb0.keep b o q n hb hx) (hb0.free b o q n hx) (fun z=>hb (hL b o q z)) (nch b o q)
 ·obtain ⟨sl,e⟩:=hb0.slot b o q n hb hx
  obtain ⟨sl',e'⟩:=u.any e (hb0.free b o q n hx) (nch b o q)
  exact ⟨sl',e'⟩
 ·obtain ⟨o',e⟩:=hb0.there b o q hx
  exact u.there b o' e (nch b o q)
end
section
variable {X:Cx}{pins:List #[15]}{σ:L2.St}{H H':Hp}{s s':Mx}{E:XK}{e:Mq}
theorem zF (I:Inv X pins σ H s)(hx:X.ex=[])(h:gD X.prog X.w X.stack H s E e s'):∃a C dx H',e=.ref a/\Inv X pins σ H' s'/\mf (kN X) C dx a s'.heap H'/\E (.ref C) dx H':=by
 obtain ⟨a,C,dx,H',rfl,os,bare,un,hok,fl,q⟩:=h
 refine ⟨a,C,dx,H',rfl,I.call' os un hok bare (fun b z=>absurd z (by simp)),fl.imp fun b z=>⟨?_,fun p hp e=>?_⟩,q⟩
 ·cases e:X.s₀.heap.get? b with
  |none=>rfl
  | some o =>
    obtain ⟨o',e'⟩:=I.base.there b o e (by rw [hx];simp)
    rw [z] at e';cases e'
 ·have:=(I.pin p (N2 _ hp)).1
  rw [e,z] at this;cases this
theorem ur {h':Heap}{ch:List Addr}(I:Inv X pins σ H s)(hch:∀b∈ch,X.s₀.heap.get? b=none/\(∃o vs,s.heap.get? b=some o/\o.data=.fields vs)/\∀p∈X.pn++pins,p.1≠b)(u:Un (f7 X.stack) ch H H s.heap h')(hok:eY X.prog X.w H h'):Inv X pins σ H {s with heap:=h'}:=by
 obtain ⟨m,⟨o,es,ep,ho,hd,r⟩,hl⟩:=id I.loc
 have neL:X.env.locals∉ch:=fun z=>by
  obtain ⟨o',vs,e,d⟩:=(hch _ z).2.1
  rw [ho] at e;cases e;rw [hd] at d;cases d
 have neC:∀x c,X.env.cells.lookup x=some c->c∉ch:=fun x c e z=>by
  obtain ⟨o',vs,e',d⟩:=(hch _ z).2.1
  obtain ⟨v,o2,e2,d2⟩:=I.cell x c e
  rw [e2] at e';cases e';rw [d2] at d;cases d
 have n0:∀b o,X.s₀.heap.get? b=some o->b∉ch:=fun b o e z=>by rw [(hch b z).1] at e;cases e
 have nst:∀b o,X.s₀.heap.get? b=some o->b∉X.fs->b∉f7 X.stack:=fun b o e n z=>(Mz.mp (I.stkSub b z)).elim (fun q=>absurd (MJ e) (by rw [q];exact Nat.not_lt.mpr I.ok.above)) n
 obtain ⟨sl,hL⟩:=u.any ho I.free neL
 have cellK:∀x c,X.env.cells.lookup x=some c->∀v,s.heap.IsCell c v->h'.IsCell c v:=fun x c e v ⟨o,ho,hd⟩=>by
  obtain ⟨sl,q⟩:=u.any ho (I.freeC x c e) (neC x c e)
  exact ⟨_,q,hd⟩
 refine ⟨I.ok,I.os,I.bare,⟨fun b o e n hb hx=>?_,fun b o e n hb hx=>?_,I.base.free,fun b o e hx=>?_,I.base.tups,I.base.frzs,I.base.tbls⟩,⟨m,⟨_,es,ep,hL,hd,r⟩,fun i x v e1 e2 e3=>?_⟩,fun x c e=>?_,I.free,I.freeC,fun p hp=>?_,hok,I.len⟩
 ·exact u.keep b o #[157] #[202] (nst b o e hb) (n0 b o e)
 ·obtain ⟨sl,e1⟩:=I.base.slot b o e n hb hx
  obtain ⟨sl',e2⟩:=u.any e1 #[202] (n0 b o e)
  exact ⟨sl',e2⟩
 ·obtain ⟨o',e1⟩:=I.base.there b o e hx
  exact u.there b o' e1 (n0 b o e)
 ·obtain ⟨u',r',l⟩:=hl i x v e1 e2 e3
  refine ⟨u',r',?_⟩
  rcases l with l|⟨k,c,e,z⟩
  ·exact .inl l
  ·exact .inr ⟨k,c,e,cellK x c e _ z⟩
 ·obtain ⟨v,z⟩:=I.cell x c e
  exact ⟨v,cellK x c e v z⟩
 ·obtain ⟨e,n,ne,nf,d⟩:=I.pin p hp
  exact ⟨u.keep p.1 p.2 e n (fun z=>(Mz.mp (I.stkSub _ z)).elim ne nf) fun z=>(hch _ z).2.2 p hp rfl,n,ne,nf,d⟩
theorem rE {a:Addr}{o:HO}(I:Inv X pins σ H s)(hx:X.ex=[])(hn:H a=none)(h0:X.s₀.heap.get? a=none)(hf:∃ob vs,s.heap.get? a=some ob/\ob.data=.fields vs)(hp:∀p∈X.pn++pins,p.1≠a)(new:dg X.prog X.w (upd H a o) s.heap a o):Inv X pins σ (upd H a o) s:=by
 obtain ⟨ob,vs,hob,hd⟩:=hf
 have ne:∀b u,H b=some u->b≠a:=fun b u e=>bg e hn
 refine ⟨I.ok,I.os,I.bare,⟨I.base.keep,I.base.slot,fun b o e n hx=>?_,I.base.there,fun b xs e=>?_,fun b o u e=>?_,fun b ps e=>?_⟩,I.loc,I.cell,?_,fun x c e=>?_,fun p hp'=>?_,fun b u e=>?_,I.len⟩
 ·rw [aO (fun z=>by rw [z,h0] at e;cases e)];exact I.base.free b o e n hx
 ·have q:=I.base.tups b xs e
  rw [aO (ne b _ q)];exact q
 ·have q:=I.base.frzs b o u e
  rw [aO (ne b _ q)];exact q
 ·obtain ⟨m,q⟩:=I.base.tbls b ps e
  exact ⟨m,by rw [aO (ne b _ q)];exact q⟩
 ·obtain ⟨m,⟨oL,es,ep,ho,hdL,_⟩,_⟩:=id I.loc
  rw [aO (fun z=>by rw [z,hob] at ho;cases ho;rw [hd] at hdL;cases hdL)];exact I.free
 ·obtain ⟨v,o2,e2,d2⟩:=I.cell x c e
  rw [aO (fun z=>by rw [z,hob] at e2;cases e2;rw [hd] at d2;cases d2)];exact I.freeC x c e
 ·obtain ⟨e,n,r⟩:=I.pin p hp'
  exact ⟨e,by rw [aO (hp p hp')];exact n,r⟩
 ·by_cases hb:b=a
  ·subst hb
   rw [bV] at e;cases e
   exact new
  ·rw [aO hb] at e
   exact (I.hok b u e).stay (fun c v _ q=>q) (fun c q=>by rw [aO (ne c _ q)];exact q) fun c xs q=>by rw [aO (ne c _ q)];exact q
end
def jd {α:Type}(r:Res α)(k:α->Mem->Prop)(kx:D->Mem->Prop):Prop:=match r with
 |.ok a M=>k a M
 |.err x M=>kx x M
 |.bad=>False
theorem Hd {α:Type}{r:Res α}{k:α->Mem->Prop}{kx:D->Mem->Prop}(h:ai r k):jd r k kx:=by
 cases r with
 |ok a M=>exact h
 |err=>exact h.elim
 |bad=>exact h
def xR (fa:Fa)(K:Mr)(μ:Mu)(H:Hp)(E:XK)(x:D)(M':Mem):Prop:=∀C dx c p H' μ',Ext μ H μ' H'->RelM fa K μ' H' M'->x=.exc c p->fa (fq c)=some C->xQ H' c dx p->E (.ref C) dx H'
theorem CU {P:MP}{w:Nd}{X:Cx}:Passes (gD P w) X E0:=fun _ _ _ _ _ _ _ h=>let ⟨_,_,_,_,_,_,_,_,_,_,z⟩:=h;z.elim
end LD
namespace LD
open PySem PySem.Spec PyProof.Rows L2
def F5 (fa:Fa)(K:Mr)(k:Nat)(call:List D->Mem->Res D):Sp:=fun vs H Q E=>vs.length=k/\∃μ M ds,RelM fa K μ H M/\aT fa K μ H ds vs/\jd (call ds M) #[216] (xR fa K μ H E)
def jk (fa:Fa)(P:MP)(w:Nd)(K:Mr)(mg:Str->Option Mq)(base:Heap)(n:Nat)(f:Nat)(call:List D->Mem->Res D):Prop:=
 (∀ds M,call ds M=.bad)\/∃(ad:Addr) (fd:OB) (ps:List Str),fa f=some ad/\PySem.W.keepIn K (.ref ad)=true/\Binds K fd ps []/\(∀ds M,ds.length≠ps.length->call ds M=.bad)/\kO P w K mg base (gD P w) (n+4) ad fd ps (F5 fa K ps.length call)
section
variable {fa:Fa}{X:Cx}{a b d:Expr}{ga gb gd:Env->Mem->Res D}{pos p:Pos}{es:List Expr}{gs:Env->Mem->Res (List D)}{n:Nat}
theorem Aj {call:List D->Mem->Res D}{P:D->Mem->Prop}{r:Res (List D)}(hb:∀ds M,call ds M=.bad)(h:ai (r.bind fun ds M=>call ds M) P):False:=by
 obtain ⟨ds,M,_,q⟩:=aW h
 rw [hb] at q
 exact q
theorem rL {call:List D->Mem->Res D}{k:Nat}{σ:L2.St}{H:Hp}{Q:VK}{μ:Mu}{Z:Env}{M:Mem}(hE:bz fa X.K μ H σ Z)(hM:RelM fa X.K μ H M)(h:ai ((gs Z M).bind fun ds M=>call ds M) #[18])
 (hk:∀ds M1,ds.length≠k->call ds M1=.bad):CK (F5 fa X.K k call) [] E0 (tA fa X.K gs) σ H Q:=by
 refine tj hE hM h fun ds M1 vs H1 μ1 x1 hE1 hM1 r1 h1=>?_
 rw [Pc]
 refine ⟨?_,μ1,M1,ds,hM1,r1,Hd (ki h1 x1)⟩
 rw [r1.length]
 by_cases hl:ds.length=k
 ·exact hl
 ·rw [hk ds M1 hl] at h1;exact h1.elim
theorem Il {f:Nat}{x:Str}{call:List D->Mem->Res D}(C:jk fa X.prog X.w X.K X.mg X.base n f call)(hr:cx (n+4) X.A)(hg:Gl X x)(hm:∀ad,fa f=some ad->X.mg x=some (.ref ad))(hs:DA fa X (a::es) gs)
 (hdb:#[6]=false) (he:starEach (a::es) X.env=#[42]::starEach es X.env) (hpl:#[44].any (·.1)=false) :
 DE fa X #[94] (fun Z M=>(gs Z M).bind fun ds M=>call ds M):=by
 rcases C with hb|⟨ad,fd,ps,h1,h2,h3,h4,F⟩
 ·exact fun pins s σ H Q I ⟨μ,Z,M,hE,hM,h⟩=>(Aj hb h).elim
 ·exact bK (EK F hr hg (hm ad h1) h2 h3 .nil CU hs hdb he hpl) fun σ H Q ⟨μ,Z,M,hE,hM,h⟩=>rL hE hM h h4
theorem Fy {i:Nat}{x:Str}{call:Nat->List D->Mem->Res D}(C:∀f,jk fa X.prog X.w X.K X.mg X.base n f (call f))(hr:cx (n+4) X.A)(hN:X.N[i]?=some x)(hv:rZ X.env.scope x)(hs:DA fa X (a::es) gs)
 (hd:#[6]=false) (hcd:#[169]=false) (he:starEach (a::es) X.env=#[42]::starEach es X.env) (hpl:#[44].any (·.1)=false) :
 DE fa X #[94] (fun Z M=>match Z[i]?.getD none with|some (.fn f)=>(gs Z M).bind fun ds M=>call f ds M|_=>.bad):=by
 intro pins s σ H Q I ⟨μ,Z,M,hE,hM,h⟩
 dsimp only at h
 cases e:Z[i]?.getD none with
 |none=>rw [e] at h;exact h.elim
 | some df =>
   cases df with
   | fn f =>
     rw [e] at h
     simp only at h
     have e':Z[i]?=some (some (.fn f)):=by
      cases q:Z[i]? with
      |none=>rw [q] at e;cases e
      |some o=>rw [q] at e;simp at e;rw [e]
     obtain ⟨v,hv1,hv2⟩:=hE.at' i _ e'
     obtain ⟨ad,rfl,had⟩:=hv2
     rcases C f with hb|⟨ad',fd,ps,h1,h2,h3,h4,F⟩
     ·exact (Aj hb h).elim
     ·rw [had] at h1;cases h1
      refine wpAny_Call_Name_kw (bc (pd hN hv hd hcd pins s σ H (fun v H'=>v=.ref ad/\H'=H) I ⟨_,hv1,rfl,rfl⟩) fun u s1 ⟨v,H1,I1,r1,e1,e2⟩=>?_)
      subst e1 e2
      obtain rfl:u=Value.ref ad:=r1
      refine OQ (h₀:=X.base) I1.ok.mod.kin h2 (bc (hs pos pins s1 σ H1 _ I1 (rL hE hM h h4)) fun us s2 ⟨vs,H2,I2,r,q⟩=>⟨I2.kIn,?_⟩) he hpl
      exact yR F hr h3 .nil CU I2 r q
   |_=>rw [e] at h;exact h.elim
theorem Dm (f:u7){x:Str}{id:String}(hc:di X #[283] (qg fa X.K f))(hg:Gl X x)(hm:X.mg x=none)(hv:bootBuiltins x=some #[283])(hs:DA fa X (a::es) gs)(hn:x≠"__name__")(hdb:#[6]=false)
 (he:starEach (a::es) X.env=#[42]::starEach es X.env) (hpl:#[44].any (·.1)=false):DE fa X #[94] (fun Z M=>(gs Z M).bind fun ds M=>eV f ds M):=
 bK (iI hc hg hm hv hs hn hdb he hpl) fun σ H Q ⟨μ,Z,M,hE,hM,h⟩=>tj hE hM h fun ds M1 vs H1 μ1 x1 hE1 hM1 r1 h1=>⟨μ1,M1,ds,hM1,r1,ki h1 x1⟩
theorem zV (f:u7){x:Str}{T:String}(hc:di X (.type T) (qg fa X.K f))(hg:Gl X x)(hm:X.mg x=none)(hv:bootBuiltins x=some (.type T))(hs:DA fa X (a::es) gs)(hn:x≠"__name__")(hdb:#[6]=false)
 (he:starEach (a::es) X.env=#[42]::starEach es X.env) (hpl:#[44].any (·.1)=false):DE fa X #[94] (fun Z M=>(gs Z M).bind fun ds M=>eV f ds M):=
 bK (zd hc hg hm hv hs hn hdb he hpl) fun σ H Q ⟨μ,Z,M,hE,hM,h⟩=>tj hE hM h fun ds M1 vs H1 μ1 x1 hE1 hM1 r1 h1=>⟨μ1,M1,ds,hM1,r1,ki h1 x1⟩
theorem Ij (t:Ty)(ht:∀c,t≠.own c){x:Str}{p1 p2:Pos}(ha:DE fa X a ga)(hg:Gl X "isinstance")(hm:X.mg "isinstance"=none)(hv:bootBuiltins "isinstance"=some #[58])(hgt:Gl X x)(hmt:X.mg x=none)(hvt:bootBuiltins x=some (.type (tyName t)))
 (hn:x≠"__name__") (hdb:#[6]=false)
 (he:starEach [a,.Name x p1] X.env=#[42]::starEach [.Name x p1] X.env):DE fa X #[126] (fun Z M=>(ga Z M).bind fun x M=>(cV M (bN t x)).bind fun b M=>.ok (.bl b) M):=
 bK (iI (HP (fa:=fa) t ht) hg hm hv (b7 ha (b7 (vH hgt hmt hvt (v:=.ty (tyName t)) rfl hn hdb) eA (by rfl)) he) #[1] #[1] he (by rfl)) fun σ H Q ⟨μ,Z,M,hE,hM,h⟩=>t1 hE hM h fun x M1 v H1 μ1 x1 hE1 hM1 r1 h1=>by
  obtain ⟨b,e,q⟩:=pj h1
  exact ⟨μ1,M1,x,v,b,rfl,hM1,r1,e,bf (v:=.bl b) hM1 (q.ext x1) rfl⟩
def gT (fa:Fa)(K:Mr)(t:dv):TG:=fun v σ H Q=>∃μ Z M d ρ1,bz fa K μ H σ Z/\RelM fa K μ H M/\Rep fa K μ H d v/\cX t d Z=some ρ1/\∀σ1,bz fa K μ H σ1 ρ1->Q σ1 H
theorem zb {tg:Expr}{g g':TG}(h:PG X tg g)(i:∀v σ H Q,g' v σ H Q->g v σ H Q):PG X tg g':=fun pins s σ H v u Q I r q=>h pins s σ H v u Q I r (i v σ H Q q)
theorem vE {tg:List Expr}{g g':pT}(h:u6 X tg g)(i:∀v σ H Q,g' v σ H Q->g v σ H Q):u6 X tg g':=fun pins s σ H v u Q I r q=>h pins s σ H v u Q I r (i v σ H Q q)
theorem Fu {i:Nat}{x:Str}(hN:X.N.Nodup)(hi:X.N[i]?=some x)(hx:Loc X.env.scope x)(hf:X.fn x=true\/X.env.scope.names.lookup x=some .local):PG X #[248] (gT fa X.K (.one i)):=
 zb (vF hN hi hx hf) fun v σ H Q ⟨μ,Z,M,d,ρ1,hE,hM,r,e,k⟩=>by
  have e':Z.set i (some d)=ρ1:=MA e
  subst e'
  exact k _ (hE.set r)
def HK (fa:Fa)(K:Mr)(l:List Nat):pT:=fun vs σ H Q=>∃μ Z M ds ρ1,bz fa K μ H σ Z/\RelM fa K μ H M/\aT fa K μ H ds vs/\eL l ds Z=some ρ1/\∀σ1,bz fa K μ H σ1 ρ1->Q σ1 H
inductive kI (X:Cx):List Nat->List Expr->Prop
 |nil:kI X [] []
 |cons {i:Nat}{x:Str}{p:Pos}{l:List Nat}{ns:List Expr} (hi:X.N[i]?=some x) (hx:Loc X.env.scope x) (hf:X.fn x=true\/X.env.scope.names.lookup x=some .local) (r:kI X l ns):kI X (i::l) (.Name x p::ns)
theorem kI.each {l:List Nat}{ns:List Expr}(h:kI X l ns):(assignEach ns X.env).length=l.length/\(assignEach ns X.env).findIdx? (·.1)=none:=by
 induction h with
 |nil=>exact ⟨rfl,rfl⟩
 | cons hi hx hf r ih =>
   rename_i i x p l ns
   have e:assignEach (.Name x p::ns) X.env=(false,assign (.Name x p) X.env)::assignEach ns X.env:=rfl
   rw [e]
   refine ⟨by simp [ih.1],?_⟩
   rw [List.findIdx?_cons]
   simp [ih.2]
theorem Cd (hN:X.N.Nodup){l:List Nat}{ns:List Expr}(h:kI X l ns):u6 X ns (HK fa X.K l):=by
 induction h with
 | nil =>
   refine vE EJ fun vs σ H Q ⟨μ,Z,M,ds,ρ1,hE,hM,r,e,k⟩=>?_
   cases ds with
   | nil =>
     obtain rfl:vs=[]:=r
     have e':Z=ρ1:=MA e
     subst e'
     exact ⟨rfl,k _ hE⟩
   |cons=>cases e
 | cons hi hx hf r ih =>
   refine vE (BB (vF hN hi hx hf) ih (by rfl)) fun vs σ H Q ⟨μ,Z,M,ds,ρ1,hE,hM,r,e,k⟩=>?_
   cases ds with
   |nil=>cases e
   | cons d ds =>
     obtain ⟨v,vr,rfl,r1,r2⟩:=r
     exact ⟨v,vr,rfl,μ,_,M,ds,ρ1,hE.set r1,hM,r2,e,k⟩
theorem l8:∀{l:List Nat}{ds:List D}{Z ρ1:Env},eL l ds Z=some ρ1->ds.length=l.length
 |[],[],_,_,_=>rfl
 |_::_,[],_,_,h=>by cases h
 |[],_::_,_,_,h=>by cases h
 | _ :: l, _ :: ds, _, _, h => by
   have:=l8 (l:=l) (ds:=ds) h
   simp [this]
theorem Ig (hc:X.calm=true)(hN:X.N.Nodup){l:List Nat}{ns:List Expr}{k:Nat}(h:kI X l ns):PG X (.Tuple ns k pos) (gT fa X.K (.tup l)):=
 zb (GO (n:=l.length) hc (Cd (fa:=fa) hN h) h.each.1 h.each.2) fun v σ H Q ⟨μ,Z,M,d,ρ1,hE,hM,r,e,k⟩=>by
  cases d with
  | tup ds =>
    obtain ⟨a,vs,rfl,hq,r⟩:=r
    exact ⟨a,vs,rfl,hq,by rw [r.length];exact l8 e,μ,Z,M,ds,ρ1,hE,hM,r,e,k⟩
  |_=>cases e
end
end LD
namespace LD
open PySem PySem.Spec PyProof.Rows L2
section
variable {fa:Fa}{X:Cx}{a b d:Expr}{ga gb gd:Env->Mem->Res D}{pos p:Pos}{es:List Expr}{gs:Env->Mem->Res (List D)}{n:Nat}
theorem Ib {tg:Expr}{t:dv}(ha:DE fa X a ga)(hg:PG X tg (gT fa X.K t))(hs:swapsWithSole [tg] a pos.line X.env=pure false)(hw:swappedStores [tg] a X.env=pure none)(h1:#[306].map (·.2)=[assign tg X.env]) :
 DS fa X (.Assign [tg] a pos) (fun Z M=>(ga Z M).bind fun x M=>(cV M (cX t x Z)).bind fun ρ1 M=>.ok (.next ρ1) M):=
 fH (tS ha hg hs hw h1) fun D σ H ⟨μ,Z,M,hE,hM,h⟩=>t1 hE hM h fun x M1 v H1 μ1 x1 hE1 hM1 r1 h1=>by
  obtain ⟨ρ1,M2,e,q⟩:=aW h1
  cases eb:cX t x Z with
  |none=>rw [eb] at e;cases e
  | some ρ2 =>
    rw [eb] at e
    cases e
    exact ⟨μ1,Z,M1,x,ρ1,hE1,hM1,r1,eb,fun σ1 hE2=>q σ1 H1 μ1 x1 hE2 hM1⟩
theorem qR {D':Ends}{μ:Mu}{H:Hp}{σ:L2.St}{Z:Env}{M:Mem}{k:Nat}{ad:Addr}{ws:List V}{ds:List D}(hE:bz fa X.K μ H σ Z)(hM:RelM fa X.K μ H M)(hk:μ.pub k=some ad)(r:aT fa X.K μ H ds ws)
 (q:∀σ' H' μ',Ext μ H μ' H'->bz fa X.K μ' H' σ' Z->RelM fa X.K μ' H' (M.set k ds)->D'.nx σ' H'):D'.nx σ (upd H ad (.lst ws)):=
 q σ _ μ (Ext.write (vs:=ws) hM hk) (hE.ext (Ext.write (vs:=ws) hM hk)) (hM.write hk r)
theorem H8 (ha:DE fa X a ga)(hb:DE fa X b gb)(hd:DE fa X d gd){p2:Pos}
 (h0:∀v,assign (.Subscript a b p2) X.env v=(do
  let ov <- holding [v] #[281]
  let iv <- holding [v,ov] (eval b X.env)
  standAt p2
  holding [v,ov,iv] (setItem ov iv v)
  release [v,ov,iv] [])) (hs:swapsWithSole [.Subscript a b p2] d pos.line X.env=pure false) (hw:swappedStores [.Subscript a b p2] d X.env=pure none) (h1:(assignEach [.Subscript a b p2] X.env).map (·.2)=[assign (.Subscript a b p2) X.env]) :
 DS fa X (.Assign [.Subscript a b p2] d pos) (fun Z M=>(gd Z M).bind fun z M=>(ga Z M).bind fun x M=>(gb Z M).bind fun y M=>match x,y with
  | .cell k, .int n => match M[k]? with
    | some ds => match bB ds.length n with
      |some j=>.ok (.next Z) (M.set k (ds.set j z))
      |none=>.bad
    |none=>.bad
  |_,_=>.bad):=
 fH (tS hd (GP ha hb set_list h0) hs hw h1) fun D' σ H ⟨μ,Z,M,hE,hM,h⟩=>t1 hE hM h fun z M1 v H1 μ1 x1 hE1 hM1 r1 h1=>t2 hE1 hM1 h1 fun x y M2 vx vy H2 μ2 x2 hE2 hM2 rx ry h2=>by
  have key:∀k n,x=.cell k->y=.int n->CQ vx vy v H2 fun H3=>D'.nx σ H3:=fun k n e1 e2=>by
   subst e1 e2
   dsimp only at h2
   cases e:M2[k]? with
   |none=>rw [e] at h2;exact h2.elim
   | some ds =>
     rw [e] at h2
     dsimp only at h2
     cases ej:LD.bB ds.length n with
     |none=>rw [ej] at h2;exact h2.elim
     | some j =>
       rw [ej] at h2
       obtain ⟨ad,rfl,hk⟩:=rx
       obtain ⟨ad',ws,h3,h4,h5⟩:=hM2.at' k ds e
       rw [hk] at h3;cases h3
       have q:∀σ' H' μ',Ext μ H μ' H'->bz fa X.K μ' H' σ' Z->RelM fa X.K μ' H' (M2.set k (ds.set j z))->D'.nx σ' H':=h2
       refine ⟨ad,ws,n,j,rfl,ry,h4,by rw [h5.length];exact ej,qR hE2 hM2 hk (h5.set j (r1.ext x2)) fun σ' H' μ' x' e' m'=>q σ' H' μ' ((x1.trans x2).trans x') e' m'⟩
  cases x with
  | cell k => cases y with
    |int n=>exact key k n rfl rfl
    |_=>exact h2.elim
  |_=>exact h2.elim
theorem Ic (ha:DE fa X a ga)(hd:DE fa X d gd){apos cpos:Pos}(hbase:attributeBase a "append" X.env #[281]=eval a X.env)(hline:#[274]=true)(hs:starEach [d] X.env=[(false,eval d X.env)])
 (hsw:swapsWith (.Call (.Attribute a "append" apos) [d] [] cpos) none pos.line X.env=pure false) :
 DS fa X (.Expr (.Call (.Attribute a "append" apos) [d] [] cpos) pos) (fun Z M=>(ga Z M).bind fun x M=>(gd Z M).bind fun z M=>match x with
  | .cell k => match M[k]? with
    |some ds=>if ds.length<sz then .ok (.next Z) (M.set k (ds++[z])) else .bad
    |none=>.bad
  |_=>.bad):=
 fH (m9 (wQ OX PySem.F.slot_list_append PySem.F.type_list_append rB ha (b7 hd eA hs) hbase (by rw [hs];rfl) hline hs (by rfl)) hsw) fun D' σ H ⟨μ,Z,M,hE,hM,h⟩=>by
  obtain ⟨x,M1,e1,h1⟩:=aW h
  obtain ⟨z,M2,e2,h2⟩:=aW h1
  cases x with
  | cell k =>
    dsimp only at h2
    cases e:M2[k]? with
    |none=>rw [e] at h2;exact h2.elim
    | some ds =>
      rw [e] at h2
      dsimp only at h2
      split at h2
      ·next hz=>
       have q:∀σ' H' μ',Ext μ H μ' H'->bz fa X.K μ' H' σ' Z->RelM fa X.K μ' H' (M2.set k (ds++[z]))->D'.nx σ' H':=h2
       refine ⟨μ,Z,M,hE,hM,?_⟩
       rw [e1]
       intro vx H1 μ1 x1 hM1 rx
       obtain ⟨ad,rfl,hk⟩:=rx
       obtain ⟨ds1,ws1,_,hH1,_⟩:=hM1.mu_lt hk
       refine ⟨.inl ⟨rfl,ws1,c9.of hH1⟩,μ1,Z,M1,hE.ext x1,hM1,?_⟩
       rw [e2]
       intro vz H2 μ2 x2 hM2 rz
       obtain ⟨ad',ws,h3,h4,h5⟩:=hM2.at' k ds e
       rw [x2.mu k ad hk] at h3;cases h3
       refine ⟨ad,ws,vz,rfl,rfl,h4,by rw [h5.length,<- dH];exact hz,?_⟩
       exact qR (#[217].ext x2) hM2 (x2.mu k ad hk) (h5.append (.one rz)) fun σ' H' μ' x' e' m'=>q σ' H' μ' ((x1.trans x2).trans x') e' m'
      ·exact h2.elim
  |_=>exact h2.elim
theorem JP (ha:DE fa X a ga)(hs:swapsWith a none pos.line X.env=pure false):DS fa X (.Expr a pos) (fun Z M=>(ga Z M).bind fun _ M=>.ok (.next Z) M):=
 fH (m9 ha hs) fun D' σ H ⟨μ,Z,M,hE,hM,h⟩=>t1 hE hM h fun x M1 v H1 μ1 x1 hE1 hM1 r1 h1=>h1 σ H1 μ1 x1 hE1 hM1
theorem HZ (ha:DE fa X a ga):DS fa X (.Return (some a) pos) (fun Z M=>(ga Z M).bind fun x M=>.ok (.ret x) M):=
 fH (yX ha) fun D' σ H ⟨μ,Z,M,hE,hM,h⟩=>by
  obtain ⟨x,M1,e,q⟩:=aW h
  refine ⟨μ,Z,M,hE,hM,?_⟩
  rw [e];exact q
theorem Fi:DS fa X (.Return none pos) (fun _ M=>.ok (.ret .non) M):=fH EC fun D' σ H ⟨μ,Z,M,hE,hM,h⟩=>bf (v:=.non) hM h rfl
theorem Fj:DS fa X (.Pass pos) (fun Z M=>.ok (.next Z) M):=fH ED fun D' σ H ⟨μ,Z,M,hE,hM,h⟩=>h σ H μ .refl hE hM
theorem mU.ext {μ μ':Mu}{H H':Hp}{D':Ends}(x:Ext μ H μ' H'){fl:Fl}{M:Mem}(q:mU fa X μ H D' fl M):mU fa X μ' H' D' fl M:=by
 cases fl with
 |next ρ'=>exact fun σ' H'' μ'' y e m=>q σ' H'' μ'' (x.trans y) e m
 |ret d=>exact bp.ext q x
 |exc x' ρ'=>exact XW.ext q x
theorem He {r:Res Fl}{μ μ':Mu}{H H':Hp}{D':Ends}(x:Ext μ H μ' H')(h:ai r #[290]):ai r (mU fa X μ' H' D'):=aG h fun fl M q=>q.ext x
theorem H9 {c:Expr}{gc:Env->Mem->Res Bool}{st sf:List Stmt}{gt gf:Env->Mem->Res Fl}(hc:DT fa X c gc)(ht:kJ fa X st gt)(hf:kJ fa X sf gf):DS fa X (.If c st sf pos) (fun Z M=>(gc Z M).bind fun k M=>if k then gt Z M else gf Z M):=
 fH (Jm hc ht hf) fun D' σ H ⟨μ,Z,M,hE,hM,h⟩=>yw hE hM h fun k M1 H1 μ1 x1 hE1 hM1 h1=>by
  cases k with
  |true=>exact ⟨μ1,Z,M1,hE1,hM1,He x1 h1⟩
  |false=>exact ⟨μ1,Z,M1,hE1,hM1,He x1 h1⟩
theorem Fh:kJ fa X [] (fun Z M=>.ok (.next Z) M):=vD vC fun D' σ H ⟨μ,Z,M,hE,hM,h⟩=>h σ H μ .refl hE hM
theorem Ca {st:Stmt}{ss:List Stmt}{g:Env->Mem->Res Fl}{g':Env->Mem->Res Fl}(h1:DS fa X st g)(h2:kJ fa X ss g'):kJ fa X (st::ss) (fun Z M=>(g Z M).bind fun fl M=>match fl with
 |.next Z=>g' Z M
 |fl=>.ok fl M):=
 vD (oa h1 h2) fun D' σ H ⟨μ,Z,M,hE,hM,h⟩=>by
  obtain ⟨fl,M1,e,q⟩:=aW h
  refine ⟨μ,Z,M,hE,hM,?_⟩
  rw [e]
  cases fl with
  |next ρ1=>exact fun σ1 H1 μ1 x1 hE1 hM1=>⟨μ1,ρ1,M1,hE1,hM1,He x1 q⟩
  |ret d=>exact q
  |exc x ρ1=>exact q
end
end LD
namespace LD
open PySem PySem.Spec PyProof.Rows L2
def eF (fa:Fa)(K:Mr)(μ0:Mu)(H0:Hp)(w:Walk)(J:It):Prop:=
 ∀(μ:Mu) (H:Hp) (M:Mem) (ds:List D),ExtW μ0 H0 μ H->RelM fa K μ H M->w M=some ds->(∀(i:Nat) (d:D),ds[i]?=some d->J.go i H/\∀x H',J.yld i H x H'->Ext μ H μ H'/\RelM fa K μ H' M/\Rep fa K μ H' d x)/\∀i,ds.length<=i->J.stop i H
def tI (fa:Fa)(K:Mr)(g:Env->Mem->Res Walk):TI:=fun σ H R=>∃μ Z M,bz fa K μ H σ Z/\RelM fa K μ H M/\ai (g Z M) fun w M'=>∀J H' μ',Ext μ H μ' H'->RelM fa K μ' H' M'->eF fa K μ' H' w J->R J H'
abbrev DI (fa:Fa)(X:Cx)(tg iter:Expr)(g:Env->Mem->Res Walk):Prop:=PI X tg iter (tI fa X.K g)
theorem yf {fa:Fa}{K:Mr}{μ0 μ1:Mu}{H0 H1:Hp}{w:Walk}{J:It}(h:eF fa K μ0 H0 w J)(x:ExtW μ0 H0 μ1 H1):eF fa K μ1 H1 w J:=fun μ H M ds y hM e=>h μ H M ds (x.trans y) hM e
section
variable {fa:Fa}{X:Cx}{tg a b d:Expr}{ga gb gd:Env->Mem->Res D}{pos p:Pos}{es:List Expr}{n:Nat}
theorem yg {μ0:Mu}{H0:Hp}{dd:D}{ad:Addr}(h:Rep fa X.K μ0 H0 dd (.ref ad)):eF fa X.K μ0 H0 (fun M=>fS M dd) (IJ X.K ad):=fun μ H M ds x hM e=>by
 obtain ⟨ad',vs,ea,s,r⟩:=bW hM (Rep.extW x h) e
 cases ea
 refine ⟨fun i d hd=>?_,fun i hi=>⟨vs,s,by rw [r.length];exact hi⟩⟩
 obtain ⟨v,hv,rv⟩:=r.get hd
 refine ⟨⟨vs,v,s,hv⟩,fun y H' ⟨e,hy⟩=>?_⟩
 subst e
 have:=hy vs s
 rw [hv] at this;cases this
 exact ⟨.refl,hM,rv⟩
theorem AA {μ0:Mu}{H0:Hp}{ds:List D}{ad:Addr}(h:Rep fa X.K μ0 H0 (.tup ds) (.ref ad)):eF fa X.K μ0 H0 #[311] (IH X.K ad):=fun μ H M ds' x hM e'=>by
 cases e'
 obtain ⟨ad',vs,e,s,r⟩:=Rep.extW x h
 cases e
 refine ⟨fun i d hd=>?_,fun i hi=>⟨vs,s,by rw [r.length];exact hi⟩⟩
 obtain ⟨v,hv,rv⟩:=r.get hd
 refine ⟨⟨vs,v,s,hv⟩,fun y H' ⟨e,hy⟩=>?_⟩
 subst e
 have:=hy vs s
 rw [hv] at this;cases this
 exact ⟨.refl,hM,rv⟩
theorem AD {μ0:Mu}{H0:Hp}(lo:Int)(n:Nat):eF fa X.K μ0 H0 (fun _=>some ((List.range n).map fun (k:Nat)=>D.int (lo+(k:Int)))) (Dv lo n):=fun μ H M ds x hM e=>by
 cases e
 refine ⟨fun i d hd=>?_,fun i hi=>(show n<=i by simpa using hi)⟩
 rw [Nm] at hd
 by_cases hi:i<n
 ·rw [OO hi] at hd
  have e:D.int (lo+(i:Int))=d:=MA hd
  subst e
  refine ⟨hi,fun y H' ⟨e1,e2⟩=>?_⟩
  subst e1 e2
  exact ⟨.refl,hM,rfl⟩
 ·rw [NY #[101]] at hd;cases hd
def eD (ga:Env->Mem->Res D):Env->Mem->Res Walk:=fun Z M=>(ga Z M).bind fun x M=>match x with
 |.lst ds=>.ok #[311] M
 |.tup ds=>.ok #[311] M
 |.frz ds=>.ok #[311] M
 |.cell k=>.ok (fun M=>M[k]?) M
 |_=>.bad
theorem Ie (ha:DE fa X a ga):DI fa X tg a (eD ga):=fun pins s σ H R I ⟨μ,Z,M,hE,hM,h⟩=>by
 obtain ⟨x,M1,e,q⟩:=aW h
 have lst:#[178]->(∀J H' μ',Ext μ H μ' H'->RelM fa X.K μ' H' M1->eF fa X.K μ' H' (fun M=>fS M x) J->R J H')->
  wpAny #[2] X.A #[281] #[268] X.xe s:=fun hx q=>by
  refine EI ha pins s σ H R I ⟨μ,Z,M,hE,hM,?_⟩
  rw [e]
  intro v H1 μ1 x1 m1 r1
  obtain ⟨ds,er⟩:=hx μ1 H1 m1 v r1
  obtain ⟨ad,vs,rfl,s1,r⟩:=bW m1 r1 er
  exact ⟨ad,rfl,⟨vs,s1⟩,q _ H1 μ1 x1 m1 (yg r1)⟩
 cases x with
 |lst ds=>exact lst #[224] q
 |frz ds=>exact lst #[224] q
 | tup ds =>
   refine GL ha pins s σ H R I ⟨μ,Z,M,hE,hM,?_⟩
   rw [e]
   intro v H1 μ1 x1 m1 r1
   obtain ⟨ad,vs,rfl,s1,r⟩:=id r1
   exact ⟨ad,rfl,⟨vs,s1⟩,q _ H1 μ1 x1 m1 (AA r1)⟩
 |cell k=>exact lst (fun μ' H' m' v ⟨ad,_,hk⟩=>let ⟨ds,_,e,_⟩:=m'.mu_lt hk;⟨ds,e⟩) q
 |_=>exact q.elim
def dm (ga:Env->Mem->Res D):Env->Mem->Res Walk:=fun Z M=>(ga Z M).bind fun x M=>match x with
 |.int n=>if -(2^62)<=n/\n<2^62 then .ok (fun _=>some #[22]) M else .bad
 |_=>.bad
def JG (ga gb:Env->Mem->Res D):Env->Mem->Res Walk:=fun Z M=>(ga Z M).bind fun x M=>(gb Z M).bind fun y M=>match x,y with
 |.int i,.int j=>if -(2^62)<=i/\i<2^62/\-(2^62)<=j/\j<2^62 then .ok (fun _=>some ((List.range (j-i).toNat).map fun (k:Nat)=>D.int (i+(k:Int)))) M else .bad
 |_,_=>.bad
theorem Fs (ha:DE fa X a ga)(hg:Gl X "range")(hm:X.mg "range"=none)(hs:starEach [a] X.env=[#[42]]):DI fa X tg (.Call (.Name "range" p) [a] [] pos) (dm ga):=fun pins s σ H R I ⟨μ,Z,M,hE,hM,h⟩=>by
 refine yZ hg hm (b7 ha eA hs) hs pins s σ H R I ?_
 refine t1 hE hM h fun x M1 v H1 μ1 x1 hE1 hM1 r1 h1=>?_
 cases x with
 | int n =>
   dsimp only at h1
   split at h1
   ·next c=>
    obtain rfl:v=.int n:=r1
    refine ⟨n,rfl,c.1,c.2,h1 _ H1 μ1 x1 hM1 ?_⟩
    have:=AD (fa:=fa) (X:=X) (μ0:=μ1) (H0:=H1) 0 n.toNat
    simpa using this
   ·exact h1.elim
 |_=>exact h1.elim
def hJ (t:dv)(gb:Env->Mem->Res Fl):Fl->D->Mem->Res Fl:=fun fl d M=>match fl with
 |.next Z=>(cV M (cX t d Z)).bind fun ρ1 M=>gb ρ1 M
 |fl=>.ok fl M
def Fl.out:Fl->Bool
 |.next _=>false
 |_=>true
theorem lQ {t:dv}{gb:Env->Mem->Res Fl}{fl:Fl}{w:Walk}{P:Fl->Mem->Prop}(ho:fl.out=true):∀(n i:Nat) (M:Mem),ai (fy (hJ t gb) w n i fl M) P->P fl M
 |0,_,_,h=>h.elim
 | n + 1, i, M, h => by
   unfold fy at h
   cases e:w M with
   |none=>rw [e] at h;exact h.elim
   | some ds =>
     rw [e] at h
     dsimp only at h
     cases e2:ds[i]? with
     |none=>rw [e2] at h;exact h
     | some d' =>
       rw [e2] at h
       cases fl with
       |next Z=>cases ho
       |ret d=>exact lQ ho n (i+1) M h
       |exc x Z=>exact lQ ho n (i+1) M h
theorem Ia {t:dv}{body:List Stmt}{gw:Env->Mem->Res Walk}{gb:Env->Mem->Res Fl}(hp:PassesOwn #[2] X.A X.env X.xe)(hc:X.calm=true)(hi:DI fa X tg a gw)(hg:PG X tg (gT fa X.K t))(hb:kJ fa X body gb)
 (hs:∀x,foldedSetIterable a X.env x=pure x):DS fa X (.For tg a body [] pos) (fun Z M=>(gw Z M).bind fun w M=>dG (hJ t gb) w (.next Z) M):=
 fH (GJ hp hc hi hg hb hs) fun D' σ H ⟨μ,Z,M,hE,hM,h⟩=>by
  obtain ⟨w,M1,e,q⟩:=aW h
  refine ⟨μ,Z,M,hE,hM,?_⟩
  rw [e]
  intro J H1 μ1 x1 hM1 wk
  have hE1:=hE.ext x1
  refine ⟨fun i m σ' H'=>∃μ' ρ' M',Ext μ1 H1 μ' H'/\bz fa X.K μ' H' σ' ρ'/\RelM fa X.K μ' H' M'/\ai (fy (hJ t gb) w m i (.next ρ') M') #[290],
   ⟨_,μ1,Z,M1,.refl,hE1,hM1,q⟩,?_⟩
  rintro i m σ2 H2 ⟨μ2,ρ2,M2,x2,hE2,hM2,q2⟩
  cases m with
  |zero=>exact q2.elim
  | succ m =>
    unfold fy at q2
    cases e2:w M2 with
    |none=>rw [e2] at q2;exact q2.elim
    | some ds =>
      rw [e2] at q2
      dsimp only at q2
      obtain ⟨go,stop⟩:=wk μ2 H2 M2 ds x2.toExtW hM2 e2
      cases ed:ds[i]? with
      | none =>
        rw [ed] at q2
        exact .inl ⟨stop i (List.getElem?_eq_none_iff.mp ed),q2 σ2 H2 μ2 (x1.trans x2) hE2 hM2⟩
      | some d =>
        rw [ed] at q2
        obtain ⟨g1,g2⟩:=go i d ed
        refine .inr ⟨g1,fun σ' H'=>∃μ' ρ' M',Ext μ1 H1 μ' H'/\bz fa X.K μ' H' σ' ρ'/\RelM fa X.K μ' H' M'/\ai (fy (hJ t gb) w m (i+1) (.next ρ') M') #[290],fun σ' H' z=>⟨m,by omega,z⟩,fun y H3 hy=>?_⟩
        obtain ⟨x3,hM3,r3⟩:=g2 y H3 hy
        have q2:ai (((cV M2 (cX t d ρ2)).bind fun ρ1 M=>gb ρ1 M).bind (fy (hJ t gb) w m (i+1))) #[290]:=q2
        obtain ⟨fl,M4,e4,q4⟩:=aW q2
        obtain ⟨ρ4,M5,e5,e6⟩:=fD e4
        cases eb:cX t d ρ2 with
        |none=>rw [eb] at e5;cases e5
        | some ρ5 =>
          rw [eb] at e5
          cases e5
          refine ⟨μ2,ρ2,_,d,ρ4,hE2.ext x3,hM3,r3,eb,fun σ5 hE5=>⟨μ2,ρ4,_,hE5,hM3,?_⟩⟩
          rw [e6]
          cases fl with
          |next ρ6=>exact fun σ6 H6 μ6 x6 hE6 hM6=>⟨μ6,ρ6,M4,(x2.trans x3).trans x6,hE6,hM6,q4⟩
          |ret d6=>exact (lQ rfl m (i+1) M4 q4).ext #[206]
          |exc x6 ρ6=>exact (lQ rfl m (i+1) M4 q4).ext #[206]
end
end LD
namespace LD
open PySem PySem.Spec PyProof.Rows L2
abbrev FF:Mq->Mx->Prop:=fun _ _=>False
section
variable {prog:MP}{w:Nd}{A:Nr}{s:Mx}
theorem zY {elt:Expr}{gens:List OG}{scope:Scope}{pos p:Pos}{k:Nat}{it acc:Mq}{env:Np}{R:Result->Mx->Prop}{target:Expr}{body:Sem Unit}
 (heq:compTurn #[66] k it acc env=(standAt p >>= fun _=>pyNext it >>= fun r=>match r with
  |none=>pure (.done .next)
  |some v=>letOwnedTupleGo target it v >>= fun _=>assign target env v >>= fun _=>body >>= fun _=>again (.compLoop #[66] k it acc env)))
 (I:Nat->Mx->Prop)
 (turn:∀n s,I n s->wpAny #[8] A (pyNext it) (fun r s₁=>match r with
  |none=>R (.ok .next) s₁
  |some v=>wpAny #[8] A (letOwnedTupleGo target it v) (fun _ s₂=>wpAny #[8] A (assign target env v) (fun _ s₃=>wpAny #[8] A body (fun _ s₄=>∃m,m<n/\I m s₄) FF s₃) FF s₂) FF s₁) FF s)
 (n:Nat) (h:I n s):codeAny #[8] A (.compLoop #[66] k it acc env) R s:=by
 refine codeAny_loop rfl I (fun n s hI=>?_) n h
 show wpAny _ _ ((compTurn #[66] k it acc env).onRaise (fun x=>do noteFrame x env;theTreesLotGoes x)) _ _ s
 refine wpAny_noted ?_
 rw [heq]
 refine wpAny_noRaise ?_
 refine tqa (wpAny_standAt (tqa (bc (turn n s hI) fun r s₁ h₁=>?_)))
 cases r with
 |none=>exact tqb h₁
 | some v =>
   refine tqa (bc h₁ fun _ s₂ h₂=>?_)
   exact tqa (bc h₂ fun _ s₃ h₃=>tqa (bc h₃ fun _ s₄ h₄=>tqb ⟨rfl,h₄⟩))
theorem A1 (elt target iter:Expr)(gs:List OG)(scope:Scope)(pos:Pos)(it acc:Mq)(env:Np) :
 compTurn (.ListComp elt [⟨target,iter,[],0⟩] scope pos) 0 it acc env=(standAt iter.pos >>= fun _=>pyNext it >>= fun r=>match r with
  |none=>pure (.done .next)
  |some v=>letOwnedTupleGo target it v >>= fun _=>assign target env v >>= fun _=>#[59] >>= fun _=>again (.compLoop (.ListComp elt [⟨target,iter,[],0⟩] scope pos) 0 it acc env)):=by rfl
theorem turn_if (elt target iter c:Expr)(scope:Scope)(pos:Pos)(it acc:Mq)(env:Np) :
 compTurn (.ListComp elt [⟨target,iter,[c],0⟩] scope pos) 0 it acc env=(standAt iter.pos >>= fun _=>pyNext it >>= fun r=>match r with
  |none=>pure (.done .next)
  |some v=>letOwnedTupleGo target it v >>= fun _=>assign target env v >>= fun _=>(isTrue c env (eval c env) >>= fun ok=>if ok=true then #[59] else pure ()) >>= fun _=>again (.compLoop (.ListComp elt [⟨target,iter,[c],0⟩] scope pos) 0 it acc env)):=by
 rw [compTurn_list]
 refine congrArg _ (funext fun _=>congrArg _ (funext fun r=>?_))
 cases r with
 |none=>rfl
 | some v =>
   simp only [Oi,OS,if_true,bind_assoc,pure_bind]
   refine congrArg _ (funext fun _=>congrArg _ (funext fun _=>congrArg _ (funext fun ok=>?_)))
   cases ok<;>simp
theorem AZ (elt target iter t2 i2:Expr)(scope:Scope)(pos:Pos)(it acc:Mq)(env:Np) :
 compTurn #[29] 0 it acc env=(standAt iter.pos >>= fun _=>pyNext it >>= fun r=>match r with
  |none=>pure (.done .next)
  |some v=>letOwnedTupleGo target it v >>= fun _=>assign target env v >>= fun _=>(eval i2 env >>= fun x=>standAt i2.pos >>= fun _=>foldedSetIterable i2 env x >>= fun x=>holding [x] (pyIter x) >>= fun j=>runOwn (.compStart #[29] 1 j acc env) env >>= fun _=>pure ()) >>= fun _=>again (.compLoop #[29] 0 it acc env)):=by
 unfold compTurn
 simp only [MU,bne_self_eq_false,N7,if_false]
 refine bind_congr fun _=>bind_congr fun r=>?_
 cases r with
 |none=>rfl
 |some v=>simp
theorem A0 (elt target iter t2 i2:Expr)(scope:Scope)(pos:Pos)(it acc:Mq)(env:Np) :
 compTurn #[29] 1 it acc env=(standAt i2.pos >>= fun _=>pyNext it >>= fun r=>match r with
  |none=>pure (.done .next)
  |some v=>letOwnedTupleGo t2 it v >>= fun _=>assign t2 env v >>= fun _=>#[59] >>= fun _=>again (.compLoop #[29] 1 it acc env)):=by
 rfl
theorem lZ (env:Np):∀(ns:List (Str×Pj)) (cs:List #[196]),(∀y∈ns,y.2=.free->∃c,env.cells.lookup y.1=some c)->(∀x c,cs.lookup x=some c->env.cells.lookup x=some c)->
 ∃cl,(forIn ns cs fun (y:Str×Pj) (r:List #[196])=>if (y.2==NameKind.free)=true then cellOf env y.1 >>= fun a=>pure (ForInStep.yield ((y.1,a)::r)) else pure (ForInStep.yield r):Sem _)=pure cl/\
  #[335]/\(∀x c,cs.lookup x=some c->∃c',cl.lookup x=some c')/\∀y∈ns,y.2=.free->∃c,cl.lookup y.1=some c
 |[],cs,_,h2=>⟨cs,by simp,h2,fun x c e=>⟨c,e⟩,fun y hy=>nomatch hy⟩
 | (n, k) :: ns, cs, h1, h2 => by
   by_cases hk:k=.free
   ·subst hk
    obtain ⟨a,ha⟩:=h1 (n,.free) MM rfl
    have lk:∀x c,((n,a)::cs).lookup x=some c->env.cells.lookup x=some c:=fun x c e=>by
     rw [Nn] at e
     split at e
     ·next q=>cases e;rw [eq_of_beq q];exact ha
     ·exact h2 x c e
    obtain ⟨cl,e,p1,p2,p3⟩:=lZ env ns ((n,a)::cs) (fun y hy=>h1 y (ME _ hy)) lk
    refine ⟨cl,?_,p1,fun x c q=>?_,fun y hy hf=>?_⟩
    ·rw [Oi]
     have ec:cellOf env n=pure a:=by unfold cellOf;rw [ha]
     simp only [beq_self_eq_true,if_true,ec]
     exact e
    ·by_cases hx:x=n
     ·exact p2 x a (by rw [Nn,hx];simp)
     ·exact p2 x c (by rw [Nn,ND.mpr hx];exact q)
    ·rcases Mz.mp hy with z|z
     ·subst z;exact p2 n a (by simp [Nn])
     ·exact p3 y z hf
   ·obtain ⟨cl,e,p1,p2,p3⟩:=lZ env ns cs (fun y hy=>h1 y (ME _ hy)) h2
    refine ⟨cl,?_,p1,p2,fun y hy hf=>?_⟩
    ·rw [Oi]
     have eb:(k==NameKind.free)=false:=by simpa using hk
     simp only [eb,N7,if_false]
     exact e
    ·rcases Mz.mp hy with z|z
     ·subst z;exact absurd hf hk
     ·exact p3 y z hf
theorem xK {scope:Scope}{env:Np}(h:∀y∈scope.names,y.2=.free->∃c,env.cells.lookup y.1=some c) :
 ∃cl,closureFor scope env=pure cl/\#[335]/\∀y∈scope.names,y.2=.free->∃c,cl.lookup y.1=some c:=by
 obtain ⟨cl,e,p1,_,p3⟩:=lZ env scope.names [] h (fun x c q=>nomatch q)
 exact ⟨cl,by unfold closureFor;simp only [bind_pure];exact e,p1,p3⟩
end
end LD
namespace LD
open PySem PySem.Spec PyProof.Rows L2
def iu (X:Cx)(own bn:List Str)(scope:Scope)(cl:List #[196])(C:Addr)(fp:List Addr)(s:Mx)(H:Hp):Cx:=
 {X with N:=own++bn,s₀:=s,H₀:=H,env:=compEnvC scope cl C X.env,outer:=X.stack,ex:=fp,fn:=fun _=>false,pn:=[],xe:=FF}
theorem mem_of_lookup {β:Type}:∀{l:List (Str×β)}{x:Str}{k:β},l.lookup x=some k->(x,k)∈l
 |[],_,_,h=>by cases h
 | (n, b) :: r, x, k, h => by
   rw [Nn] at h
   split at h
   ·next q=>cases h;rw [eq_of_beq q];exact MM
   ·exact ME _ (mem_of_lookup h)
theorem hX {env:Np}:∀{names:List (Str×Pj)}{x:Str}{k:Pj},
 (names.map fun (n,k)=>if #[238] then (n,NameKind.cell) else (n,k)).lookup x=some k->
 ∃k0,(x,k0)∈names/\names.lookup x=some k0/\(k=k0\/(k0=.free/\k=.cell))
 |[],_,_,h=>by cases h
 | (n, k0) :: r, x, k, h => by
   have ih:=@hX env r x k
   have h:List.lookup x ((if (k0==NameKind.free&&env.scope.kind==.function&&env.kindOf n==some .cell)=true then (n,NameKind.cell) else (n,k0))::_)=some k:=h
   cases hx:x==n with
   | true =>
     have e:=eq_of_beq hx
     subst e
     refine ⟨k0,MM,by simp [Nn],?_⟩
     split at h
     ·next c=>
      simp [Nn] at h
      simp at c
      exact .inr ⟨c.1.1,h.symm⟩
     ·simp [Nn] at h
      exact .inl h.symm
   | false =>
     have h':List.lookup x (r.map fun (n,k)=>if #[238] then (n,NameKind.cell) else (n,k))=some k:=by
      split at h<;>simpa [Nn,hx] using h
     obtain ⟨k1,h1,h2,h3⟩:=ih h'
     exact ⟨k1,ME _ h1,by simp [Nn,hx];exact h2,h3⟩
theorem ph {α β:Type}{R:α->β->Prop}:∀{l:List α}{r:List β}{i:Nat}{x:α},OA R l r->l[i]?=some x->∃y,r[i]?=some y/\R x y
 |_,_,_,_,.nil,e=>by simp at e
 |_,_,0,_,.cons p _,e=>by simp at e;subst e;exact ⟨_,rfl,p⟩
 | _, _, i + 1, x, .cons _ t, e => by
   obtain ⟨y,h1,h2⟩:=ph (i:=i) (x:=x) t #[327]
   exact ⟨y,by simpa using h1,h2⟩
structure jj (X:Cx) (own bn:List Str) (scope:Scope):Prop where
 kind:scope.kind=.function
 nocell:∀y∈scope.names,y.2≠.cell
 loc:∀y∈scope.names,y.2=.local->scope.names.lookup y.1=some .local
 free:∀y∈scope.names,y.2=.free->X.env.kindOf y.1=some .cell\/X.env.kindOf y.1=some .free
 dis:OA (fun b x=>(b=x/\scope.names.lookup x≠some .local)\/scope.names.lookup b=none) bn X.N
section
variable {X:Cx}{pins:List #[15]}{σ:L2.St}{H:Hp}{s:Mx}{fp:List Addr}{scope:Scope}{cl:List #[196]}{own bn:List Str}
structure Cl (X:Cx) (scope:Scope) (cl:List #[196]):Prop where
 sub:∀x c,cl.lookup x=some c->X.env.cells.lookup x=some c
 has:∀y∈scope.names,y.2=.free->∃c,cl.lookup y.1=some c
theorem FA (I:Inv X pins σ H s)(S:jj X own bn scope)(hcl:Cl X scope cl)(hfp:∀b∈fp,gz X pins H b)(hfo:∀b∈fp,∃o,s.heap.get? b=some o) :
 (iu X own bn scope cl s.heap.objs.size fp s H).Ok where
 mod:=I.ok.mod
 kind:=S.kind
 glob:=I.ok.glob
 blt:=I.ok.blt
 above:=My _
 inj:=fun x y c h1 h2=>I.ok.inj x y c (hcl.sub x c h1) (hcl.sub y c h2)
 has:=fun x h=>by
  have key:∀k,(relabel scope X.env).names.lookup x=some k->(k=.cell\/k=.free)->∃c,cl.lookup x=some c:=fun k hk hh=>by
   obtain ⟨k0,h1,h2,h3⟩:=hX hk
   have hf:k0=.free:=by
    rcases h3 with e|⟨e,_⟩
    ·rcases hh with z|z
     ·exact absurd (e.symm.trans z) (S.nocell _ h1)
     ·exact e.symm.trans z
    ·exact e
   exact hcl.has _ h1 hf
  rcases h with h|h
  ·exact key _ h #[131]
  ·exact key _ h (.inr rfl)
 cab:=fun x c h=>nomatch h
 hd:=I.ok.hd
 frames:=I.ok.frames
 stk:=.inl rfl
 exf:=fun b hb=>⟨fun e=>by
  obtain ⟨o,ho⟩:=hfo b hb
  exact absurd (MJ ho) (by rw [e];exact NO _),fun x c e=>(hfp b hb).2.2.2.2.1 x c (hcl.sub x c e)⟩
 bs:=fun b o e=>I.bs b o e
 bsz:=MF I.ok.bsz I.sz
 noex:=fun b o e hb=>by
  rcases (hfp b hb).2.2.2.1 with z|z
  ·exact I.ok.noex b o e z
  ·exact absurd (MQ (MJ e) (MF I.ok.bsz z)) (NO _)
 exfs:=fun b hb hx=>by
  rcases Mz.mp (I.stkSub b hx) with e|e
  ·exact (hfp b hb).2.1 e
  ·exact (hfp b hb).2.2.1 e
 funs:=I.stack
 frf:=fun b hb=>I.stkFree b hb
theorem Ck (I:Inv X pins σ H s)(S:jj X own bn scope)(hcl:Cl X scope cl)(hfp:∀b∈fp,gz X pins H b)(hfo:∀b∈fp,∃o,s.heap.get? b=some o){h':Heap}{t':Nat}{m:Str->Option Mq}
 (hn:h'.Ns s.heap.objs.size m) (hk:∀b o,s.heap.get? b=some o->h'.get? b=some o) :
 Inv (iu X own bn scope cl s.heap.objs.size fp s H) [] (List.replicate own.length none++σ) H {s with heap:=h',toks:=t'} where
 ok:=FA I S hcl hfp hfo
 os:=rfl
 bare:=I.bare
 base:=Un.kept hk
 loc:=by
  refine ⟨m,hn,fun i x v e1 e2 hv=>?_⟩
  have e1:(own++bn)[i]?=some x:=e1
  have hi:own.length<=i:=by
   by_cases q:i<own.length
   ·rw [Ng #[116],Oe] at e2
    simp [q] at e2
   ·omega
  rw [NK hi] at e1
  rw [NK #[101]] at e2
  simp only [OJ] at e2
  have hx:X.N[i-own.length]?=some x/\scope.names.lookup x≠some .local:=by
   rcases ph S.dis e1 with ⟨y,h1,⟨h2,h3⟩|h2⟩
   ·subst h2;exact ⟨h1,h3⟩
   ·exfalso
    have no:∀k,(relabel scope X.env).names.lookup x≠some k:=fun k hk=>by
     obtain ⟨k0,_,h3,_⟩:=hX hk
     rw [h2] at h3;cases h3
    rcases hv with z|z|z
    ·exact no _ z
    ·exact no _ z
    ·exact no _ z
  have key:∀k,(relabel scope X.env).names.lookup x=some k->(k=.local\/k=.cell\/k=.free)->∃c,(k=.cell\/k=.free)/\cl.lookup x=some c/\#[328]:=fun k hk2 hh=>by
   obtain ⟨k0,h1,h2,h3⟩:=hX hk2
   have nl:k0≠.local:=fun e=>hx.2 (by rw [h2,e])
   have hf:k0=.free:=by
    rcases h3 with e|⟨e,_⟩
    ·rcases hh with z|z|z
     ·exact absurd (e.symm.trans z) nl
     ·exact absurd (e.symm.trans z) (S.nocell _ h1)
     ·exact e.symm.trans z
    ·exact e
   obtain ⟨c,hc⟩:=hcl.has _ h1 hf
   refine ⟨c,?_,hc,S.free _ h1 hf⟩
   rcases hh with z|z|z
   ·rcases h3 with e|⟨_,e⟩
    ·rw [hf] at e;rw [e] at z;cases z
    ·rw [e] at z;cases z
   ·exact .inl z
   ·exact .inr z
  have fin:∀k,(relabel scope X.env).names.lookup x=some k->(k=.local\/k=.cell\/k=.free)->∃u,RelV v u/\Look (compEnvC scope cl s.heap.objs.size X.env) h' m x u:=fun k hk2 hh=>by
   obtain ⟨c,h1,h2,h3⟩:=key k hk2 hh
   obtain ⟨m0,_,hl⟩:=I.loc
   obtain ⟨u,r,l⟩:=hl _ x v hx.1 e2 (.inr h3)
   refine ⟨u,r,.inr ⟨?_,c,h2,?_⟩⟩
   ·rcases h1 with z|z
    ·subst z;exact .inl hk2
    ·subst z;exact .inr hk2
   ·rcases l with ⟨z,_⟩|⟨_,c',hc',hcell⟩
    ·rcases h3 with q|q
     ·rw [z] at q;cases q
     ·rw [z] at q;cases q
    ·rw [hcl.sub x c h2] at hc';cases hc'
     obtain ⟨o,ho,hd⟩:=hcell
     exact ⟨o,hk _ _ ho,hd⟩
  rcases hv with z|z|z
  ·exact fin _ z #[131]
  ·exact fin _ z (.inr #[131])
  ·exact fin _ z (.inr (.inr rfl))
 cell:=fun x c e=>by
  obtain ⟨v,o,ho,hd⟩:=I.cell x c (hcl.sub x c e)
  exact ⟨v,o,hk _ _ ho,hd⟩
 free:=I.hok.fresh (My _)
 freeC:=fun x c e=>I.freeC x c (hcl.sub x c e)
 pin:=fun p hp=>nomatch hp
 hok:=I.hok.kept hk
 len:=by
  show (List.replicate own.length none++σ).length=(own++bn).length
  have:=Paired.length S.dis
  simp [I.len,this]
theorem comp_back (I:Inv X pins σ H s)(hfp:∀b∈fp,gz X pins H b){pins':List #[15]}{σ':L2.St}{H':Hp}{s':Mx}{C:Addr}(I':Inv #[312] pins' σ' H' s'):Inv X pins σ H' s':=
 I.call' (ch:=fp) I'.os I'.base I'.hok I'.bare fun b hb=>⟨(hfp b hb).2.2.2.1,(hfp b hb).2.1,(hfp b hb).2.2.2.2.1,(hfp b hb).2.2.2.2.2⟩
theorem zZ (I:Inv X pins σ H s){σ':L2.St}{H':Hp}{s':Mx}(hf:H' s.heap.objs.size=none)(I':Inv X pins σ' H' s'){h'':Heap}(hs:OV s.heap.objs.size s'.heap h''):Inv X pins σ' H' {s' with heap:=h''}:=
 I'.turned (t':=s'.toks) (fun b o hb e=>(hs.2 b hb).trans e) hf (NI I.lt) (.inr I.sz) (fun x c e z=>by
  obtain ⟨v,q⟩:=I.cell x c e
  exact absurd q.lt #[244]) fun p hp z=>absurd (MJ (I.pin p hp).1) #[244]
end
end LD
namespace LD
open PySem PySem.Spec PyProof.Rows L2
structure gk (a:Addr) (μ:Mu) (H:Hp) (μ':Mu) (H':Hp):Prop extends ExtW μ H μ' H' where
 pr:μ'.priv=μ.priv
 pk:∀b∈μ.priv,b≠a->H' b=H b
theorem gk.refl {a:Addr}{μ:Mu}{H:Hp}:gk a μ H μ H:=⟨.refl,rfl,fun _ _ _=>rfl⟩
theorem gk.trans {a:Addr}{μ μ1 μ2:Mu}{H H1 H2:Hp}(x:gk a μ H μ1 H1)(y:gk a μ1 H1 μ2 H2):gk a μ H μ2 H2:=
 ⟨x.toExtW.trans y.toExtW,y.pr.trans x.pr,fun b hb n=>(y.pk b (by rw [x.pr];exact hb) n).trans (x.pk b hb n)⟩
theorem Ext.toD {a:Addr}{μ μ':Mu}{H H':Hp}(x:Ext μ H μ' H'):gk a μ H μ' H':=⟨x.toExtW,x.pr,fun b hb _=>x.pk b hb⟩
def slots:dv->List Nat
 |.one i=>[i]
 |.tup l=>l
def Clear (W:List Nat)(Z:Env):Prop:=∀i∈W,∀d,Z[i]?≠some (some d)
section
variable {fa:Fa}{K:Mr}{μ μ':Mu}{H H':Hp}{σ:L2.St}{Z ρ1:Env}{M:Mem}{a:Addr}
theorem bz.weak (h:bz fa K μ H σ ρ1)(hl:ρ1.length=Z.length)(w:∀(i:Nat) d,Z[i]?=some (some d)->ρ1[i]?=some (some d)):bz fa K μ H σ Z:=
 ⟨h.len.trans hl,fun i d e=>h.at' i d (w i d e)⟩
theorem oW:∀{l:List Nat}{ds:List D}{Z ρ1:Env},eL l ds Z=some ρ1->ρ1.length=Z.length/\∀i,i∉l->ρ1[i]?=Z[i]?
 |[],[],Z,ρ1,h=>by cases h;exact ⟨rfl,fun _ _=>rfl⟩
 |_::_,[],_,_,h=>by cases h
 |[],_::_,_,_,h=>by cases h
 | j :: l, d :: ds, Z, ρ1, h => by
   obtain ⟨h1,h2⟩:=oW (l:=l) (ds:=ds) h
   refine ⟨by simpa using h1,fun i hi=>?_⟩
   rw [h2 i (fun z=>hi (ME _ z)),MY (fun z=>hi (by rw [z];exact MM))]
theorem rQ {t:dv}{d:D}(h:cX t d Z=some ρ1):ρ1.length=Z.length/\∀i,i∉slots t->ρ1[i]?=Z[i]?:=by
 cases t with
 | one j =>
   have h:some (Z.set j (some d))=some ρ1:=h
   cases h
   exact ⟨by simp,fun i hi=>MY (fun z=>hi (by rw [z];exact MM))⟩
 | tup l =>
   cases d with
   |tup ds=>exact oW h
   |_=>cases h
theorem bz.unbind {t:dv}{d:D}(h:cX t d Z=some ρ1)(c:Clear (slots t) Z)(r:bz fa K μ H σ ρ1):bz fa K μ H σ Z:=by
 obtain ⟨h1,h2⟩:=rQ h
 refine r.weak h1 fun i d e=>?_
 by_cases hi:i∈slots t
 ·exact absurd e (c i hi d)
 ·rw [h2 i hi];exact e
theorem RelM.writeP (h:RelM fa K μ H M){ws vs:List V}(e:a∈μ.priv)(hH:H a=some (.lst vs)):RelM fa K μ #[136] M:=by
 have x:ExtW μ H μ #[136]:=ExtW.write hH (.inr e)
 refine ⟨fun k ds q=>?_,h.out,h.inj,fun b hb=>⟨?_,(h.pv b hb).2⟩⟩
 ·obtain ⟨b,us,h1,h2,h3⟩:=h.at' k ds q
  have nb:b≠a:=fun z=>(h.pv a e).2 k (by rw [h1,z])
  exact ⟨b,us,h1,by rw [aO nb];exact h2,h3.extW x⟩
 ·by_cases hb':b=a
  ·subst hb';exact ⟨ws,bV⟩
  ·obtain ⟨us,q⟩:=(h.pv b hb).1
   exact ⟨us,by rw [aO hb'];exact q⟩
theorem gk.writeP {ws vs:List V}(e:a∈μ.priv)(hH:H a=some (.lst vs)):gk a μ H μ #[136]:=
 ⟨ExtW.write hH (.inr e),rfl,fun b _ n=>by rw [aO n]⟩
end
def WB (fa:Fa)(K:Mr)(a:Addr)(μ:Mu)(H:Hp)(Z:Env)(Q:L2.St->Hp->Prop)(acc:List D)(M':Mem):Prop:=
 ∀σ' H' μ' vs',gk a μ H μ' H'->bz fa K μ' H' σ' Z->RelM fa K μ' H' M'->H' a=some (.lst vs')->aT fa K μ' H' acc vs'->Q σ' H'
theorem WB.ext {fa:Fa}{K:Mr}{a:Addr}{μ μ1:Mu}{H H1:Hp}{Z:Env}{Q:L2.St->Hp->Prop}{acc:List D}{M':Mem}(h:WB fa K a μ H Z Q acc M')(x:gk a μ H μ1 H1):WB fa K a μ1 H1 Z Q acc M':=
 fun σ' H' μ' vs' y e m h1 h2=>h σ' H' μ' vs' (x.trans y) e m h1 h2
def DB (fa:Fa)(X:Cx)(a:Addr)(W:List Nat)(body:Sem Unit)(g:Env->List D->Mem->Res (List D)):Prop:=
 ∀(pins:List #[15]) (s:Mx) (σ:L2.St) (H:Hp) (Q:L2.St->Hp->Prop) (μ:Mu) (Z:Env) (M:Mem) (acc:List D) (vs:List V),Inv X pins σ H s->bz fa X.K μ H σ Z->RelM fa X.K μ H M->Clear W Z->a∈μ.priv->H a=some (.lst vs)->aT fa X.K μ H acc vs->
  ai (g Z acc M) #[171]->wpAny #[2] X.A body #[74] X.xe s
def bU (ge:Env->Mem->Res D):Env->List D->Mem->Res (List D):=fun Z acc M=>(ge Z M).bind fun x M=>if acc.length<sz then .ok (acc++[x]) M else .bad
def k9 (gc:Env->Mem->Res Bool)(g:Env->List D->Mem->Res (List D)):Env->List D->Mem->Res (List D):=fun Z acc M=>(gc Z M).bind fun k M=>if k then g Z acc M else .ok acc M
def dI (t:dv)(g:Env->List D->Mem->Res (List D))(Z:Env):List D->D->Mem->Res (List D):=fun acc d M=>(cV M (cX t d Z)).bind fun ρ1 M=>g ρ1 acc M
def uB (t:dv)(gw:Env->Mem->Res Walk)(g:Env->List D->Mem->Res (List D)):Env->List D->Mem->Res (List D):=fun Z acc M=>(gw Z M).bind fun w M=>dG (dI t g Z) w acc M
section
variable {fa:Fa}{X:Cx}{a:Addr}
theorem uJ {elt:Expr}{ge:Env->Mem->Res D}(he:DE fa X elt ge):DB fa X a [] (eval elt X.env >>= fun x=>call (.builtin "list.append") [.ref a,x] >>= fun _=>pure ()) (bU ge):=by
 intro pins s σ H Q μ Z M acc vs I hE hM hc ha hH hr h
 obtain ⟨x,M1,e,q⟩:=aW h
 split at q
 ·next hz=>
  have q:WB fa X.K a μ H Z Q (acc++[x]) M1:=q
  refine tqa (bc (he pins s σ H (fun v H1=>∃μ1,Ext μ H μ1 H1/\RelM fa X.K μ1 H1 M1/\Rep fa X.K μ1 H1 x v) I ⟨μ,Z,M,hE,hM,?_⟩) fun u s1 ⟨v,H1,I1,rv,μ1,x1,m1,r1⟩=>?_)
  ·rw [e];exact fun v H1 μ1 x1 m1 r1=>⟨μ1,x1,m1,r1⟩
  have hH1:H1 a=some (.lst vs):=by rw [x1.pk a ha];exact hH
  have ha1:a∈μ1.priv:=by rw [x1.pr];exact ha
  have hl:vs.length<sizeLine:=by rw [hr.length,<- dH];exact hz
  refine tqa (bc (rB pins s1 σ H1 (.ref a) [v] (.ref a) [u] (fun _ H2=>H2=upd H1 a (.lst (vs++[v]))) I1 rfl (.cons rv .nil) ⟨a,vs,v,rfl,rfl,hH1,hl,rfl⟩) fun _ s2 ⟨_,H2,I2,_,e2⟩=>tqb ⟨σ,H2,I2,?_⟩)
  subst e2
  have xd:gk a μ1 H1 μ1 (upd H1 a (.lst (vs++[v]))):=gk.writeP ha1 hH1
  exact q σ _ μ1 (vs++[v]) (x1.toD.trans xd) (#[217].extW xd.toExtW) (m1.writeP ha1 hH1) bV (((hr.ext x1).append (.one r1)).extW xd.toExtW)
 ·exact q.elim
theorem JQ {c:Expr}{gc:Env->Mem->Res Bool}{W:List Nat}{body:Sem Unit}{g:Env->List D->Mem->Res (List D)}(hc:DT fa X c gc)(hb:DB fa X a W body g) :
 DB fa X a W (isTrue c X.env (eval c X.env) >>= fun ok=>if ok=true then body else pure ()) (k9 gc g):=by
 intro pins s σ H Q μ Z M acc vs I hE hM hw ha hH hr h
 obtain ⟨k,M1,e,q⟩:=aW h
 refine tqa (bc (hc pins s σ H (fun b H1=>b=k/\∃μ1,Ext μ H μ1 H1/\RelM fa X.K μ1 H1 M1) I ⟨μ,Z,M,hE,hM,?_⟩) fun b s1 ⟨H1,I1,eb,μ1,x1,m1⟩=>?_)
 ·rw [e];exact fun H1 μ1 x1 m1=>⟨rfl,μ1,x1,m1⟩
 subst eb
 have hH1:H1 a=some (.lst vs):=by rw [x1.pk a ha];exact hH
 have ha1:a∈μ1.priv:=by rw [x1.pr];exact ha
 cases b with
 | true =>
   rw [if_pos rfl]
   exact hb pins s1 σ H1 Q μ1 Z M1 acc vs I1 #[217] m1 hw ha1 hH1 (hr.ext x1) (aG q fun _ _ w=>w.ext x1.toD)
 | false =>
   rw [if_neg Nf]
   have q:WB fa X.K a μ H Z Q acc M1:=q
   exact tqb ⟨σ,H1,I1,q σ H1 μ1 vs x1.toD #[217] m1 hH1 (hr.ext x1)⟩
theorem wa {elt:Expr}{gens:List OG}{scope:Scope}{pos p:Pos}{k:Nat}{tg:Expr}{body:Sem Unit}{t:dv}{W:List Nat}{g:Env->List D->Mem->Res (List D)}{it:Addr}{fp:List Addr}{tn:Nat->Heap->Prop}{J:It}
 (heq:compTurn #[66] k (.ref it) (.ref a) X.env=(standAt p >>= fun _=>pyNext (.ref it) >>= fun r=>match r with
  |none=>pure (.done .next)
  |some v=>letOwnedTupleGo tg (.ref it) v >>= fun _=>assign tg X.env v >>= fun _=>body >>= fun _=>again (.compLoop #[66] k (.ref it) (.ref a) X.env)))
 (hx:X.xe=FF) (hcalm:X.calm=true) (T:Turn X.prog X.w X.K tg J fp it tn) (hg:PG X tg (gT fa X.K t)) (hb:DB fa X a W body g) (hW:∀i∈W,i∉slots t)
 {pins:List #[15]}{s:Mx}{σ:L2.St}{H:Hp}{Q:L2.St->Hp->Prop}{μ:Mu}{Z:Env}{M:Mem}{acc:List D}{vs:List V}{w:Walk} (I:Inv X pins σ H s) (st:tn 0 s.heap) (hf:∀b∈fp,gz X pins H b) (hE:bz fa X.K μ H σ Z) (hM:RelM fa X.K μ H M)
 (hcl:Clear (slots t++W) Z) (ha:a∈μ.priv) (hH:H a=some (.lst vs)) (hr:aT fa X.K μ H acc vs) (wk:eF fa X.K μ H w J) (q:ai (dG (dI t g Z) w acc M) #[171]) :
 codeAny #[2] X.A (.compLoop #[66] k (.ref it) (.ref a) X.env) (fun r s'=>r=.ok .next/\∃σ' H',Inv X pins σ' H' s'/\Q σ' H') s:=by
 have stat:∀{H':Hp},#[193]->∀b∈fp,gz X pins H' b:=fun hn b hb=>⟨hn b hb,(hf b hb).2⟩
 have clt:Clear (slots t) Z:=fun i hi=>hcl i (N2 _ hi)
 have clW:∀d ρ1,cX t d Z=some ρ1->Clear W ρ1:=fun d ρ1 e i hi d' z=>by
  rw [(rQ e).2 i (hW i hi)] at z
  exact hcl i (Nq _ hi) d' z
 let P:Nat->Nat->Mx->Prop:=fun m i s'=>∃σ' H' μ' M' acc' vs',Inv X pins σ' H' s'/\tn i s'.heap/\#[193]/\gk a μ H μ' H'/\bz fa X.K μ' H' σ' Z/\RelM fa X.K μ' H' M'/\H' a=some (.lst vs')/\aT fa X.K μ' H' acc' vs'/\
  ai (fy (dI t g Z) w m i acc' M') #[171]
 have P0:∃m,P m 0 s:=⟨_,σ,H,μ,M,acc,vs,I,st,fun b hb=>(hf b hb).1,.refl,hE,hM,hH,hr,q⟩
 obtain ⟨m0,P0⟩:=P0
 have hturn:∀(n:Nat) (i:Nat) (s3:Mx),P n i s3->wpAny #[2] X.A #[261] (fun r s₁=>match r with
  |none=>#[187]
  |some v=>wpAny #[2] X.A #[304] #[24] FF s₁) FF s3:=by
  rintro n i s3 ⟨σ3,H3,μ3,M3,acc3,vs3,I3,st3,fr3,x3,hE3,hM3,hH3,hr3,q3⟩
  have ha3:a∈μ3.priv:=by rw [x3.pr];exact ha
  have one:∀(d:D) (rest:List D->Mem->Res (List D)) (next:List D->Mem->Prop),J.go i H3->(∀x H',J.yld i H3 x H'->Ext μ3 H3 μ3 H'/\RelM fa X.K μ3 H' M3/\Rep fa X.K μ3 H' d x)->ai ((dI t g Z acc3 d M3).bind rest) #[171]->
   (∀σ' H' μ' M' acc' vs' s',Inv X pins σ' H' s'->tn (i+1) s'.heap->#[193]->gk a μ H μ' H'->bz fa X.K μ' H' σ' Z->RelM fa X.K μ' H' M'->H' a=some (.lst vs')->aT fa X.K μ' H' acc' vs'->ai (rest acc' M') #[171]->∃m,m<n/\P m (i+1) s')->
   wpAny #[2] X.A #[261] (fun r s₁=>match r with
    |none=>#[187]
    |some v=>wpAny #[2] X.A #[304] #[24] FF s₁) FF s3:=by
   intro d rest next go yl qd fin
   refine bc (T.item X rfl rfl rfl hcalm i pins s3 σ3 H3 FF I3 (stat fr3) st3 go) fun r s4 ⟨u,hr4,h4⟩=>?_
   subst hr4
   refine bc h4 fun _ s5 ⟨x,H5,I5,r5,y5,st5,fr5⟩=>?_
   obtain ⟨x5,hM5,rd⟩:=yl x H5 y5
   have I5':=I5.pinned (stat fr5) (T.obj _ _ st5)
   obtain ⟨acc6,M6,e6,q6⟩:=aW qd
   obtain ⟨ρ1,M7,e7,e8⟩:=fD e6
   cases eb:cX t d Z with
   |none=>rw [eb] at e7;cases e7
   | some ρ2 =>
     rw [eb] at e7
     cases e7
     have hg':=hg _ s5 σ3 H5 x u (fun σ' H'=>H'=H5/\bz fa X.K μ3 H5 σ' ρ1) I5' r5 ⟨μ3,Z,_,d,ρ1,hE3.ext x5,hM5,rd,eb,fun σ1 h1=>⟨rfl,h1⟩⟩
     rw [hx] at hg'
     refine bc hg' fun _ s6 ⟨σ6,H6,I6,eH,hE6⟩=>?_
     subst eH
     have hH6:H6 a=some (.lst vs3):=by rw [x5.pk a ha3];exact hH3
     have hb':=hb _ s6 σ6 H6 (fun σ' H'=>∃μ' vs',gk a μ3 H6 μ' H'/\bz fa X.K μ' H' σ' ρ1/\RelM fa X.K μ' H' M6/\H' a=some (.lst vs')/\aT fa X.K μ' H' acc6 vs') μ3 ρ1 _ acc3 vs3 I6 hE6 hM5 (clW d ρ1 eb) ha3 hH6 (hr3.ext x5) (by
      rw [e8];exact fun σ' H' μ' vs' z1 z2 z3 z4 z5=>⟨μ',vs',z1,z2,z3,z4,z5⟩)
     rw [hx] at hb'
     refine bc hb' fun _ s7 ⟨σ7,H7,I7,μ7,vs7,x7,hE7,hM7,hH7,hr7⟩=>?_
     refine fin σ7 H7 μ7 M6 acc6 vs7 s7 I7.unpinned (T.keep _ _ _ st5 fun b hb o e=>#[117].1) (fun b hb=>?_) ((x3.trans x5.toD).trans x7) (hE7.unbind eb clt) hM7 hH7 hr7 q6
     obtain ⟨o,e,dd⟩:=T.obj _ _ st5 b hb
     exact #[117].2.1
  have stop:J.stop i H3->ai (.ok acc3 M3) #[171]->wpAny #[2] X.A #[261] (fun r s₁=>match r with
   |none=>#[187]
   |some v=>wpAny #[2] X.A #[304] #[24] FF s₁) FF s3:=fun hs q=>by
   refine bc (T.done X rfl rfl rfl hcalm i pins s3 σ3 H3 FF I3 (stat fr3) st3 hs) fun r s4 ⟨hr4,I4⟩=>?_
   subst hr4
   have q:WB fa X.K a μ H Z Q acc3 M3:=q
   exact ⟨σ3,H3,I4,q σ3 H3 μ3 vs3 x3 hE3 hM3 hH3 hr3⟩
  cases n with
  |zero=>exact q3.elim
  | succ n =>
    unfold fy at q3
    cases e2:w M3 with
    |none=>rw [e2] at q3;exact q3.elim
    | some ds =>
      rw [e2] at q3
      dsimp only at q3
      obtain ⟨go,stp⟩:=wk μ3 H3 M3 ds x3.toExtW hM3 e2
      cases ed:ds[i]? with
      | none =>
        rw [ed] at q3
        exact stop (stp i (List.getElem?_eq_none_iff.mp ed)) q3
      | some d =>
        rw [ed] at q3
        obtain ⟨g1,g2⟩:=go i d ed
        refine one d (fy (dI t g Z) w n (i+1)) (fun _ _=>True) g1 g2 q3 ?_
        intro σ' H' μ' M' acc' vs' s' z1 z2 z3 z4 z5 z6 z7 z8 z9
        exact ⟨n,by omega,σ',H',μ',M',acc',vs',z1,z2,z3,z4,z5,z6,z7,z8,z9⟩
 refine zY heq (fun n s'=>∃i,P n i s') (fun n s3 ⟨i,h3⟩=>?_) m0 ⟨0,P0⟩
 refine bc (hturn n i s3 h3) fun r s1 h=>?_
 cases r with
 |none=>exact ⟨rfl,h⟩
 |some v=>exact bc h fun _ s2 h=>bc h fun _ s3 h=>bc h fun _ s4 ⟨m,hm,h⟩=>⟨m,hm,i+1,h⟩
end
end LD
namespace LD
open PySem PySem.Spec PyProof.Rows L2
section
variable {prog:MP}{w:Nd}{A:Nr}{s:Mx}{R:Result->Mx->Prop}
theorem si {elt t1 i1 t2 i2:Expr}{f1 f2:List Expr}{scope:Scope}{pos:Pos}{it acc:Mq}{env:Np}
 (h0:codeAny #[8] A (.compLoop #[51] 1 it acc env) R s)
 (h:wpAny #[8] A (pyIter it) (fun it' s'=>codeAny #[8] A (.compLoop #[51] 1 it' acc env) R s')
  (notedBy #[8] A env fun x s'=>R (.error x) s') s) :
 codeAny #[8] A (.compStart #[51] 1 it acc env) R s:=by
 refine codeAny_of_tree ?_
 show wpAny _ _ ((compStart #[51] 1 it acc env).onRaise (fun x=>do noteFrame x env;standAt theWindowsPlace)) _ _ s
 refine wpAny_notedAt ?_
 unfold compStart
 show wpAny _ _ (ask >>= _) _ _ s
 refine tqa (wpAny_askSetting (wpAny_ite ?_))
 split
 ·first
   |exact tqa (tqb (tqb (And.intro rfl h0)))
   |exact tqb (And.intro rfl h0)
 ·first
   |exact tqa (wpAny_rule (tqa #[164]))
   |(refine tqa (wpAny_rule ?_);show wpAny _ _ (standAt i2.pos >>= _) _ _ s;exact tqa #[164])
end
section
variable {fa:Fa}{X:Cx}{a:Addr}
theorem Ih {elt t1 i1 t2 i2:Expr}{scope:Scope}{pos:Pos}{t:dv}{gw:Env->Mem->Res Walk}{ge:Env->Mem->Res D}(hx:X.xe=FF)(hcalm:X.calm=true)(hi:DI fa X t2 i2 gw)(hg:PG X t2 (gT fa X.K t))(he:DE fa X elt ge)
 (hs:∀x,foldedSetIterable i2 X.env x=pure x) :
 DB fa X a (slots t) (eval i2 X.env >>= fun x=>standAt i2.pos >>= fun _=>foldedSetIterable i2 X.env x >>= fun x=>holding [x] (pyIter x) >>= fun j=>runOwn (.compStart #[291] 1 j (.ref a) X.env) X.env >>= fun _=>pure ()) (uB t gw (bU ge)):=by
 intro pins s σ H Q μ Z M acc vs I hE hM hc ha hH hr h
 obtain ⟨w,M1,e,q⟩:=aW h
 refine tqa (bc #[93] fun v s1 h1=>?_)
 ·rw [e];exact fun J H1 μ1 x1 m1 wk=>⟨μ1,x1,m1,wk⟩
 refine tqa (wpAny_standAt (tqa (wpAny_of_eq (hs v) (tqa (tqo (bc h1 fun itv s2 h2=>?_))))))
 obtain ⟨it,fp,tn,J,H2,ei,I2,T,st2,f2,μ2,x2,m2,wk⟩:=h2
 subst ei
 have hH2:H2 a=some (.lst vs):=by rw [x2.pk a ha];exact hH
 have ha2:a∈μ2.priv:=by rw [x2.pr];exact ha
 have go:=wa (elt:=elt) (gens:=[⟨t1,i1,[],0⟩,⟨t2,i2,[],0⟩]) (scope:=scope) (pos:=pos) (W:=[]) (Q:=Q) (A0 elt t1 i1 t2 i2 scope pos (.ref it) (.ref a) X.env) hx hcalm T hg (uJ he) (fun i hi=>nomatch hi) I2 st2 f2 (hE.ext x2) m2 (by simpa using hc) ha2 hH2 (hr.ext x2) wk (aG q fun _ _ z=>z.ext x2.toD)
 refine tqa (wpAny_runOwn (h:=none) ?_)
 have go':codeAny #[2] (X.A.mark none) (.compLoop #[291] 1 (.ref it) (.ref a) X.env) (fun r s'=>match r with|.ok f=>wpAny #[2] X.A (pure ():Sem Unit) #[74] X.xe s'|.error e=>cameBackBy #[2] X.A X.env X.xe e s') s2:=
  codeAny_mono go fun r s' ⟨er,z⟩=>by subst er;exact tqb z
 exact si go' (T.self _ 0 _ _ _ st2 go')
end
end LD
namespace LD
open PySem PySem.Spec PyProof.Rows L2
section
variable {fa:Fa}{K:Mr}{μ1 μ':Mu}{H1 H':Hp}{M1 M':Mem}{a:Addr}
def Hn (μ:Mu)(a:Addr):Mu:=⟨μ.pub,a::μ.priv⟩
theorem mF (h:RelM fa K μ1 H1 M1)(ha:H1 a=none)(o:HO):ExtW μ1 H1 (Hn μ1 a) (upd H1 a o):=by
 have x:ExtW μ1 H1 μ1 (upd H1 a o):=(Ext.alloc h ha).toExtW
 refine ⟨x.mu,x.tups,fun b vs e n=>⟨(x.lsts b vs e n).1,fun z=>?_⟩,x.frzs,x.exts⟩
 rcases z with z|z
 ·exact n (.inl z)
 ·rcases Mz.mp z with z|z
  ·subst z;rw [ha] at e;cases e
  ·exact n (.inr z)
theorem yV (h:RelM fa K μ1 H1 M1)(ha:H1 a=none)(vs:List V):RelM fa K (Hn μ1 a) (upd H1 a (.lst vs)) M1:=by
 have x:=mF h ha (.lst vs)
 refine ⟨fun k ds e=>?_,h.out,h.inj,fun b hb=>?_⟩
 ·obtain ⟨b,ws,h1,h2,h3⟩:=h.at' k ds e
  exact ⟨b,ws,h1,by rw [aO (bg h2 ha)];exact h2,h3.extW x⟩
 ·rcases Mz.mp hb with z|z
  ·subst z
   exact ⟨⟨vs,bV⟩,fun k e=>by
    obtain ⟨_,_,_,q,_⟩:=h.mu_lt e
    rw [ha] at q;cases q⟩
  ·obtain ⟨⟨ws,q⟩,n⟩:=h.pv b z
   exact ⟨⟨ws,by rw [aO (bg q ha)];exact q⟩,n⟩
theorem EA {m:Bool}{acc:List D}{vs:List V}{Q:VK}(h:RelM fa K μ1 H1 M1)(ha:H1 a=none)(x:gk a (Hn μ1 a) (upd H1 a (.lst [])) μ' H')(hM:RelM fa K μ' H' M')(hH:H' a=some (.lst vs))(hr:aT fa K μ' H' acc vs)
 (q:ai (bG m acc M') (bp fa K μ1 H1 Q)):Q (.ref a) H':=by
 have na:a∉μ1.priv:=fun z=>h.pne ha z rfl
 have hp:μ'.priv=a::μ1.priv:=x.pr
 have nk:∀k,μ'.pub k≠some a:=(hM.pv a (by rw [hp];exact MM)).2
 have x0:=mF h ha (.lst [])
 have xe:Ext μ1 H1 ⟨μ'.pub,μ1.priv⟩ H':=by
  refine ⟨⟨fun k b e=>x.mu k b e,fun b ws e=>x.tups b ws (x0.tups b ws e),fun b ws e n=>?_,fun b ob u e=>x.frzs b ob u (x0.frzs b ob u e),fun b o i e=>x.exts b o i (x0.exts b o i e)⟩,rfl,fun b hb=>?_⟩
  ·obtain ⟨z1,z2⟩:=x0.lsts b ws e n
   obtain ⟨z3,z4⟩:=x.lsts b ws z1 z2
   refine ⟨z3,fun z=>z4 ?_⟩
   rcases z with z|z
   ·exact .inl z
   ·exact .inr (by rw [hp];exact ME _ z)
  ·have nb:b≠a:=fun e=>na (by rw [<- e];exact hb)
   rw [x.pk b (ME _ hb) nb,aO nb]
 have xw:ExtW μ' H' ⟨μ'.pub,μ1.priv⟩ H':=⟨fun _ _ e=>e,fun _ _ e=>e,fun b ws e n=>⟨e,fun z=>n (z.elim .inl fun z=>.inr (by rw [hp];exact ME _ z))⟩,fun _ _ _ e=>e,fun _ _ _ e=>e⟩
 have me:RelM fa K ⟨μ'.pub,μ1.priv⟩ H' M':=⟨fun k ds e=>let ⟨b,ws,h1,h2,h3⟩:=hM.at' k ds e;⟨b,ws,h1,h2,h3.extW xw⟩,hM.out,hM.inj,fun b hb=>hM.pv b (by rw [hp];exact ME _ hb)⟩
 have re:aT fa K ⟨μ'.pub,μ1.priv⟩ H' acc vs:=hr.extW xw
 have nMt:¬ (⟨μ'.pub,μ1.priv⟩:Mu).Mt a:=fun z=>z.elim (fun ⟨k,e⟩=>nk k e) na
 unfold bG at q
 split at q
 ·cases m with
  | false =>
    have q:bp fa K μ1 H1 Q (.lst acc) M':=q
    exact q (.ref a) H' _ xe me ⟨a,vs,rfl,⟨hH,nMt⟩,re⟩
  | true =>
    have q:bp fa K μ1 H1 Q (.cell M'.length) (M'++[acc]):=q
    have pc:∀k b,#[41].pub k=some b->(k=M'.length/\b=a)\/(k≠M'.length/\μ'.pub k=some b):=fun k b e=>by
     have e:#[198]=some b:=e
     split at e
     ·next z=>cases e;exact .inl ⟨z,rfl⟩
     ·next z=>exact .inr ⟨z,e⟩
    have mc:∀k b,μ'.pub k=some b->#[41].pub k=some b:=fun k b e=>by
     show #[198]=some b
     split
     ·next z=>rw [z,hM.out _ (My _)] at e;cases e
     ·exact e
    have ac:#[41].pub M'.length=some a:=by
     show (if M'.length=M'.length then some a else _)=some a
     rw [if_pos rfl]
    have nc:∀b,¬ μ'.Mt b->¬ #[41].Mt b:=fun b n z=>by
     rcases z with ⟨k,z⟩|z
     ·rcases pc k b z with ⟨_,e⟩|⟨_,e⟩
      ·exact n (.inr (by rw [hp,e];exact MM))
      ·exact n (.inl ⟨k,e⟩)
     ·exact n (.inr (by rw [hp];exact ME _ z))
    have xc:ExtW μ' H' #[41] H':=⟨mc,fun _ _ e=>e,fun b ws e n=>⟨e,nc b n⟩,fun _ _ _ e=>e,fun _ _ _ e=>e⟩
    have xe2:Ext μ1 H1 #[41] H':=by
     refine ⟨⟨fun k b e=>mc k b (x.mu k b e),xe.tups,fun b ws e n=>?_,xe.frzs,xe.exts⟩,rfl,xe.pk⟩
     obtain ⟨z1,z2⟩:=x0.lsts b ws e n
     obtain ⟨z3,z4⟩:=x.lsts b ws z1 z2
     exact ⟨z3,nc b z4⟩
    have mce:RelM fa K #[41] H' (M'++[acc]):=by
     refine ⟨fun k ds e=>?_,fun k hk=>?_,fun j k b e1 e2=>?_,fun b hb=>?_⟩
     ·by_cases hk:k<M'.length
      ·rw [Ng hk] at e
       obtain ⟨b,ws,h1,h2,h3⟩:=hM.at' k ds e
       exact ⟨b,ws,mc k b h1,h2,h3.extW xc⟩
      ·have hk':k=M'.length:=by
        have:=(Mw.mp e).1
        simp at this;omega
       subst hk'
       rw [NK (My _)] at e
       simp at e
       subst e
       exact ⟨a,vs,ac,hH,hr.extW xc⟩
     ·simp at hk
      show #[198]=none
      rw [if_neg #[0]]
      exact hM.out k #[0]
     ·rcases pc j b e1 with ⟨j1,j2⟩|⟨j1,j2⟩<;>rcases pc k b e2 with ⟨k1,k2⟩|⟨k1,k2⟩
      ·omega
      ·exact absurd (j2 ▸ k2) (nk k)
      ·exact absurd (k2 ▸ j2) (nk j)
      ·exact hM.inj j k b j2 k2
     ·have hb:b∈μ1.priv:=hb
      obtain ⟨z1,z2⟩:=hM.pv b (by rw [hp];exact ME _ hb)
      refine ⟨z1,fun k e=>?_⟩
      rcases pc k b e with ⟨_,e⟩|⟨_,e⟩
      ·exact na (e ▸ hb)
      ·exact z2 k e
    exact q (.ref a) H' _ xe2 mce ⟨a,rfl,ac⟩
 ·exact q.elim
end
section
variable {fa:Fa}{X:Cx}
def bX (m:Bool)(n:Nat)(t:dv)(gw:Env->Mem->Res Walk)(g:Env->List D->Mem->Res (List D)):Env->Mem->Res D:=fun Z M=>
 (gw Z M).bind fun w M=>(dG (dI t g #[265]) w [] M).bind (bG m)
def pS (X:Cx)(elt tg iter:Expr)(ifs:List Expr)(rest:List OG)(scope:Scope)(pos:Pos)(body:Addr->Np->Sem Unit):Prop:=
 ∀(it a:Addr) (env:Np),compTurn #[17] 0 (.ref it) (.ref a) env=(standAt iter.pos >>= fun _=>pyNext (.ref it) >>= fun r=>match r with
  |none=>pure (.done .next)
  |some v=>letOwnedTupleGo tg (.ref it) v >>= fun _=>assign tg env v >>= fun _=>body a env >>= fun _=>again (.compLoop #[17] 0 (.ref it) (.ref a) env))
structure Block (fa:Fa) (X:Cx) (own bn:List Str) (scope:Scope) (tg:Expr) (t:dv) (W:List Nat) (body:Addr->Np->Sem Unit) (g:Env->List D->Mem->Res (List D)):Prop where
 pg:∀cl C fp s H,PG #[312] tg (gT fa X.K t)
 db:∀cl C fp s H a,DB fa #[312] a W (body a (compEnvC scope cl C X.env)) g
theorem Ab {n:Nat}{W:List Nat}{Z:Env}(h:∀i∈W,i<n):Clear W #[265]:=fun i hi d e=>by
 rw [Ng (by simpa using h i hi),Oe] at e
 simp [h i hi] at e
theorem Bv {K:Mr}{μ:Mu}{H:Hp}{σ:L2.St}{Z:Env}(n:Nat)(h:bz fa K μ H σ Z):bz fa K μ H (List.replicate n none++σ) #[265]:=by
 refine ⟨by simp [h.len],fun i d e=>?_⟩
 by_cases hi:i<n
 ·rw [Ng #[101],Oe] at e
  simp [hi] at e
 ·rw [NK #[7]] at e ⊢
  simp only [OJ] at e ⊢
  exact h.at' _ d e
theorem pQ {elt tg iter:Expr}{ifs:List Expr}{rest:List OG}{scope:Scope}{pos p0:Pos}{own bn:List Str}{t:dv}{W:List Nat}{body:Addr->Np->Sem Unit}{gw:Env->Mem->Res Walk}{g:Env->List D->Mem->Res (List D)}{m:Bool}
 (S:jj X own bn scope) (hcalm:X.calm=true) (hi:DI fa X tg iter gw) (B:Block fa X own bn scope tg t W body g) (hT:pS X elt tg iter ifs rest scope pos body) (hW:∀i∈W,i∉slots t) (hn:∀i∈slots t++W,i<own.length)
 (hs:∀x,foldedSetIterable iter X.env x=pure x) {use:Option (Mq->Sem Unit)}{QQ:Mq->Mx->Prop}
 {pins:List #[15]}{s:Mx}{σ:L2.St}{H:Hp}{Q:VK}{μ:Mu}{Z:Env}{M:Mem} (I:Inv X pins σ H s) (hE:bz fa X.K μ H σ Z) (hM:RelM fa X.K μ H M) (h:ai (bX m own.length t gw g Z M) #[18])
 (post:∀(a C:Addr) (s':Mx) (H':Hp),Inv X pins σ H' s'->Q (.ref a) H'->(∃m,s'.heap.Ns C m)->(∀σ2 H2 s2,Inv X pins σ2 H2 s2->(H' C=none->H2 C=none)->H2 C=none/\∀h'',OV C s2.heap h''->Inv X pins σ2 H2 {s2 with heap:=h''})->H' C=none->(C≠X.env.locals/\∀x c,X.env.cells.lookup x=some c->c≠C)->compPost #[2] X.A X.xe use QQ (.ref a) C (.ok .next) s') :
 wpAny #[2] X.A (comprehension #[17] scope X.env p0 (newList []) false (eval iter X.env) use) QQ X.xe s:=by
 obtain ⟨w,M1,ew,q⟩:=aW h
 obtain ⟨acc,M2,ea,q2⟩:=aW q
 obtain ⟨cl,hcl,hsub,hhas⟩:=xK (scope:=scope) (env:=X.env) fun y hy hf=>I.ok.has y.1 (S.free y hy hf)
 have CL:Cl X scope cl:=⟨hsub,hhas⟩
 refine wpAny_comprehension_free (use:=use) rfl hs hcl S.kind S.loc ?_
 refine bc #[93] fun v s1 h1=>bc h1 fun itv s2 h2=>?_
 ·rw [ew];exact fun J H1 μ1 x1 m1 wk=>⟨μ1,x1,m1,wk⟩
 obtain ⟨it,fp,tn,J,H2,ei,I2,T,st2,f2,μ2,x2,m2,wk⟩:=h2
 subst ei
 refine wpAny_newObj_type ?_
 have ha:H2 s2.heap.objs.size=none:=I2.hok.fresh (My _)
 have I3:Inv X pins σ #[86] {s2 with heap:=s2.heap.push {cls:=.type "list",dict:=none,data:=.seq ([]:List Mq).toArray}}:=
  I2.laid (t':=s2.toks) (fun b o e=>Mp _ e) (My _) ⟨Oq _,[],_,.nil,MG _ rfl⟩
 generalize hs3:({s2 with heap:=s2.heap.push {cls:=.type "list",dict:=none,data:=.seq ([]:List Mq).toArray}}:Mx)=s3 at I3 ⊢
 have k3:∀b o,s2.heap.get? b=some o->s3.heap.get? b=some o:=fun b o e=>by rw [<- hs3];exact Mp _ e
 have fo2:=T.obj _ _ st2
 have f3:∀b∈fp,gz X pins #[86] b:=fun b hb=>by
  obtain ⟨o,e,_⟩:=fo2 b hb
  exact ⟨by rw [aO (Nt (MJ e))];exact (f2 b hb).1,(f2 b hb).2⟩
 have fo3:∀b∈fp,∃o,s3.heap.get? b=some o:=fun b hb=>let ⟨o,e,_⟩:=fo2 b hb;⟨o,k3 b o e⟩
 refine wpAny_newFunctionEnv S.nocell (by intro y hy;simp at hy) (fun h₁ hns₁ hsb₁=>?_) S.kind
 have k4:∀b o,s3.heap.get? b=some o->h₁.get? b=some o:=fun b o e=>hsb₁.extBut b o (Nt (MJ e)) (Mp _ e)
 have I4:=Ck (own:=own) (bn:=bn) (t':=s3.toks+([]:List (Str×Mq)).length) I3 S CL f3 fo3 hns₁ k4
 have ok4:=I4.ok
 have f4:∀b∈fp,gz (iu X own bn scope cl s3.heap.objs.size fp s3 #[86]) [] #[86] b:=fun b hb=>
  ⟨(f3 b hb).1,(ok4.exf b hb).1,ok4.exfs b hb,.inl hb,(ok4.exf b hb).2,fun p hp=>nomatch hp⟩
 have st4:tn 0 h₁:=T.keep _ _ _ st2 fun b hb o e=>k4 b o (k3 b o e)
 have x3:=mF m2 ha (.lst [])
 have go:=wa (X:=iu X own bn scope cl s3.heap.objs.size fp s3 #[86]) (fa:=fa) (a:=s2.heap.objs.size) (W:=W) (t:=t) (g:=g) (acc:=[]) (vs:=[]) (Q:=fun _ H'=>Q (.ref s2.heap.objs.size) H') (hT it s2.heap.objs.size _) rfl hcalm T (B.pg _ _ _ _ _) (B.db _ _ _ _ _ _) hW I4 st4 f4
  (Bv own.length ((hE.ext x2).extW x3)) (yV m2 ha []) (Ab hn) MM bV rfl (yf wk x3) (by
   rw [ea]
   intro σ' H' μ' vs' z1 z2 z3 z4 z5
   exact EA (m:=m) m2 ha z1 z3 z4 z5 (ki q2 x2))
 have go':codeAny #[2] X.A (.compLoop #[17] 0 (.ref it) (.ref s2.heap.objs.size) (compEnvC scope cl s3.heap.objs.size X.env)) (compPost #[2] X.A X.xe use QQ (.ref s2.heap.objs.size) s3.heap.objs.size) {s3 with heap:=h₁,toks:=s3.toks+([]:List (Str×Mq)).length}:=
  codeAny_mono go fun r s' ⟨er,σ',H',I',z⟩=>by
   subst er
   refine post _ _ s' H' (comp_back I3 f3 I') z (let ⟨m,hn,_⟩:=I'.loc;⟨m,hn⟩) (fun σ2 H2 s2' I2' hf=>⟨hf I'.free,fun h'' hs''=>zZ I3 (hf I'.free) I2' hs''⟩) I'.free ⟨NI I3.lt,fun x c e z=>by
    obtain ⟨v,q⟩:=I3.cell x c e
    exact absurd q.lt #[244]⟩
 exact codeAny_compStart_list go' (T.self _ 0 _ _ _ st4 go')
theorem Ik (m:Bool){elt tg iter:Expr}{ifs:List Expr}{rest:List OG}{scope:Scope}{pos:Pos}{own bn:List Str}{t:dv}{W:List Nat}{body:Addr->Np->Sem Unit}{gw:Env->Mem->Res Walk}{g:Env->List D->Mem->Res (List D)}
 (S:jj X own bn scope) (hcalm:X.calm=true) (hi:DI fa X tg iter gw) (B:Block fa X own bn scope tg t W body g) (hT:pS X elt tg iter ifs rest scope pos body) (hW:∀i∈W,i∉slots t) (hn:∀i∈slots t++W,i<own.length)
 (hs:∀x,foldedSetIterable iter X.env x=pure x):DE fa X #[17] (bX m own.length t gw g):=by
 intro pins s σ H Q I ⟨μ,Z,M,hE,hM,h⟩
 rw [eval_ListComp]
 refine pQ (use:=none) S hcalm hi B hT hW hn hs I hE hM h ?_
 intro a C s' H' I' q ⟨m,hn⟩ gone hf _
 exact ⟨m,hn,fun h' hs'=>⟨.ref a,H',(gone σ H' s' I' id).2 h' hs',rfl,q⟩⟩
theorem xF (m:Bool){i:Nat}{y:Str}{py spos:Pos}{elt tg iter:Expr}{ifs:List Expr}{rest:List OG}{scope:Scope}{pos:Pos}{own bn:List Str}{t:dv}{W:List Nat}{body:Addr->Np->Sem Unit}{gw:Env->Mem->Res Walk}{g:Env->List D->Mem->Res (List D)}
 (S:jj X own bn scope) (hcalm:X.calm=true) (hi:DI fa X tg iter gw) (B:Block fa X own bn scope tg t W body g) (hT:pS X elt tg iter ifs rest scope pos body) (hW:∀i∈W,i∉slots t) (hn:∀i∈slots t++W,i<own.length)
 (hs:∀x,foldedSetIterable iter X.env x=pure x) (hN:X.N.Nodup) (hy:X.N[i]?=some y) (hl:X.env.scope.names.lookup y=some .local)
 (hsw:swapsWith #[17] (some (.Name y py)) spos.line X.env=pure true) :
 DS fa X (.Assign [.Name y py] #[17] spos) (fun Z M=>(bX m own.length t gw g Z M).bind fun x M=>(cV M (cX (.one i) x Z)).bind fun ρ1 M=>.ok (.next ρ1) M):=by
 intro pins s σ H D' I ⟨μ,Z,M,hE,hM,h⟩
 obtain ⟨x,M1,ex,q⟩:=aW h
 have q:∀σ' H' μ',Ext μ H μ' H'->bz fa X.K μ' H' σ' #[122]->RelM fa X.K μ' H' M1->D'.nx σ' H':=q
 rw [exec_Assign_Name_used _ _ _ _ hsw]
 refine tqa (wpAny_standAt (tqa ?_))
 show wpAny _ X.A (do let _ <- comprehension #[17] scope X.env _ (newList []) false (eval iter X.env) (some (assign (.Name y py) X.env))) _ _ s
 refine tqa (bc (pQ (use:=some (assign (.Name y py) X.env)) (QQ:=fun _ s'=>SP X pins D' .next s') (Q:=fun v H'=>D'.nx #[302] H') S hcalm hi B hT hW hn hs I hE hM (by
  rw [ex]
  exact fun v H' μ' x1 m1 r1=>q _ H' μ' x1 (#[217].set r1) m1) ?_) fun _ s' hq=>tqb (tqb hq))
 intro a C s' H' I' q ⟨m,hn⟩ gone hf ⟨nL,nC⟩
 refine wpAny_assign_Name (qV I' hN hy (.inl hl) (v:=.ref a) rfl (fun s2 I2 ⟨b,hb,hb2⟩=>?_) (.inr hl))
 have nb:C≠b:=by
  rcases hb2 with z|z
  ·rw [z];exact nL
  ·exact NM (nC y b z)
 exact ⟨m,hn.sameBut hb nb,fun h' hs'=>⟨_,H',(gone _ H' s2 I2 id).2 h' hs',q⟩⟩
end
end LD
namespace LD
open PySem PySem.Spec PyProof.Rows L2
section
variable {X:Cx}{pins:List #[15]}{σ:L2.St}{H:Hp}{s:Mx}{h':Heap}{t':Nat}{ch:List Addr}
theorem pX (I:Inv X pins σ H s)(hf:∀b∈ch,gz X pins H b)(k:∀b o,b∉ch->s.heap.get? b=some o->h'.get? b=some o):Inv X pins σ H {s with heap:=h',toks:=t'}:=by
 have nit:∀b u,H b=some u->b∉ch:=fun b u e z=>by rw [(hf b z).1] at e;cases e
 refine I.step (g':=s.gens) (d':=s.drawn) (ch:=ch) #[165] (fun b o _ _ hc e _=>k b o hc e) (fun b o _ _ hc e _=>⟨o.slots,k b o hc e⟩) (fun _ _ _ _ n=>n)
  (fun b o hc e=>⟨o,k b o hc e⟩) (fun _ _ e=>e) (fun _ _ _ e=>e) (fun b ps e=>⟨#[],by rw [e];simp⟩) (fun m hm=>?_) (fun b u e=>?_) I.bare
 ·obtain ⟨o,es,ep,ho,r⟩:=hm
  exact ⟨o,es,ep,k _ o (fun z=>(hf _ z).2.1 rfl) ho,r⟩
 ·refine (I.hok b u e).stay (fun c v hc q=>k c v ?_ q) (fun _ q=>q) fun _ _ q=>q
  rcases hc with z|z
  ·rw [z];exact nit b u e
  ·exact nit c _ z
theorem mh {T:Addr}{o:HO}(I:Inv X pins σ H s)(hf:∀b∈ch,gz X pins H b)(k:∀b o,b∉ch->s.heap.get? b=some o->h'.get? b=some o)(hT:s.heap.objs.size<=T)(new:dg X.prog X.w (upd H T o) h' T o) :
 Inv X pins σ (upd H T o) {s with heap:=h',toks:=t'}:=by
 have hn:H T=none:=I.hok.fresh hT
 have nit:∀b u,H b=some u->b∉ch:=fun b u e z=>by rw [(hf b z).1] at e;cases e
 refine I.step (g':=s.gens) (d':=s.drawn) (ch:=ch) #[165] (fun b o _ _ hc e _=>k b o hc e) (fun b o _ _ hc e _=>⟨o.slots,k b o hc e⟩)
  (fun b o _ e n=>by rw [aO (Nt (MQ (MJ e) hT))];exact n)
  (fun b o hc e=>⟨o,k b o hc e⟩) (fun b xs e=>by rw [aO (bg e hn)];exact e) (fun b ob u e=>by rw [aO (bg e hn)];exact e) (fun b ps e=>⟨#[],by rw [aO (bg e hn),e];simp⟩) (fun m hm=>?_) (fun b u e=>?_) I.bare
 ·obtain ⟨o,es,ep,ho,r⟩:=hm
  exact ⟨o,es,ep,k _ o (fun z=>(hf _ z).2.1 rfl) ho,r⟩
 ·by_cases hb:b=T
  ·subst hb;rw [bV] at e;cases e;exact new
  ·rw [aO hb] at e
   refine (I.hok b u e).stay (fun c v hc q=>k c v ?_ q) (fun c q=>by rw [aO (bg q hn)];exact q) fun c xs q=>by rw [aO (bg q hn)];exact q
   rcases hc with z|z
   ·rw [z];exact nit b u e
   ·exact nit c _ z
end
def KI (K:Mr)(a:Addr):It:=
 ⟨fun i H=>∃xs x,c9 K H a xs/\xs[i]?=some x,fun i H v H'=>∃p x,H p=none/\v=.ref p/\H'=upd H p (.tup [.int i,x])/\∀xs,c9 K H a xs->xs[i]?=some x,fun i H=>∃xs,c9 K H a xs/\xs.length<=i⟩
theorem yu {P:MP}{w:Nd}{K:Mr}{elts:List Expr}{kk:Nat}{pos:Pos}(a it e:Addr)(hne:e≠it) :
 Turn P w K (.Tuple elts kk pos) (KI K a) [e,it] e (fun i h=>(∃old,IsEnum h e it (i:Nat) old)/\h.IsListIter it a i) where
 mem:=by simp
 obj:=fun i h ⟨⟨old,he⟩,o,ho,c,d⟩ b hb=>by
  rcases Mz.mp hb with z|z
  ·subst z;exact ⟨_,he,fun v z=>by cases z⟩
  ·have e:b=it:=by simpa using z
   subst e
   exact ⟨o,ho,fun v z=>by rw [d] at z;cases z⟩
 keep:=fun i h h' ⟨⟨old,he⟩,st⟩ k=>⟨⟨old,k e (by simp) _ he⟩,st.at fun o e=>k it (by simp) o e⟩
 item:=by
  intro X hP hw hK hc i pins s σ H E I hf st hg
  subst hP hw hK
  obtain ⟨xs,x,hq,hx⟩:=hg
  obtain ⟨⟨old,he⟩,hit⟩:=st
  obtain ⟨its,rv,p,hz⟩:=I.list hq
  obtain ⟨u,hu,ru⟩:=rv.get hx
  refine wpAny_pyNext_enum_item he hit p.isList (x:=u) (by simpa using hu) hne fun h1 ho hit1 hT hsz hk=>⟨_,rfl,?_⟩
  have hT0:H s.heap.objs.size=none:=I.hok.fresh (My _)
  have elt:e<s.heap.objs.size:=MJ he
  refine wpAny_letOwnedTupleGo_enum (s:={s with heap:=h1,toks:=s.toks+1}) ho fun h2 he2 hs2=>?_
  have he2:IsEnum h2 e it ((i+1:Nat):Int) u:=by simpa using he2
  have hT2:h2.get? s.heap.objs.size=some {cls:=.type "tuple",data:=.seq #[.int i s.toks,u]}:=(hs2.2 _ (NI elt)).trans hT
  refine ⟨.ref s.heap.objs.size,upd H s.heap.objs.size (.tup [.int i,x]),mh (s:=s) (t':=s.toks+1) I hf (fun b o hb q=>(hs2.2 b #[275]).trans (hk b o #[275] #[275] q)) (My _) ⟨?_,[.int i s.toks,u],.cons ⟨_,rfl⟩ (.cons ru .nil),⟨_,hT2,rfl,_,rfl⟩⟩,rfl,
   ⟨_,x,hT0,rfl,rfl,fun ys hy=>by rw [I.list_inj hy hq];exact hx⟩,⟨⟨u,he2⟩,hit1.extBut hs2.extBut (NM hne)⟩,fun b hb=>?_⟩
  ·show 2<=sizeLine;decide
  ·have:b<s.heap.objs.size:=by
    rcases Mz.mp hb with z|z
    ·subst z;exact elt
    ·have e:b=it:=by simpa using z
     subst e
     obtain ⟨o,e,_⟩:=hit;exact MJ e
   rw [aO (Nt this)];exact (hf b hb).1
 done:=by
  intro X hP hw hK hc i pins s σ H E I hf st hg
  subst hP hw hK
  obtain ⟨xs,hq,hx⟩:=hg
  obtain ⟨⟨old,he⟩,hit⟩:=st
  obtain ⟨its,rv,p,hz⟩:=I.list hq
  have hl:=rv.length
  exact wpAny_pyNext_enum_end #[176] he hit p.isList #[7] fun h' eb=>⟨rfl,pX I hf (t':=s.toks) fun b o hb q=>eb b o #[275] q⟩
 self:=fun _ _ _ _ _ ⟨⟨old,he⟩,_⟩ h=>wpAny_pyIter_enum he h
section
variable {fa:Fa}{X:Cx}{a:Expr}{ga:Env->Mem->Res D}{pos p:Pos}
theorem cQ:∀(ds:List D) (k i:Nat),(cf k ds)[i]?=(ds[i]?).map fun d=>.tup [.int ((k+i:Nat):Int),d]
 |[],_,_=>by simp [cf]
 |d::ds,k,0=>by simp [cf]
 | d :: ds, k, i + 1 => by
   have:=cQ ds (k+1) i
   simp only [cf,Nb,this]
   congr 1
   funext d
   congr 3
   omega
theorem eE:∀(ds:List D) (k:Nat),(cf k ds).length=ds.length
 |[],_=>rfl
 |d::ds,k=>by simp [cf,eE ds]
theorem yh {μ0:Mu}{H0:Hp}{dd:D}{ad:Addr}(h:Rep fa X.K μ0 H0 dd (.ref ad)):eF fa X.K μ0 H0 (fun M=>(fS M dd).map (cf 0)) (KI X.K ad):=fun μ H M ds x hM e=>by
 dsimp only at e
 cases e0:fS M dd with
 |none=>rw [e0] at e;cases e
 | some es =>
   rw [e0] at e
   have e:cf 0 es=ds:=MA e
   subst e
   obtain ⟨ad',vs,ea,s,r⟩:=bW hM (Rep.extW x h) e0
   cases ea
   refine ⟨fun i d hd=>?_,fun i hi=>⟨vs,s,by rw [r.length,<- eE es 0];exact hi⟩⟩
   rw [cQ] at hd
   cases e1:es[i]? with
   |none=>rw [e1] at hd;cases hd
   | some d0 =>
     rw [e1] at hd
     have hd:D.tup [.int ((0+i:Nat):Int),d0]=d:=MA hd
     subst hd
     obtain ⟨v,hv,rv⟩:=r.get e1
     refine ⟨⟨vs,v,s,hv⟩,fun y H' ⟨q,z,hq,ey,eH,hy⟩=>?_⟩
     have:=hy vs s
     rw [hv] at this;cases this
     subst eH ey
     refine ⟨Ext.alloc hM hq,hM.alloc hq,q,[.int i,v],rfl,.inl (.inl bV),.int i,[v],rfl,?_,v,[],rfl,rv.ext (Ext.alloc hM hq),rfl⟩
     show V.int i=V.int ((0+i:Nat):Int)
     rw [Ow]
def ir (ga:Env->Mem->Res D):Env->Mem->Res Walk:=fun Z M=>(ga Z M).bind fun x M=>match x with
 |.lst ds=>.ok (fun _=>some (cf 0 ds)) M
 |.frz ds=>.ok (fun _=>some (cf 0 ds)) M
 |.cell k=>.ok (fun M=>(M[k]?).map (cf 0)) M
 |_=>.bad
theorem Ft {elts:List Expr}{kk:Nat}{tp:Pos}(ha:DE fa X a ga)(hg:Gl X "enumerate")(hm:X.mg "enumerate"=none)(hs:starEach [a] X.env=[#[42]]):DI fa X (.Tuple elts kk tp) (.Call (.Name "enumerate" p) [a] [] pos) (ir ga):=by
 intro pins s σ H R I ⟨μ,Z,M,hE,hM,h⟩
 obtain ⟨x,M1,e,q⟩:=aW h
 have key:#[178]->(∀J H' μ',Ext μ H μ' H'->RelM fa X.K μ' H' M1->eF fa X.K μ' H' (fun M=>(fS M x).map (cf 0)) J->R J H')->
  wpAny #[2] X.A (eval (.Call (.Name "enumerate" p) [a] [] pos) X.env) (fun v s1=>wpAny #[2] X.A (pyIter v) (Dt X pins σ (.Tuple elts kk tp) R) X.xe s1) X.xe s:=fun hx q=>by
  refine Call_ (ie I hg hm boot_enumerate (NH (bc (b7 ha eA hs pos pins s σ H (fun vs H1=>∃v μ1,vs=[v]/\Ext μ H μ1 H1/\RelM fa X.K μ1 H1 M1/\Rep fa X.K μ1 H1 x v) I ⟨μ,Z,M,hE,hM,?_⟩) fun us s1 ⟨vs,H1,I1,r1,v,μ1,ev,x1,m1,rv⟩=>?_) hs rfl))
  ·rw [e];exact fun v H1 μ1 x1 m1 r1=>⟨v,μ1,rfl,x1,m1,r1⟩
  subst ev
  obtain ⟨ds,er⟩:=hx μ1 H1 m1 v rv
  obtain ⟨ad,vs,rfl,s1',r⟩:=bW m1 rv er
  cases r1 with
  | cons r1 rr =>
    cases rr
    obtain rfl:=r1
    obtain ⟨its,rvs,pl,hz⟩:=I1.list s1'
    refine call_enumerate_list pl.isList fun h1 he hit hsz hk=>?_
    have I2:Inv X pins σ H1 {s1 with heap:=h1}:=I1.kept (t':=s1.toks) hk
    refine wpAny_pyIter_enum (s:={s1 with heap:=h1}) he ?_
    refine ⟨s1.heap.objs.size+1,[s1.heap.objs.size+1,s1.heap.objs.size],_,_,H1,rfl,I2,yu ad s1.heap.objs.size (s1.heap.objs.size+1) (Nat.succ_ne_self _),⟨⟨.none,he⟩,hit⟩,fun b hb=>?_,q _ H1 μ1 x1 m1 (yh rv)⟩
    have hb:s1.heap.objs.size<=b:=by
     rcases Mz.mp hb with z|z
     ·subst z;exact Nat.le_succ _
     ·have e:b=s1.heap.objs.size:=by simpa using z
      subst e;exact My _
    exact I1.fpOk hb (I1.hok.fresh hb)
 cases x with
 |lst ds=>exact key #[224] q
 |frz ds=>exact key #[224] q
 |cell k=>exact key (fun μ' H' m' v ⟨ad,_,hk⟩=>let ⟨ds,_,e,_⟩:=m'.mu_lt hk;⟨ds,e⟩) q
 |_=>exact q.elim
end
end LD
namespace LD
open PySem PySem.Spec PyProof.Rows L2
def a7:Bool->Heap->Addr->Array Mq->Prop
 |true,h,a,its=>h.IsList a its
 |false,h,a,its=>h.IsTuple a its
def bu:Bool->Heap->Addr->Addr->Nat->Prop
 |true,h,it,a,i=>h.IsListIter it a i
 |false,h,it,a,i=>h.IsTupleIter it a i
theorem a7.extBut {b:Bool}{h h':Heap}{a c:Addr}{its:Array Mq}(x:a7 b h a its)(hs:Heap.ExtBut c h h')(n:a≠c):a7 b h' a its:=by
 cases b<;>(obtain ⟨o,ho,r⟩:=x;exact ⟨o,hs a o n ho,r⟩)
theorem bu.extBut {b:Bool}{h h':Heap}{it a c:Addr}{i:Nat}(x:bu b h it a i)(hs:Heap.ExtBut c h h')(n:it≠c):bu b h' it a i:=by
 cases b<;>(obtain ⟨o,ho,r⟩:=x;exact ⟨o,hs it o n ho,r⟩)
theorem bu.at {b:Bool}{h h':Heap}{it a:Addr}{i:Nat}(x:bu b h it a i)(k:∀o,h.get? it=some o->h'.get? it=some o):bu b h' it a i:=by
 cases b<;>(obtain ⟨o,ho,r⟩:=x;exact ⟨o,k o ho,r⟩)
theorem bu.obj {b:Bool}{h:Heap}{it a:Addr}{i:Nat}(x:bu b h it a i):∃o,h.get? it=some o/\∀v,o.data≠.cell v:=by
 cases b<;>(obtain ⟨o,ho,c,d⟩:=x;exact ⟨o,ho,fun v z=>by rw [d] at z;cases z⟩)
section
variable {prog:MP}{w:Nd}{A:Nr}{E:Mq->Mx->Prop}{s:Mx}
theorem aI {a b:Nat}(h:a≠b):@Ne Addr a b:=h
theorem i8 {T:Addr}{its:Array Mq}{k:Nat}{x:Mq}{Q:Unit->Mx->Prop}(hT:s.heap.get? T=some {cls:=.type "tuple",data:=.seq its})(hz:its.size<=64)
 (h:∀h',h'.get? T=some {cls:=.type "tuple",data:=.seq (its.setIfInBounds k x)}->OV T s.heap h'->Q () {s with heap:=h'}) :
 wpAny #[8] A (updateSeq T (·.setIfInBounds k x)) Q E s:=by
 refine wpAny_updateSeq hT rfl (h _ ?_ (Heap.SameBut.update ..)) (MF hz #[1]) (by rw [Array.size_setIfInBounds];exact MF hz #[1])
 rw [N1 _ hT rfl]
 simp [Obj.mapSeq]
theorem d4 {b:Bool}{it a:Addr}{i:Nat}{its:Array Mq}{x:Mq}{Q:Mq->Mx->Prop}(hit:bu b s.heap it a i)(hl:a7 b s.heap a its)(hx:its[i]?=some x)
 (hQ:∀h',bu b h' it a (i+1)->OV it s.heap h'->Q x {s with heap:=h'}):wpAny #[8] A (Builtin.SmallTypes.nextOf (.ref it)) Q E s:=by
 cases b with
 |true=>exact wpAny_nextOf_list_item hit hl hx hQ
 | false =>
   have hit:s.heap.IsTupleIter it a i:=hit
   obtain ⟨o,ho,hc,hd⟩:=id hit
   obtain ⟨ol,hol,_,nl,hdl⟩:=hl
   unfold Builtin.SmallTypes.nextOf
   refine tqa (wpAny_callSpecial?_slot (name:=Str.ofString "__next__") hit.typeIs OC
    #[139])
   show wpAny _ _ (field (.ref it) 0 >>= _) _ _ s
   refine tqa (tqf ho hd (x:=.ref a) rfl ?_)
   show wpAny _ _ (if #[276]=true then _ else _) _ _ s
   rw [if_neg (show ¬ (#[276]=true) from Nf)]
   show wpAny _ _ (field (.ref it) 1 >>= _) _ _ s
   refine tqa (tqf ho hd (x:=.int i 0) rfl ?_)
   show wpAny _ _ (seqItems? (.ref a) >>= _) _ _ s
   refine tqa (wpAny_seqItems hol hdl ?_)
   simp only [OU,hx]
   refine tqa (wpAny_setField ho hd (by simp) (tqb ⟨x,rfl,tqb (hQ _ ?_ (Heap.SameBut.update ..))⟩))
   exact ⟨_,N1 _ ho (Ov (NR hd _)),(O7 ..).trans hc,by
    rw [NR hd];simp [rawInt]⟩
theorem ic {b:Bool}{it a:Addr}{i:Nat}{its:Array Mq}{Q:Mq->Mx->Prop}(hh:A.handled=none)(hit:bu b s.heap it a i)(hl:a7 b s.heap a its)(hx:its[i]?=none)
 (hE:∀h' e,Heap.ExtBut it s.heap h'->#[132]->E (.ref e) {s with heap:=h'}):wpAny #[8] A (Builtin.SmallTypes.nextOf (.ref it)) Q E s:=by
 cases b with
 |true=>exact wpAny_nextOf_list_end hh hit hl hx hE
 | false =>
   have hit:s.heap.IsTupleIter it a i:=hit
   obtain ⟨o,ho,hc,hd⟩:=id hit
   obtain ⟨ol,hol,_,nl,hdl⟩:=hl
   unfold Builtin.SmallTypes.nextOf
   refine tqa (wpAny_callSpecial?_slot (name:=Str.ofString "__next__") hit.typeIs OC
    #[139])
   show wpAny _ _ (field (.ref it) 0 >>= _) _ _ s
   refine tqa (tqf ho hd (x:=.ref a) rfl ?_)
   show wpAny _ _ (if #[276]=true then _ else _) _ _ s
   rw [if_neg (show ¬ (#[276]=true) from Nf)]
   show wpAny _ _ (field (.ref it) 1 >>= _) _ _ s
   refine tqa (tqf ho hd (x:=.int i 0) rfl ?_)
   show wpAny _ _ (seqItems? (.ref a) >>= _) _ _ s
   refine tqa (wpAny_seqItems hol hdl ?_)
   simp only [OU,hx]
   refine tqa (wpAny_rule (tqa (wpAny_setField ho hd (by simp) ?_)))
   show wpAny _ _ (newExc (.type "StopIteration") [] >>= _) _ _ _
   refine tqa ?_
   simp only [newExc,newTuple]
   refine tqa (wpAny_newObj_type ?_ (by size_fits))
   refine tqa (m:=firstArgMember _ _) (wpAny_of_eq (a:=Value.none) (by first|rfl|(simp only [firstArgMember];rfl)) ?_)
   refine wpAny_newObj_type ?_ (by size_fits)
   simp only [raiseNew]
   refine tqa (wpAny_handled ?_)
   first|rw [show A.in1.handled=none from hh]|rw [hh]
   refine tqa (tqb (wpAny_throw ?_))
   exact hE _ _ (((Heap.SameBut.update ..).extBut.push _).push _) ⟨_,MG _ rfl,rfl⟩
theorem xY {n i:Nat}{a0 a1:Nat}{b0 b1:Bool}{xs0 xs1:Array Mq}{x0 x1 u0 u1:Mq}{Q:Mq->Mx->Prop}(hn:a0<n/\a1<n)
 (hz:Ob s.heap (n+4) (n+2) (n+3) .none) (hTI:s.heap.get? (n+2)=some {cls:=.type "tuple",data:=.seq #[.ref n,.ref (n+1)]}) (hTO:s.heap.get? (n+3)=some {cls:=.type "tuple",data:=.seq #[u0,u1]})
 (i0:bu b0 s.heap n a0 i) (i1:bu b1 s.heap (n+1) a1 i) (q0:a7 b0 s.heap a0 xs0) (q1:a7 b1 s.heap a1 xs1)
 (e0:xs0[i]?=some x0) (e1:xs1[i]?=some x1)
 (hQ:∀h',Ob h' (n+4) (n+2) (n+3) (rawInt s.heap.objs.size)->h'.get? (n+3)=some {cls:=.type "tuple",data:=.seq #[x0,x1]}->bu b0 h' n a0 (i+1)->bu b1 h' (n+1) a1 (i+1)->h'.get? s.heap.objs.size=some {cls:=.type "tuple",data:=.seq #[x0,x1]}->h'.objs.size=s.heap.objs.size+1->
  #[230]->Q #[49] {s with heap:=h'}) :
 wpAny #[8] A (Builtin.«zip.__next__» ⟨[.ref (n+4)],[]⟩) (fun fin s'=>∃v,fin=.done (.ret v)/\Q v s') E s:=by
 obtain ⟨l0,l1⟩:=hn
 show wpAny _ _ (field (.ref (n+4)) 2 >>= _) _ _ _
 refine tqa #[140]
 show wpAny _ _ (field (.ref (n+4)) 3 >>= _) _ _ _
 refine tqa (tqf hz rfl (x:=.ref (n+2)) rfl ?_)
 refine tqa #[251]
 show wpAny _ _ #[313] _ _ _
 refine tqa ?_
 unfold Builtin.SmallTypes.ownedTupleIsFree
 refine tqa #[141]
 simp only [if_true]
 refine tqa (wpAny_rule ?_)
 refine tqa #[147]
 refine tqa #[75]
 replace hz0:Ob h0 (n+4) (n+2) (n+3) .ellipsis:=hz0
 have k0:∀c o,c∉[n,(n+1),(n+3),(n+4)]->s.heap.get? c=some o->h0.get? c=some o:=fun c o hc e=>hs0.extBut _ _ #[5] e
 have hTO0:h0.get? (n+3)=some {cls:=.type "tuple",data:=.seq #[u0,u1]}:=hs0.extBut _ _ (aI #[0]) hTO
 have hsz0:h0.objs.size=s.heap.objs.size:=hs0.1
 refine tqa ?_
 simp only [O2,Pa,Oi,OS]
 have j0_0:bu b0 h0 n a0 i:=i0.extBut hs0.extBut (aI #[0])
 have p0_0:a7 b0 h0 a0 xs0:=q0.extBut hs0.extBut (aI #[0])
 have j1_0:bu b1 h0 (n+1) a1 i:=i1.extBut hs0.extBut (aI #[0])
 have p1_0:a7 b1 h0 a1 xs1:=q1.extBut hs0.extBut (aI #[0])
 refine tqa #[53]
 show wpAny _ _ #[97] _ _ _
 refine tqa #[100]
 have hTO1:h1.get? (n+3)=some {cls:=.type "tuple",data:=.seq #[u0,u1]}:=hs1.extBut _ _ (aI #[0]) hTO0
 refine tqa #[235]
 refine tqa #[112]
 replace hTO2:h2.get? (n+3)=some {cls:=.type "tuple",data:=.seq #[x0,u1]}:=hTO2
 have hz2:Ob h2 (n+4) (n+2) (n+3) .ellipsis:=hs2.extBut _ _ (aI #[0]) #[207]
 have k2:∀c o,c∉[n,(n+1),(n+3),(n+4)]->s.heap.get? c=some o->h2.get? c=some o:=fun c o hc e=>hs2.extBut _ _ #[5] #[148]
 have hsz2:h2.objs.size=s.heap.objs.size:=by rw [hs2.1,hs1.1,hsz0]
 have j0_2:bu b0 h2 n a0 (i+1):=j0_1.extBut hs2.extBut (aI #[0])
 have p0_2:a7 b0 h2 a0 xs0:=(p0_0.extBut hs1.extBut (aI #[0])).extBut hs2.extBut (aI #[0])
 have j1_2:bu b1 h2 (n+1) a1 i:=#[160].extBut hs2.extBut (aI #[0])
 have p1_2:a7 b1 h2 a1 xs1:=#[161].extBut hs2.extBut (aI #[0])
 refine tqa #[172]
 refine tqa #[53]
 show wpAny _ _ #[87] _ _ _
 refine tqa #[219]
 have hTO3:h3.get? (n+3)=some {cls:=.type "tuple",data:=.seq #[x0,u1]}:=hs3.extBut _ _ (aI #[0]) hTO2
 refine tqa (wpAny_seqItems hTO3 rfl ?_)
 refine tqa #[236]
 replace hTO4:h4.get? (n+3)=some {cls:=.type "tuple",data:=.seq #[x0,x1]}:=hTO4
 have hz4:Ob h4 (n+4) (n+2) (n+3) .ellipsis:=hs4.extBut _ _ (aI #[0]) #[336]
 have k4:∀c o,c∉[n,(n+1),(n+3),(n+4)]->s.heap.get? c=some o->h4.get? c=some o:=fun c o hc e=>hs4.extBut _ _ #[5] #[271]
 have hsz4:h4.objs.size=s.heap.objs.size:=by rw [hs4.1,hs3.1,hsz2]
 have j0_4:bu b0 h4 n a0 (i+1):=(j0_2.extBut hs3.extBut (aI #[0])).extBut hs4.extBut (aI #[0])
 have p0_4:a7 b0 h4 a0 xs0:=(p0_2.extBut hs3.extBut (aI #[0])).extBut hs4.extBut (aI #[0])
 have j1_4:bu b1 h4 (n+1) a1 (i+1):=j1_3.extBut hs4.extBut (aI #[0])
 have p1_4:a7 b1 h4 a1 xs1:=(p1_2.extBut hs3.extBut (aI #[0])).extBut hs4.extBut (aI #[0])
 refine tqa (wpAny_letGo (tqb (tqb ?_)))
 refine tqa (wpAny_seqItems hTO4 rfl ?_)
 refine tqa (wpAny_newTuple ?_)
 have hzlt:(n+4)<h4.objs.size:=MJ hz4
 show wpAny _ _ (Builtin.SmallTypes.ownedTupleHandOut (.ref (n+4)) (.ref h4.objs.size) >>= _) _ _ _
 refine tqa ?_
 unfold Builtin.SmallTypes.ownedTupleHandOut
 have hz6:Ob (h4.push {cls:=.type "tuple",data:=.seq #[x0,x1]}) (n+4) (n+2) (n+3) .ellipsis:=Mp _ hz4
 refine tqa #[347]
 replace hz7:Ob h7 (n+4) (n+2) (n+3) (rawInt h4.objs.size):=hz7
 refine wpAny_setField_rec hz7 (by simp) fun h8 hz8 hs8=>?_
 replace hz8:Ob h8 (n+4) (n+2) (n+3) (rawInt h4.objs.size):=hz8
 have up:∀c o,c≠(n+4)->h4.get? c=some o->h8.get? c=some o:=fun c o c1 e=>hs8.extBut _ _ c1 (hs7.extBut _ _ c1 (Mp _ e))
 have hT8:h8.get? h4.objs.size=some {cls:=.type "tuple",data:=.seq #[x0,x1]}:=hs8.extBut _ _ (NI hzlt) (hs7.extBut _ _ (NI hzlt) (MG _ rfl))
 have hzz:h8.objs.size=h4.objs.size+1:=by rw [hs8.1,hs7.1,NN]
 rw [hsz4] at hz8 hT8 hzz
 refine tqb ⟨_,rfl,?_⟩
 show Q (.ref h4.objs.size) _
 rw [hsz4]
 exact hQ h8 hz8 (up _ _ (aI #[0]) hTO4) (j0_4.at fun o e=>up _ o (aI #[0]) e) (j1_4.at fun o e=>up _ o (aI #[0]) e) hT8 hzz fun c o hc e=>up c o #[5] (k4 c o hc e)
theorem Ao {n i:Nat}{a0 a1:Nat}{b0 b1:Bool}{xs0 xs1:Array Mq}{u0 u1:Mq}{Q:Fin->Mx->Prop}(hh:A.handled=none)(hn:a0<n/\a1<n)
 (hz:Ob s.heap (n+4) (n+2) (n+3) .none) (hTI:s.heap.get? (n+2)=some {cls:=.type "tuple",data:=.seq #[.ref n,.ref (n+1)]}) (hTO:s.heap.get? (n+3)=some {cls:=.type "tuple",data:=.seq #[u0,u1]})
 (i0:bu b0 s.heap n a0 i) (i1:bu b1 s.heap (n+1) a1 i) (q0:a7 b0 s.heap a0 xs0) (q1:a7 b1 s.heap a1 xs1)
 (hend:xs0[i]?=none\/xs1[i]?=none)
 (hE:∀h' e,#[230]->#[132]->E (.ref e) {s with heap:=h'}) :
 wpAny #[8] A (Builtin.«zip.__next__» ⟨[.ref (n+4)],[]⟩) Q E s:=by
 obtain ⟨l0,l1⟩:=hn
 show wpAny _ _ (field (.ref (n+4)) 2 >>= _) _ _ _
 refine tqa #[140]
 show wpAny _ _ (field (.ref (n+4)) 3 >>= _) _ _ _
 refine tqa (tqf hz rfl (x:=.ref (n+2)) rfl ?_)
 refine tqa #[251]
 show wpAny _ _ #[313] _ _ _
 refine tqa ?_
 unfold Builtin.SmallTypes.ownedTupleIsFree
 refine tqa #[141]
 simp only [if_true]
 refine tqa (wpAny_rule ?_)
 refine tqa #[147]
 refine tqa #[75]
 replace hz0:Ob h0 (n+4) (n+2) (n+3) .ellipsis:=hz0
 have k0:∀c o,c∉[n,(n+1),(n+3),(n+4)]->s.heap.get? c=some o->h0.get? c=some o:=fun c o hc e=>hs0.extBut _ _ #[5] e
 have hTO0:h0.get? (n+3)=some {cls:=.type "tuple",data:=.seq #[u0,u1]}:=hs0.extBut _ _ (aI #[0]) hTO
 refine tqa ?_
 simp only [O2,Pa,Oi,OS]
 have j0_0:bu b0 h0 n a0 i:=i0.extBut hs0.extBut (aI #[0])
 have p0_0:a7 b0 h0 a0 xs0:=q0.extBut hs0.extBut (aI #[0])
 have j1_0:bu b1 h0 (n+1) a1 i:=i1.extBut hs0.extBut (aI #[0])
 have p1_0:a7 b1 h0 a1 xs1:=q1.extBut hs0.extBut (aI #[0])
 refine tqa #[53]
 show wpAny _ _ #[97] _ _ _
 cases e0:xs0[i]? with
 | none =>
   refine tqa (ic hh j0_0 p0_0 e0 fun h1 e hs1 he=>?_)
   obtain ⟨oe,hoe,hce⟩:=he
   have hz1:Ob h1 (n+4) (n+2) (n+3) .ellipsis:=hs1 _ _ (aI #[0]) hz0
   have hez:e≠(n+4):=fun x=>by subst x;rw [hz1] at hoe;cases hoe;simp at hce
   exact wpAny_setField_rec hz1 (by simp) fun h2 _ hs2=>hE h2 e #[272] ⟨oe,hs2.extBut _ _ hez hoe,hce⟩
 | some x0 =>
   refine tqa #[100]
   have hTO1:h1.get? (n+3)=some {cls:=.type "tuple",data:=.seq #[u0,u1]}:=hs1.extBut _ _ (aI #[0]) hTO0
   refine tqa #[235]
   refine tqa #[112]
   replace hTO2:h2.get? (n+3)=some {cls:=.type "tuple",data:=.seq #[x0,u1]}:=hTO2
   have hz2:Ob h2 (n+4) (n+2) (n+3) .ellipsis:=hs2.extBut _ _ (aI #[0]) #[207]
   have k2:∀c o,c∉[n,(n+1),(n+3),(n+4)]->s.heap.get? c=some o->h2.get? c=some o:=fun c o hc e=>hs2.extBut _ _ #[5] #[148]
   have j1_2:bu b1 h2 (n+1) a1 i:=#[160].extBut hs2.extBut (aI #[0])
   have p1_2:a7 b1 h2 a1 xs1:=#[161].extBut hs2.extBut (aI #[0])
   refine tqa #[172]
   refine tqa #[53]
   show wpAny _ _ #[87] _ _ _
   cases e1:xs1[i]? with
   | none =>
     refine tqa (ic hh j1_2 p1_2 e1 fun h3 e hs3 he=>?_)
     obtain ⟨oe,hoe,hce⟩:=he
     have hz3:Ob h3 (n+4) (n+2) (n+3) .ellipsis:=hs3 _ _ (aI #[0]) hz2
     have hez:e≠(n+4):=fun x=>by subst x;rw [hz3] at hoe;cases hoe;simp at hce
     exact wpAny_setField_rec hz3 (by simp) fun h4 _ hs4=>hE h4 e #[273] ⟨oe,hs4.extBut _ _ hez hoe,hce⟩
   | some x1 =>
     exfalso
     rcases hend with h|h
     ·rw [e0] at h;cases h
     ·rw [e1] at h;cases h
theorem xX {n i:Nat}{a0 a1 a2:Nat}{b0 b1 b2:Bool}{xs0 xs1 xs2:Array Mq}{x0 x1 x2 u0 u1 u2:Mq}{Q:Mq->Mx->Prop}(hn:a0<n/\a1<n/\a2<n)
 (hz:Ob s.heap (n+5) (n+3) (n+4) .none) (hTI:s.heap.get? (n+3)=some {cls:=.type "tuple",data:=.seq #[.ref n,.ref (n+1),.ref (n+2)]}) (hTO:s.heap.get? (n+4)=some {cls:=.type "tuple",data:=.seq #[u0,u1,u2]})
 (i0:bu b0 s.heap n a0 i) (i1:bu b1 s.heap (n+1) a1 i) (i2:bu b2 s.heap (n+2) a2 i) (q0:a7 b0 s.heap a0 xs0) (q1:a7 b1 s.heap a1 xs1) (q2:a7 b2 s.heap a2 xs2)
 (e0:xs0[i]?=some x0) (e1:xs1[i]?=some x1) (e2:xs2[i]?=some x2)
 (hQ:∀h',Ob h' (n+5) (n+3) (n+4) (rawInt s.heap.objs.size)->h'.get? (n+4)=some {cls:=.type "tuple",data:=.seq #[x0,x1,x2]}->bu b0 h' n a0 (i+1)->bu b1 h' (n+1) a1 (i+1)->bu b2 h' (n+2) a2 (i+1)->h'.get? s.heap.objs.size=some {cls:=.type "tuple",data:=.seq #[x0,x1,x2]}->h'.objs.size=s.heap.objs.size+1->
  #[199]->Q #[49] {s with heap:=h'}) :
 wpAny #[8] A (Builtin.«zip.__next__» ⟨[.ref (n+5)],[]⟩) (fun fin s'=>∃v,fin=.done (.ret v)/\Q v s') E s:=by
 obtain ⟨l0,l1,l2⟩:=hn
 show wpAny _ _ (field (.ref (n+5)) 2 >>= _) _ _ _
 refine tqa #[140]
 show wpAny _ _ (field (.ref (n+5)) 3 >>= _) _ _ _
 refine tqa #[147]
 refine tqa #[251]
 show wpAny _ _ #[314] _ _ _
 refine tqa ?_
 unfold Builtin.SmallTypes.ownedTupleIsFree
 refine tqa #[141]
 simp only [if_true]
 refine tqa (wpAny_rule ?_)
 refine tqa (tqf hz rfl (x:=.ref (n+4)) rfl ?_)
 refine tqa #[75]
 replace hz0:Ob h0 (n+5) (n+3) (n+4) .ellipsis:=hz0
 have k0:∀c o,c∉[n,(n+1),(n+2),(n+4),(n+5)]->s.heap.get? c=some o->h0.get? c=some o:=fun c o hc e=>hs0.extBut _ _ #[5] e
 have hTO0:h0.get? (n+4)=some {cls:=.type "tuple",data:=.seq #[u0,u1,u2]}:=hs0.extBut _ _ (aI #[0]) hTO
 have hsz0:h0.objs.size=s.heap.objs.size:=hs0.1
 refine tqa ?_
 simp only [O2,Pa,Oi,OS]
 have j0_0:bu b0 h0 n a0 i:=i0.extBut hs0.extBut (aI #[0])
 have p0_0:a7 b0 h0 a0 xs0:=q0.extBut hs0.extBut (aI #[0])
 have j1_0:bu b1 h0 (n+1) a1 i:=i1.extBut hs0.extBut (aI #[0])
 have p1_0:a7 b1 h0 a1 xs1:=q1.extBut hs0.extBut (aI #[0])
 have j2_0:bu b2 h0 (n+2) a2 i:=i2.extBut hs0.extBut (aI #[0])
 have p2_0:a7 b2 h0 a2 xs2:=q2.extBut hs0.extBut (aI #[0])
 refine tqa #[53]
 show wpAny _ _ #[97] _ _ _
 refine tqa #[100]
 have hTO1:h1.get? (n+4)=some {cls:=.type "tuple",data:=.seq #[u0,u1,u2]}:=hs1.extBut _ _ (aI #[0]) hTO0
 refine tqa #[235]
 refine tqa #[112]
 replace hTO2:h2.get? (n+4)=some {cls:=.type "tuple",data:=.seq #[x0,u1,u2]}:=hTO2
 have hz2:Ob h2 (n+5) (n+3) (n+4) .ellipsis:=hs2.extBut _ _ (aI #[0]) #[207]
 have k2:∀c o,c∉[n,(n+1),(n+2),(n+4),(n+5)]->s.heap.get? c=some o->h2.get? c=some o:=fun c o hc e=>hs2.extBut _ _ #[5] #[148]
 have hsz2:h2.objs.size=s.heap.objs.size:=by rw [hs2.1,hs1.1,hsz0]
 have j0_2:bu b0 h2 n a0 (i+1):=j0_1.extBut hs2.extBut (aI #[0])
 have p0_2:a7 b0 h2 a0 xs0:=(p0_0.extBut hs1.extBut (aI #[0])).extBut hs2.extBut (aI #[0])
 have j1_2:bu b1 h2 (n+1) a1 i:=#[160].extBut hs2.extBut (aI #[0])
 have p1_2:a7 b1 h2 a1 xs1:=#[161].extBut hs2.extBut (aI #[0])
 have j2_2:bu b2 h2 (n+2) a2 i:=(j2_0.extBut hs1.extBut (aI #[0])).extBut hs2.extBut (aI #[0])
 have p2_2:a7 b2 h2 a2 xs2:=(p2_0.extBut hs1.extBut (aI #[0])).extBut hs2.extBut (aI #[0])
 refine tqa #[172]
 refine tqa #[53]
 show wpAny _ _ #[87] _ _ _
 refine tqa #[219]
 have hTO3:h3.get? (n+4)=some {cls:=.type "tuple",data:=.seq #[x0,u1,u2]}:=hs3.extBut _ _ (aI #[0]) hTO2
 refine tqa (wpAny_seqItems hTO3 rfl ?_)
 refine tqa #[236]
 replace hTO4:h4.get? (n+4)=some {cls:=.type "tuple",data:=.seq #[x0,x1,u2]}:=hTO4
 have hz4:Ob h4 (n+5) (n+3) (n+4) .ellipsis:=hs4.extBut _ _ (aI #[0]) #[336]
 have k4:∀c o,c∉[n,(n+1),(n+2),(n+4),(n+5)]->s.heap.get? c=some o->h4.get? c=some o:=fun c o hc e=>hs4.extBut _ _ #[5] #[271]
 have hsz4:h4.objs.size=s.heap.objs.size:=by rw [hs4.1,hs3.1,hsz2]
 have j0_4:bu b0 h4 n a0 (i+1):=(j0_2.extBut hs3.extBut (aI #[0])).extBut hs4.extBut (aI #[0])
 have p0_4:a7 b0 h4 a0 xs0:=(p0_2.extBut hs3.extBut (aI #[0])).extBut hs4.extBut (aI #[0])
 have j1_4:bu b1 h4 (n+1) a1 (i+1):=j1_3.extBut hs4.extBut (aI #[0])
 have p1_4:a7 b1 h4 a1 xs1:=(p1_2.extBut hs3.extBut (aI #[0])).extBut hs4.extBut (aI #[0])
 have j2_4:bu b2 h4 (n+2) a2 i:=(j2_2.extBut hs3.extBut (aI #[0])).extBut hs4.extBut (aI #[0])
 have p2_4:a7 b2 h4 a2 xs2:=(p2_2.extBut hs3.extBut (aI #[0])).extBut hs4.extBut (aI #[0])
 refine tqa #[172]
 refine tqa #[53]
 show wpAny _ _ (Builtin.SmallTypes.nextOf (.ref (n+2)) >>= _) _ _ _
 refine tqa (d4 j2_4 p2_4 e2 fun h5 j2_5 hs5=>tqb ?_)
 have hTO5:h5.get? (n+4)=some {cls:=.type "tuple",data:=.seq #[x0,x1,u2]}:=hs5.extBut _ _ (aI #[0]) hTO4
 refine tqa (wpAny_seqItems hTO5 rfl ?_)
 refine tqa (i8 hTO5 (by simp) fun h6 hTO6 hs6=>?_)
 replace hTO6:h6.get? (n+4)=some {cls:=.type "tuple",data:=.seq #[x0,x1,x2]}:=hTO6
 have hz6:Ob h6 (n+5) (n+3) (n+4) .ellipsis:=hs6.extBut _ _ (aI #[0]) (hs5.extBut _ _ (aI #[0]) hz4)
 have k6:∀c o,c∉[n,(n+1),(n+2),(n+4),(n+5)]->s.heap.get? c=some o->h6.get? c=some o:=fun c o hc e=>hs6.extBut _ _ #[5] (hs5.extBut _ _ #[5] (k4 c o hc e))
 have hsz6:h6.objs.size=s.heap.objs.size:=by rw [hs6.1,hs5.1,hsz4]
 have j0_6:bu b0 h6 n a0 (i+1):=(j0_4.extBut hs5.extBut (aI #[0])).extBut hs6.extBut (aI #[0])
 have p0_6:a7 b0 h6 a0 xs0:=(p0_4.extBut hs5.extBut (aI #[0])).extBut hs6.extBut (aI #[0])
 have j1_6:bu b1 h6 (n+1) a1 (i+1):=(j1_4.extBut hs5.extBut (aI #[0])).extBut hs6.extBut (aI #[0])
 have p1_6:a7 b1 h6 a1 xs1:=(p1_4.extBut hs5.extBut (aI #[0])).extBut hs6.extBut (aI #[0])
 have j2_6:bu b2 h6 (n+2) a2 (i+1):=j2_5.extBut hs6.extBut (aI #[0])
 have p2_6:a7 b2 h6 a2 xs2:=(p2_4.extBut hs5.extBut (aI #[0])).extBut hs6.extBut (aI #[0])
 refine tqa (wpAny_letGo (tqb (tqb ?_)))
 refine tqa (wpAny_seqItems hTO6 rfl ?_)
 refine tqa (wpAny_newTuple ?_)
 have hzlt:(n+5)<h6.objs.size:=MJ hz6
 show wpAny _ _ (Builtin.SmallTypes.ownedTupleHandOut (.ref (n+5)) (.ref h6.objs.size) >>= _) _ _ _
 refine tqa ?_
 unfold Builtin.SmallTypes.ownedTupleHandOut
 have hz6:Ob (h6.push {cls:=.type "tuple",data:=.seq #[x0,x1,x2]}) (n+5) (n+3) (n+4) .ellipsis:=Mp _ hz6
 refine tqa #[347]
 replace hz7:Ob h7 (n+5) (n+3) (n+4) (rawInt h6.objs.size):=hz7
 refine wpAny_setField_rec hz7 (by simp) fun h8 hz8 hs8=>?_
 replace hz8:Ob h8 (n+5) (n+3) (n+4) (rawInt h6.objs.size):=hz8
 have up:∀c o,c≠(n+5)->h6.get? c=some o->h8.get? c=some o:=fun c o c1 e=>hs8.extBut _ _ c1 (hs7.extBut _ _ c1 (Mp _ e))
 have hT8:h8.get? h6.objs.size=some {cls:=.type "tuple",data:=.seq #[x0,x1,x2]}:=hs8.extBut _ _ (NI hzlt) (hs7.extBut _ _ (NI hzlt) (MG _ rfl))
 have hzz:h8.objs.size=h6.objs.size+1:=by rw [hs8.1,hs7.1,NN]
 rw [hsz6] at hz8 hT8 hzz
 refine tqb ⟨_,rfl,?_⟩
 show Q (.ref h6.objs.size) _
 rw [hsz6]
 exact hQ h8 hz8 (up _ _ (aI #[0]) hTO6) (j0_6.at fun o e=>up _ o (aI #[0]) e) (j1_6.at fun o e=>up _ o (aI #[0]) e) (j2_6.at fun o e=>up _ o (aI #[0]) e) hT8 hzz fun c o hc e=>up c o #[5] (k6 c o hc e)
theorem An {n i:Nat}{a0 a1 a2:Nat}{b0 b1 b2:Bool}{xs0 xs1 xs2:Array Mq}{u0 u1 u2:Mq}{Q:Fin->Mx->Prop}(hh:A.handled=none)(hn:a0<n/\a1<n/\a2<n)
 (hz:Ob s.heap (n+5) (n+3) (n+4) .none) (hTI:s.heap.get? (n+3)=some {cls:=.type "tuple",data:=.seq #[.ref n,.ref (n+1),.ref (n+2)]}) (hTO:s.heap.get? (n+4)=some {cls:=.type "tuple",data:=.seq #[u0,u1,u2]})
 (i0:bu b0 s.heap n a0 i) (i1:bu b1 s.heap (n+1) a1 i) (i2:bu b2 s.heap (n+2) a2 i) (q0:a7 b0 s.heap a0 xs0) (q1:a7 b1 s.heap a1 xs1) (q2:a7 b2 s.heap a2 xs2)
 (hend:xs0[i]?=none\/xs1[i]?=none\/xs2[i]?=none)
 (hE:∀h' e,#[199]->#[132]->E (.ref e) {s with heap:=h'}) :
 wpAny #[8] A (Builtin.«zip.__next__» ⟨[.ref (n+5)],[]⟩) Q E s:=by
 obtain ⟨l0,l1,l2⟩:=hn
 show wpAny _ _ (field (.ref (n+5)) 2 >>= _) _ _ _
 refine tqa #[140]
 show wpAny _ _ (field (.ref (n+5)) 3 >>= _) _ _ _
 refine tqa #[147]
 refine tqa #[251]
 show wpAny _ _ #[314] _ _ _
 refine tqa ?_
 unfold Builtin.SmallTypes.ownedTupleIsFree
 refine tqa #[141]
 simp only [if_true]
 refine tqa (wpAny_rule ?_)
 refine tqa (tqf hz rfl (x:=.ref (n+4)) rfl ?_)
 refine tqa #[75]
 replace hz0:Ob h0 (n+5) (n+3) (n+4) .ellipsis:=hz0
 have k0:∀c o,c∉[n,(n+1),(n+2),(n+4),(n+5)]->s.heap.get? c=some o->h0.get? c=some o:=fun c o hc e=>hs0.extBut _ _ #[5] e
 have hTO0:h0.get? (n+4)=some {cls:=.type "tuple",data:=.seq #[u0,u1,u2]}:=hs0.extBut _ _ (aI #[0]) hTO
 refine tqa ?_
 simp only [O2,Pa,Oi,OS]
 have j0_0:bu b0 h0 n a0 i:=i0.extBut hs0.extBut (aI #[0])
 have p0_0:a7 b0 h0 a0 xs0:=q0.extBut hs0.extBut (aI #[0])
 have j1_0:bu b1 h0 (n+1) a1 i:=i1.extBut hs0.extBut (aI #[0])
 have p1_0:a7 b1 h0 a1 xs1:=q1.extBut hs0.extBut (aI #[0])
 have j2_0:bu b2 h0 (n+2) a2 i:=i2.extBut hs0.extBut (aI #[0])
 have p2_0:a7 b2 h0 a2 xs2:=q2.extBut hs0.extBut (aI #[0])
 refine tqa #[53]
 show wpAny _ _ #[97] _ _ _
 cases e0:xs0[i]? with
 | none =>
   refine tqa (ic hh j0_0 p0_0 e0 fun h1 e hs1 he=>?_)
   obtain ⟨oe,hoe,hce⟩:=he
   have hz1:Ob h1 (n+5) (n+3) (n+4) .ellipsis:=hs1 _ _ (aI #[0]) hz0
   have hez:e≠(n+5):=fun x=>by subst x;rw [hz1] at hoe;cases hoe;simp at hce
   exact wpAny_setField_rec hz1 (by simp) fun h2 _ hs2=>hE h2 e #[272] ⟨oe,hs2.extBut _ _ hez hoe,hce⟩
 | some x0 =>
   refine tqa #[100]
   have hTO1:h1.get? (n+4)=some {cls:=.type "tuple",data:=.seq #[u0,u1,u2]}:=hs1.extBut _ _ (aI #[0]) hTO0
   refine tqa #[235]
   refine tqa #[112]
   replace hTO2:h2.get? (n+4)=some {cls:=.type "tuple",data:=.seq #[x0,u1,u2]}:=hTO2
   have hz2:Ob h2 (n+5) (n+3) (n+4) .ellipsis:=hs2.extBut _ _ (aI #[0]) #[207]
   have k2:∀c o,c∉[n,(n+1),(n+2),(n+4),(n+5)]->s.heap.get? c=some o->h2.get? c=some o:=fun c o hc e=>hs2.extBut _ _ #[5] #[148]
   have j1_2:bu b1 h2 (n+1) a1 i:=#[160].extBut hs2.extBut (aI #[0])
   have p1_2:a7 b1 h2 a1 xs1:=#[161].extBut hs2.extBut (aI #[0])
   have j2_2:bu b2 h2 (n+2) a2 i:=(j2_0.extBut hs1.extBut (aI #[0])).extBut hs2.extBut (aI #[0])
   have p2_2:a7 b2 h2 a2 xs2:=(p2_0.extBut hs1.extBut (aI #[0])).extBut hs2.extBut (aI #[0])
   refine tqa #[172]
   refine tqa #[53]
   show wpAny _ _ #[87] _ _ _
   cases e1:xs1[i]? with
   | none =>
     refine tqa (ic hh j1_2 p1_2 e1 fun h3 e hs3 he=>?_)
     obtain ⟨oe,hoe,hce⟩:=he
     have hz3:Ob h3 (n+5) (n+3) (n+4) .ellipsis:=hs3 _ _ (aI #[0]) hz2
     have hez:e≠(n+5):=fun x=>by subst x;rw [hz3] at hoe;cases hoe;simp at hce
     exact wpAny_setField_rec hz3 (by simp) fun h4 _ hs4=>hE h4 e #[273] ⟨oe,hs4.extBut _ _ hez hoe,hce⟩
   | some x1 =>
     refine tqa #[219]
     have hTO3:h3.get? (n+4)=some {cls:=.type "tuple",data:=.seq #[x0,u1,u2]}:=hs3.extBut _ _ (aI #[0]) hTO2
     refine tqa (wpAny_seqItems hTO3 rfl ?_)
     refine tqa #[236]
     replace hTO4:h4.get? (n+4)=some {cls:=.type "tuple",data:=.seq #[x0,x1,u2]}:=hTO4
     have hz4:Ob h4 (n+5) (n+3) (n+4) .ellipsis:=hs4.extBut _ _ (aI #[0]) #[336]
     have k4:∀c o,c∉[n,(n+1),(n+2),(n+4),(n+5)]->s.heap.get? c=some o->h4.get? c=some o:=fun c o hc e=>hs4.extBut _ _ #[5] #[271]
     have j2_4:bu b2 h4 (n+2) a2 i:=(j2_2.extBut hs3.extBut (aI #[0])).extBut hs4.extBut (aI #[0])
     have p2_4:a7 b2 h4 a2 xs2:=(p2_2.extBut hs3.extBut (aI #[0])).extBut hs4.extBut (aI #[0])
     refine tqa #[172]
     refine tqa #[53]
     show wpAny _ _ (Builtin.SmallTypes.nextOf (.ref (n+2)) >>= _) _ _ _
     cases e2:xs2[i]? with
     | none =>
       refine tqa (ic hh j2_4 p2_4 e2 fun h5 e hs5 he=>?_)
       obtain ⟨oe,hoe,hce⟩:=he
       have hz5:Ob h5 (n+5) (n+3) (n+4) .ellipsis:=hs5 _ _ (aI #[0]) hz4
       have hez:e≠(n+5):=fun x=>by subst x;rw [hz5] at hoe;cases hoe;simp at hce
       exact wpAny_setField_rec hz5 (by simp) fun h6 _ hs6=>hE h6 e (fun c o hc x=>hs6.extBut _ _ #[5] (hs5 _ _ #[5] (k4 c o hc x))) ⟨oe,hs6.extBut _ _ hez hoe,hce⟩
     | some x2 =>
       exfalso
       rcases hend with h|h|h
       ·rw [e0] at h;cases h
       ·rw [e1] at h;cases h
       ·rw [e2] at h;cases h
end
end LD
namespace LD
open PySem PySem.Spec PyProof.Rows L2
def iA (K:Mr)(H:Hp):Bool->Addr->List V->Prop
 |true,a,xs=>c9 K H a xs
 |false,a,xs=>dO K H a xs
def eZ:D->Bool
 |.tup _=>false
 |_=>true
def dJ:D->Bool
 |.tup _=>true
 |.lst _=>true
 |.frz _=>true
 |.cell _=>true
 |_=>false
theorem fj {X:Cx}{pins:List #[15]}{σ:L2.St}{H:Hp}{s:Mx}{b:Bool}{a:Addr}{xs:List V}(I:Inv X pins σ H s)(h:iA X.K H b a xs):∃its:List Mq,Vals xs its/\a7 b s.heap a its.toArray:=by
 cases b with
 |true=>obtain ⟨its,r,p,_⟩:=I.list h;exact ⟨its,r,p.isList⟩
 |false=>obtain ⟨its,r,p,_⟩:=I.tuple h;exact ⟨its,r,p⟩
theorem jO {X:Cx}{pins:List #[15]}{σ:L2.St}{H:Hp}{s:Mx}{b:Bool}{a:Addr}{xs ys:List V}(I:Inv X pins σ H s)(h:iA X.K H b a xs)(h':iA X.K H b a ys):xs=ys:=by
 cases b with
 |true=>exact I.list_inj h h'
 |false=>exact I.tuple_inj h h'
theorem iG {fa:Fa}{X:Cx}{μ:Mu}{H:Hp}{M:Mem}{d:D}{a:Addr}{ds:List D}(hM:RelM fa X.K μ H M)(h:Rep fa X.K μ H d (.ref a))(e:bZ M d=some ds):∃vs,iA X.K H (eZ d) a vs/\aT fa X.K μ H ds vs:=by
 cases d with
 |tup xs=>cases e;obtain ⟨a',vs,e,s,r⟩:=h;cases e;exact ⟨vs,s,r⟩
 |lst xs=>obtain ⟨a',vs,e',s,r⟩:=bW hM h (show fS M (.lst xs)=some ds from e);cases e';exact ⟨vs,s,r⟩
 |frz xs=>obtain ⟨a',vs,e',s,r⟩:=bW hM h (show fS M (.frz xs)=some ds from e);cases e';exact ⟨vs,s,r⟩
 |cell k=>obtain ⟨a',vs,e',s,r⟩:=bW hM h (show fS M (.cell k)=some ds from e);cases e';exact ⟨vs,s,r⟩
 |_=>cases e
theorem jN {fa:Fa}{X:Cx}{pins:List #[15]}{σ:L2.St}{μ:Mu}{H:Hp}{s:Mx}{M:Mem}{d:D}{v:V}(I:Inv X pins σ H s)(hM:RelM fa X.K μ H M)(h:Rep fa X.K μ H d v)(e:dJ d=true):∃(a:Nat) (its:Array Mq),v=.ref a/\a7 (eZ d) s.heap a its:=by
 have key:∀ds,bZ M d=some ds->∃(a:Nat) (its:Array Mq),v=.ref a/\a7 (eZ d) s.heap a its:=fun ds z=>by
  obtain ⟨a,vs,rfl,_,_⟩:=jS hM h z
  obtain ⟨vs,s1,_⟩:=iG hM h z
  obtain ⟨its,_,p⟩:=fj I s1
  exact ⟨a,its.toArray,rfl,p⟩
 cases d with
 |tup xs=>exact key xs rfl
 |lst xs=>exact key xs rfl
 |frz xs=>exact key xs rfl
 | cell k =>
   obtain ⟨a,e,hk⟩:=id h
   obtain ⟨ds,_,z,_⟩:=hM.mu_lt hk
   exact key ds z
 |_=>cases e
theorem a7.lt {b:Bool}{h:Heap}{a:Addr}{its:Array Mq}(x:a7 b h a its):a<h.objs.size:=by
 cases b<;>(obtain ⟨o,ho,r⟩:=x;exact MJ ho)
theorem a7.push {b:Bool}{h:Heap}{a:Addr}{its:Array Mq}(x:a7 b h a its)(ob:Obj):a7 b (h.push ob) a its:=by
 cases b<;>(obtain ⟨o,ho,r⟩:=x;exact ⟨o,Mp _ ho,r⟩)
def lT (b:Bool)(a:Addr):Obj:={cls:=.type (if b then "list_iterator" else "tuple_iterator"),data:=.fields #[.ref a,.int 0 0]}
theorem bu.new {b:Bool}{h:Heap}{it a:Addr}(e:h.get? it=some (lT b a)):bu b h it a 0:=by
 cases b<;>exact ⟨_,e,rfl,rfl⟩
theorem ia {prog:MP}{w:Nd}{A:Nr}{E:Mq->Mx->Prop}{s:Mx}{b:Bool}{a:Addr}{its:Array Mq}{Q:Mq->Mx->Prop}(h:a7 b s.heap a its)(hQ:Q #[49] {s with heap:=s.heap.push (lT b a)}):wpAny #[8] A (pyIter (.ref a)) Q E s:=by
 cases b with
 |true=>exact wpAny_pyIter_list h hQ
 |false=>exact wpAny_pyIter_tuple h hQ
def IG (K:Mr)(b0:Bool)(a0:Nat)(b1:Bool)(a1:Nat):It:=
 ⟨fun i H => (∃ xs x, iA K H b0 a0 xs /\ xs[i]? = some x) /\ (∃ xs x, iA K H b1 a1 xs /\ xs[i]? = some x),
  fun i H v H'=>∃p x0 x1,H p=none/\v=.ref p/\H'=upd H p (.tup [x0,x1])/\(∀xs,iA K H b0 a0 xs->xs[i]?=some x0)/\(∀xs,iA K H b1 a1 xs->xs[i]?=some x1),
  fun i H=>∃xs0 xs1,iA K H b0 a0 xs0/\iA K H b1 a1 xs1/\(xs0.length<=i\/xs1.length<=i)⟩
def mR (n:Nat)(b0:Bool)(a0:Nat)(b1:Bool)(a1:Nat)(i:Nat)(h:Heap)(f0:Mq):Prop:=Ob h (n+4) (n+2) (n+3) f0/\h.get? (n+2)=some {cls:=.type "tuple",data:=.seq #[.ref n,.ref (n+1)]}/\(∃u0 u1,h.get? (n+3)=some {cls:=.type "tuple",data:=.seq #[u0,u1]})/\bu b0 h n a0 i/\bu b1 h (n+1) a1 i
theorem mR.keep {n i:Nat}{a0 a1:Nat}{b0 b1:Bool}{h h':Heap}{f0:Mq}(x:mR n b0 a0 b1 a1 i h f0)(k:∀b∈[(n+4),n,(n+1),(n+2),(n+3)],∀o,h.get? b=some o->h'.get? b=some o):mR n b0 a0 b1 a1 i h' f0:=by
 obtain ⟨h1,h2,⟨u0,u1,h3⟩,j0,j1⟩:=x
 exact ⟨k _ (by simp) _ h1,k _ (by simp) _ h2,⟨u0,u1,k _ (by simp) _ h3⟩,j0.at fun o e=>k _ (by simp) o e,j1.at fun o e=>k _ (by simp) o e⟩
theorem yr {P:MP}{w:Nd}{K:Mr}{elts:List Expr}{kk:Nat}{pos:Pos}(n:Nat)(b0:Bool)(a0:Nat)(b1:Bool)(a1:Nat)(hn:a0<n/\a1<n) :
 Turn P w K (.Tuple elts kk pos) (IG K b0 a0 b1 a1) [(n+4),n,(n+1),(n+2),(n+3)] (n+4) (fun i h=>mR n b0 a0 b1 a1 i h .none) where
 mem:=by simp
 obj:=fun i h ⟨h1,h2,⟨u0,u1,h3⟩,j0,j1⟩ b hb=>by
  simp only [Mz,MK,or_false] at hb
  rcases hb with z|z|z|z|z
  ·subst z;exact ⟨_,h1,fun v z=>by cases z⟩
  ·subst z;exact j0.obj
  ·subst z;exact j1.obj
  ·subst z;exact ⟨_,h2,fun v z=>by cases z⟩
  ·subst z;exact ⟨_,h3,fun v z=>by cases z⟩
 keep:=fun i h h' st k=>st.keep k
 item:=by
  intro X hP hw hK hc i pins s σ H E I hf st hg
  subst hP hw hK
  obtain ⟨⟨xs0,x0,hq0,hx0⟩,⟨xs1,x1,hq1,hx1⟩⟩:=hg
  obtain ⟨h1,h2,⟨u0,u1,h3⟩,j0,j1⟩:=st
  obtain ⟨its0,rv0,p0⟩:=fj I hq0
  obtain ⟨w0,hw0,rw0⟩:=rv0.get hx0
  obtain ⟨its1,rv1,p1⟩:=fj I hq1
  obtain ⟨w1,hw1,rw1⟩:=rv1.get hx1
  have hT:s.TypeIs (.ref (n+4)) "zip":=⟨_,h1,rfl⟩
  unfold pyNext
  refine tqa (wpAny_attempt (wpAny_callSpecial?_slot (name:=Str.ofString "__next__") hT Oa
   (wpAny_call_entry Oa hT Pk
    (xY (E:=_) hn h1 h2 h3 j0 j1 p0 p1 (x0:=w0) (by simpa using hw0) (x1:=w1) (by simpa using hw1) fun h4 z1 z2 g0 g1 hTT hsz hk=>tqb ⟨_,rfl,?_⟩) (O8 _))))
  have hT0:H s.heap.objs.size=none:=I.hok.fresh (My _)
  have zlt:(n+4)<s.heap.objs.size:=MJ h1
  refine wpAny_letOwnedTupleGo_zip (s:={s with heap:=h4}) z1 fun h5 hz5 hs5=>?_
  have hT5:h5.get? s.heap.objs.size=some {cls:=.type "tuple",data:=.seq #[w0,w1]}:=(hs5.2 _ (NI zlt)).trans hTT
  refine ⟨.ref s.heap.objs.size,upd H s.heap.objs.size (.tup [x0,x1]),mh (s:=s) (t':=s.toks) I hf (fun b o hb q=>(hs5.2 b (fun z=>hb (by rw [z];simp))).trans (hk b o (fun z=>hb (by simp only [Mz,MK,or_false] at z ⊢;rcases z with z|z|z|z<;>simp [z])) q)) (My _) ⟨?_,[w0,w1],.cons rw0 (.cons rw1 (.nil)),⟨_,hT5,rfl,_,rfl⟩⟩,rfl,
   ⟨_,x0,x1,hT0,rfl,rfl,fun ys hy=>by rw [jO I hy hq0];exact hx0,fun ys hy=>by rw [jO I hy hq1];exact hx1⟩,⟨hz5,hs5.extBut _ _ (aI #[0]) (hk _ _ (by simp) h2),⟨w0,w1,hs5.extBut _ _ (aI #[0]) z2⟩,g0.extBut hs5.extBut (aI #[0]),g1.extBut hs5.extBut (aI #[0])⟩,fun b hb=>?_⟩
  ·show 2<=sizeLine;decide
  ·have:b<s.heap.objs.size:=by
    have zl:(n+4)<s.heap.objs.size:=zlt
    simp only [Mz,MK,or_false] at hb
    rcases hb with z|z|z|z|z<;>(rw [z];(first|exact zl|exact Nat.lt_trans #[0] zl))
   rw [aO (Nt this)];exact (hf b hb).1
 done:=by
  intro X hP hw hK hc i pins s σ H E I hf st hg
  subst hP hw hK
  obtain ⟨xs0,xs1,hq0,hq1,hend⟩:=hg
  obtain ⟨h1,h2,⟨u0,u1,h3⟩,j0,j1⟩:=st
  obtain ⟨its0,rv0,p0⟩:=fj I hq0
  have hl0:=rv0.length
  obtain ⟨its1,rv1,p1⟩:=fj I hq1
  have hl1:=rv1.length
  have hT:s.TypeIs (.ref (n+4)) "zip":=⟨_,h1,rfl⟩
  unfold pyNext
  refine tqa (wpAny_attempt (wpAny_callSpecial?_slot (name:=Str.ofString "__next__") hT Oa
   (wpAny_call_entry Oa hT Pk (Ao #[176] hn h1 h2 h3 j0 j1 p0 p1 (by
    rcases hend with z|z
    ·exact .inl #[7]
    ·exact .inr #[7]
    ) fun h' e hk he=>?_) (O8 _))))
  obtain ⟨o,ho,hcl⟩:=he
  refine tqa #[188]
  exact tqb ⟨rfl,pX (s:=s) I hf (t':=s.toks) fun b o hb q=>hk b o (fun z=>hb (by simp only [Mz,MK,or_false] at z ⊢;rcases z with z|z|z|z<;>simp [z])) q⟩
 self:=fun _ _ _ _ _ st h=>wpAny_pyIter_zip st.1 h
abbrev oO (h:Heap)(b0:Bool)(a0:Nat)(b1:Bool)(a1:Nat):Heap:=h.push (lT b0 a0)
abbrev sA (h:Heap)(b0:Bool)(a0:Nat)(b1:Bool)(a1:Nat):Heap:=(oO h b0 a0 b1 a1).push (lT b1 a1)
abbrev sv (h:Heap)(b0:Bool)(a0:Nat)(b1:Bool)(a1:Nat):Heap:=(sA h b0 a0 b1 a1).push {cls:=.type "tuple",data:=.seq #[.ref h.objs.size,.ref (oO h b0 a0 b1 a1).objs.size]}
abbrev su (h:Heap)(b0:Bool)(a0:Nat)(b1:Bool)(a1:Nat):Heap:=(sv h b0 a0 b1 a1).push {cls:=.type "tuple",data:=.seq #[.none,.none]}
abbrev lB (h:Heap)(b0:Bool)(a0:Nat)(b1:Bool)(a1:Nat):Heap:=(su h b0 a0 b1 a1).push {cls:=.type "zip",data:=.fields #[.none,.bool false,.bool false,.ref (sA h b0 a0 b1 a1).objs.size,.ref (sv h b0 a0 b1 a1).objs.size]}
theorem w6 (b0:Bool)(a0:Nat)(b1:Bool)(a1:Nat)(xs0 xs1:Array Mq) :
 Meets (Builtin.«zip.__new__» ⟨[.type "zip",.ref a0,.ref a1],[]⟩) (fun _ R s=>a7 b0 s.heap a0 xs0/\a7 b1 s.heap a1 xs1/\
  R (.ok (.ret (.ref (su s.heap b0 a0 b1 a1).objs.size))) {s with heap:=lB s.heap b0 a0 b1 a1}):=
 .of_wp fun prog w A R s h=>by
  obtain ⟨hp,g,d,tk,os⟩:=s;obtain ⟨q0,q1,h⟩:=h
  have hsub:=sub_zip
  have L0:a7 b0 (Shared.heap ⟨hp,g,d,tk,os⟩) a0 xs0:=q0
  have L1:a7 b1 (Shared.heap ⟨(oO hp b0 a0 b1 a1),g,d,tk,os⟩) a1 xs1:=(q1).push _
  wp_walk using ia L0,ia L1
  exact ⟨_,rfl,h⟩
theorem Ae {prog:MP}{w:Nd}{A:Nr}{E:Mq->Mx->Prop}{s:Mx}{a0 a1:Nat}{b0 b1:Bool}{xs0 xs1:Array Mq}{Q:Mq->Mx->Prop}(q0:a7 b0 s.heap a0 xs0)(q1:a7 b1 s.heap a1 xs1)
 (h:∀h',mR s.heap.objs.size b0 a0 b1 a1 0 h' .none->(∀c o,s.heap.get? c=some o->h'.get? c=some o)->Q (.ref (s.heap.objs.size+4)) {s with heap:=h'}) :
 wpAny #[8] A (call (.type "zip") [.ref a0,.ref a1]) Q E s:=by
 refine callType_new F.called_zip #[1] (F.typeCall_zip_2 _ _) (F.newCall_zip_2 _ _) (fun obj=>F.args_object_init_3 obj _ _) F.entry_zip_new (w6 b0 a0 b1 a1 xs0 xs1) ⟨q0,q1,?_⟩
 have z1:(oO s.heap b0 a0 b1 a1).objs.size=s.heap.objs.size+1:=by rw [NN]
 have z2:(sA s.heap b0 a0 b1 a1).objs.size=s.heap.objs.size+2:=by rw [NN,z1]
 have z3:(sv s.heap b0 a0 b1 a1).objs.size=s.heap.objs.size+3:=by rw [NN,z2]
 have z4:(su s.heap b0 a0 b1 a1).objs.size=s.heap.objs.size+4:=by rw [NN,z3]
 have z5:#[154].objs.size=s.heap.objs.size+5:=by rw [NN,z4]
 have g1:#[154].get? s.heap.objs.size=some _:=Mp _ (Mp _ #[208])
 have g2:#[154].get? (oO s.heap b0 a0 b1 a1).objs.size=some _:=Mp _ #[208]
 have g3:#[154].get? (sA s.heap b0 a0 b1 a1).objs.size=some _:=Mp _ (Mp _ (MG _ rfl))
 have g4:#[154].get? (sv s.heap b0 a0 b1 a1).objs.size=some _:=Mp _ (MG _ rfl)
 have g5:#[154].get? (su s.heap b0 a0 b1 a1).objs.size=some _:=MG _ rfl
 show _/\_
 rw [z1] at g2
 rw [z2] at g3
 rw [z3] at g4
 rw [z4] at g5
 rw [z1] at g3
 rw [z2,z3] at g5
 rw [z4]
 exact ⟨⟨_,g5,rfl⟩,h _ ⟨g5,g3,⟨_,_,g4⟩,bu.new g1,bu.new g2⟩ fun c o x=>Mp _ (Mp _ (Mp _ (Mp _ (Mp _ (x)))))⟩
def mW (d0 d1:D):Walk:=fun M=>(bZ M d0).bind fun y0=>(bZ M d1).map fun y1=>jl y0 y1
def nq (g0 g1:Env->Mem->Res D):Env->Mem->Res Walk:=fun Z M=>(g0 Z M).bind fun d0 M=>(g1 Z M).bind fun d1 M=>if dJ d0&&dJ d1 then .ok (mW d0 d1) M else .bad
theorem sQ:∀(y0 y1:List D) (i:Nat) (d:D),(jl y0 y1)[i]?=some d↔∃e0 e1,y0[i]?=some e0/\y1[i]?=some e1/\d=.tup [e0,e1]
 |c0::t0,c1::t1,0,d=>by simp [jl,eq_comm]
 | c0 :: t0, c1 :: t1, i + 1, d => by
   have:=sQ t0 t1 i d
   simpa [jl] using this
 |[],_,i,d=>by simp [jl]
 |_::_,[],i,d=>by simp [jl]
theorem sP:∀(y0 y1:List D) (i:Nat),(jl y0 y1).length<=i->y0.length<=i\/y1.length<=i
 |c0::t0,c1::t1,0,h=>by simp [jl] at h
 | c0 :: t0, c1 :: t1, i + 1, h => by
   have:=sP t0 t1 i (by simpa [jl] using h)
   simpa using this
 |[],_,i,h=>by simp
 |_::_,[],i,h=>by simp
theorem yd {fa:Fa}{X:Cx}{μ0:Mu}{H0:Hp}{d0 d1:D}{a0 a1:Nat}(r0:Rep fa X.K μ0 H0 d0 (.ref a0))(r1:Rep fa X.K μ0 H0 d1 (.ref a1)):eF fa X.K μ0 H0 (mW d0 d1) (IG X.K (eZ d0) a0 (eZ d1) a1):=fun μ H M ds x hM e=>by
 unfold mW at e
 cases s0:bZ M d0 with
 |none=>simp [s0] at e
 |some y0=>
 cases s1:bZ M d1 with
 |none=>simp [s0,s1] at e
 |some y1=>
 simp only [s0,s1,NZ,ON,Ni] at e
 subst e
 obtain ⟨v0,q0,l0⟩:=iG hM (Rep.extW x r0) s0
 obtain ⟨v1,q1,l1⟩:=iG hM (Rep.extW x r1) s1
 refine ⟨fun i d hd=>?_,fun i hi=>⟨v0,v1,q0,q1,?_⟩⟩
 ·obtain ⟨e0,e1,h0,h1,rfl⟩:=(sQ y0 y1 i d).mp hd
  obtain ⟨w0,hw0,rw0⟩:=l0.get h0
  obtain ⟨w1,hw1,rw1⟩:=l1.get h1
  refine ⟨⟨⟨v0,w0,q0,hw0⟩,⟨v1,w1,q1,hw1⟩⟩,fun y H' ⟨p,x0,x1,hp,ey,eH,t0,t1⟩=>?_⟩
  have z0:=t0 v0 q0
  rw [hw0] at z0;cases z0
  have z1:=t1 v1 q1
  rw [hw1] at z1;cases z1
  subst eH ey
  exact ⟨Ext.alloc hM hp,hM.alloc hp,p,[w0,w1],rfl,.inl (.inl bV),⟨w0,[w1],rfl,rw0.ext #[144],⟨w1,[],rfl,rw1.ext #[144],rfl⟩⟩⟩
 ·rcases sP y0 y1 i hi with z|z
  ·exact .inl (by rw [l0.length];exact z)
  ·exact .inr (by rw [l1.length];exact z)
theorem Fp {fa:Fa}{X:Cx}{elts:List Expr}{kk:Nat}{tp p pos:Pos}{e0 e1:Expr}{g0 g1:Env->Mem->Res D}(h0:DE fa X e0 g0)(h1:DE fa X e1 g1)(hg:Gl X "zip")(hm:X.mg "zip"=none)
 (hs0:starEach [e0,e1] X.env=[(false,eval e0 X.env),(false,eval e1 X.env)]) (hs1:starEach [e1] X.env=[(false,eval e1 X.env)]):DI fa X (.Tuple elts kk tp) (.Call (.Name "zip" p) [e0,e1] [] pos) (nq g0 g1):=by
 intro pins s σ H R I ⟨μ,Z,M,hE,hM,h⟩
 obtain ⟨d0,M0,c0,t0⟩:=aW h
 obtain ⟨d1,M1,c1,t1⟩:=aW t0
 split at t1
 ·next hsq=>
  simp only [Ms] at hsq
  obtain ⟨hq0,hq1⟩:=hsq
  refine Call_ (ie I hg hm boot_zip (NH (bc (b7 h0 (b7 h1 eA hs1) (by rw [hs0,hs1]) pos pins s σ H (fun vs H1=>∃v0 v1 μ1,vs=[v0,v1]/\Ext μ H μ1 H1/\RelM fa X.K μ1 H1 M1/\Rep fa X.K μ1 H1 d0 v0/\Rep fa X.K μ1 H1 d1 v1) I ?_) fun us s1 ⟨vs,H1,I1,r1,v0,v1,μ1,ev,x1,m1,rv0,rv1⟩=>?_) (by rw [hs0,hs1]) (by rw [hs1];rfl)))
  ·refine ⟨μ,Z,M,hE,hM,?_⟩
   rw [c0]
   intro v0 H1 μ1 x1 m1 r0
   refine ⟨μ1,Z,M0,#[217],m1,?_⟩
   rw [c1]
   intro v1 H2 μ2 x2 m2 r1
   exact ⟨v0,v1,μ2,rfl,(x1.trans x2),m2,(r0.ext x2),r1⟩
  subst ev
  obtain ⟨a0,its0,rfl,z0⟩:=jN I1 m1 rv0 hq0
  obtain ⟨a1,its1,rfl,z1⟩:=jN I1 m1 rv1 hq1
  cases r1 with
  | cons y0 r1 =>
    cases r1 with
    | cons y1 r1 =>
      cases r1
      obtain rfl:=y0
      obtain rfl:=y1
      refine Ae z0 z1 fun h1 za hk=>?_
      have I2:Inv X pins σ H1 {s1 with heap:=h1}:=I1.kept (t':=s1.toks) hk
      refine wpAny_pyIter_zip (s:={s1 with heap:=h1}) za.1 ?_
      refine ⟨s1.heap.objs.size+4,[s1.heap.objs.size+4,s1.heap.objs.size,s1.heap.objs.size+1,s1.heap.objs.size+2,s1.heap.objs.size+3],_,_,H1,rfl,I2,yr s1.heap.objs.size (eZ d0) a0 (eZ d1) a1 ⟨z0.lt,z1.lt⟩,za,fun b hb=>?_,t1 _ H1 μ1 x1 m1 (yd rv0 rv1)⟩
      have hb:s1.heap.objs.size<=b:=by
       simp only [Mz,MK,or_false] at hb
       rcases hb with z|z|z|z|z<;>(rw [z];first|exact My _|exact O1 _ _)
      exact I1.fpOk hb (I1.hok.fresh hb)
 ·exact t1.elim
def IF (K:Mr)(b0:Bool)(a0:Nat)(b1:Bool)(a1:Nat)(b2:Bool)(a2:Nat):It:=
 ⟨fun i H => (∃ xs x, iA K H b0 a0 xs /\ xs[i]? = some x) /\ (∃ xs x, iA K H b1 a1 xs /\ xs[i]? = some x) /\ (∃ xs x, iA K H b2 a2 xs /\ xs[i]? = some x),
  fun i H v H'=>∃p x0 x1 x2,H p=none/\v=.ref p/\H'=upd H p (.tup [x0,x1,x2])/\(∀xs,iA K H b0 a0 xs->xs[i]?=some x0)/\(∀xs,iA K H b1 a1 xs->xs[i]?=some x1)/\(∀xs,iA K H b2 a2 xs->xs[i]?=some x2),
  fun i H=>∃xs0 xs1 xs2,iA K H b0 a0 xs0/\iA K H b1 a1 xs1/\iA K H b2 a2 xs2/\(xs0.length<=i\/xs1.length<=i\/xs2.length<=i)⟩
def mQ (n:Nat)(b0:Bool)(a0:Nat)(b1:Bool)(a1:Nat)(b2:Bool)(a2:Nat)(i:Nat)(h:Heap)(f0:Mq):Prop:=Ob h (n+5) (n+3) (n+4) f0/\h.get? (n+3)=some {cls:=.type "tuple",data:=.seq #[.ref n,.ref (n+1),.ref (n+2)]}/\(∃u0 u1 u2,h.get? (n+4)=some {cls:=.type "tuple",data:=.seq #[u0,u1,u2]})/\bu b0 h n a0 i/\bu b1 h (n+1) a1 i/\bu b2 h (n+2) a2 i
theorem mQ.keep {n i:Nat}{a0 a1 a2:Nat}{b0 b1 b2:Bool}{h h':Heap}{f0:Mq}(x:mQ n b0 a0 b1 a1 b2 a2 i h f0)(k:∀b∈[(n+5),n,(n+1),(n+2),(n+3),(n+4)],∀o,h.get? b=some o->h'.get? b=some o):mQ n b0 a0 b1 a1 b2 a2 i h' f0:=by
 obtain ⟨h1,h2,⟨u0,u1,u2,h3⟩,j0,j1,j2⟩:=x
 exact ⟨k _ (by simp) _ h1,k _ (by simp) _ h2,⟨u0,u1,u2,k _ (by simp) _ h3⟩,j0.at fun o e=>k _ (by simp) o e,j1.at fun o e=>k _ (by simp) o e,j2.at fun o e=>k _ (by simp) o e⟩
theorem yq {P:MP}{w:Nd}{K:Mr}{elts:List Expr}{kk:Nat}{pos:Pos}(n:Nat)(b0:Bool)(a0:Nat)(b1:Bool)(a1:Nat)(b2:Bool)(a2:Nat)(hn:a0<n/\a1<n/\a2<n) :
 Turn P w K (.Tuple elts kk pos) (IF K b0 a0 b1 a1 b2 a2) [(n+5),n,(n+1),(n+2),(n+3),(n+4)] (n+5) (fun i h=>mQ n b0 a0 b1 a1 b2 a2 i h .none) where
 mem:=by simp
 obj:=fun i h ⟨h1,h2,⟨u0,u1,u2,h3⟩,j0,j1,j2⟩ b hb=>by
  simp only [Mz,MK,or_false] at hb
  rcases hb with z|z|z|z|z|z
  ·subst z;exact ⟨_,h1,fun v z=>by cases z⟩
  ·subst z;exact j0.obj
  ·subst z;exact j1.obj
  ·subst z;exact j2.obj
  ·subst z;exact ⟨_,h2,fun v z=>by cases z⟩
  ·subst z;exact ⟨_,h3,fun v z=>by cases z⟩
 keep:=fun i h h' st k=>st.keep k
 item:=by
  intro X hP hw hK hc i pins s σ H E I hf st hg
  subst hP hw hK
  obtain ⟨⟨xs0,x0,hq0,hx0⟩,⟨xs1,x1,hq1,hx1⟩,⟨xs2,x2,hq2,hx2⟩⟩:=hg
  obtain ⟨h1,h2,⟨u0,u1,u2,h3⟩,j0,j1,j2⟩:=st
  obtain ⟨its0,rv0,p0⟩:=fj I hq0
  obtain ⟨w0,hw0,rw0⟩:=rv0.get hx0
  obtain ⟨its1,rv1,p1⟩:=fj I hq1
  obtain ⟨w1,hw1,rw1⟩:=rv1.get hx1
  obtain ⟨its2,rv2,p2⟩:=fj I hq2
  obtain ⟨w2,hw2,rw2⟩:=rv2.get hx2
  have hT:s.TypeIs (.ref (n+5)) "zip":=⟨_,h1,rfl⟩
  unfold pyNext
  refine tqa (wpAny_attempt (wpAny_callSpecial?_slot (name:=Str.ofString "__next__") hT Oa
   (wpAny_call_entry Oa hT Pk
    (xX (E:=_) hn h1 h2 h3 j0 j1 j2 p0 p1 p2 (x0:=w0) (by simpa using hw0) (x1:=w1) (by simpa using hw1) (x2:=w2) (by simpa using hw2) fun h4 z1 z2 g0 g1 g2 hTT hsz hk=>tqb ⟨_,rfl,?_⟩) (O8 _))))
  have hT0:H s.heap.objs.size=none:=I.hok.fresh (My _)
  have zlt:(n+5)<s.heap.objs.size:=MJ h1
  refine wpAny_letOwnedTupleGo_zip (s:={s with heap:=h4}) z1 fun h5 hz5 hs5=>?_
  have hT5:h5.get? s.heap.objs.size=some {cls:=.type "tuple",data:=.seq #[w0,w1,w2]}:=(hs5.2 _ (NI zlt)).trans hTT
  refine ⟨.ref s.heap.objs.size,upd H s.heap.objs.size (.tup [x0,x1,x2]),mh (s:=s) (t':=s.toks) I hf (fun b o hb q=>(hs5.2 b (fun z=>hb (by rw [z];simp))).trans (hk b o (fun z=>hb (by simp only [Mz,MK,or_false] at z ⊢;rcases z with z|z|z|z|z<;>simp [z])) q)) (My _) ⟨?_,[w0,w1,w2],.cons rw0 (.cons rw1 (.cons rw2 (.nil))),⟨_,hT5,rfl,_,rfl⟩⟩,rfl,
   ⟨_,x0,x1,x2,hT0,rfl,rfl,fun ys hy=>by rw [jO I hy hq0];exact hx0,fun ys hy=>by rw [jO I hy hq1];exact hx1,fun ys hy=>by rw [jO I hy hq2];exact hx2⟩,⟨hz5,hs5.extBut _ _ (aI #[0]) (hk _ _ (by simp) h2),⟨w0,w1,w2,hs5.extBut _ _ (aI #[0]) z2⟩,g0.extBut hs5.extBut (aI #[0]),g1.extBut hs5.extBut (aI #[0]),g2.extBut hs5.extBut (aI #[0])⟩,fun b hb=>?_⟩
  ·show 3<=sizeLine;decide
  ·have:b<s.heap.objs.size:=by
    have zl:(n+5)<s.heap.objs.size:=zlt
    simp only [Mz,MK,or_false] at hb
    rcases hb with z|z|z|z|z|z<;>(rw [z];(first|exact zl|exact Nat.lt_trans #[0] zl))
   rw [aO (Nt this)];exact (hf b hb).1
 done:=by
  intro X hP hw hK hc i pins s σ H E I hf st hg
  subst hP hw hK
  obtain ⟨xs0,xs1,xs2,hq0,hq1,hq2,hend⟩:=hg
  obtain ⟨h1,h2,⟨u0,u1,u2,h3⟩,j0,j1,j2⟩:=st
  obtain ⟨its0,rv0,p0⟩:=fj I hq0
  have hl0:=rv0.length
  obtain ⟨its1,rv1,p1⟩:=fj I hq1
  have hl1:=rv1.length
  obtain ⟨its2,rv2,p2⟩:=fj I hq2
  have hl2:=rv2.length
  have hT:s.TypeIs (.ref (n+5)) "zip":=⟨_,h1,rfl⟩
  unfold pyNext
  refine tqa (wpAny_attempt (wpAny_callSpecial?_slot (name:=Str.ofString "__next__") hT Oa
   (wpAny_call_entry Oa hT Pk (An #[176] hn h1 h2 h3 j0 j1 j2 p0 p1 p2 (by
    rcases hend with z|z|z
    ·exact .inl #[7]
    ·exact (.inr∘.inl) #[7]
    ·exact (.inr∘.inr) #[7]
    ) fun h' e hk he=>?_) (O8 _))))
  obtain ⟨o,ho,hcl⟩:=he
  refine tqa #[188]
  exact tqb ⟨rfl,pX (s:=s) I hf (t':=s.toks) fun b o hb q=>hk b o (fun z=>hb (by simp only [Mz,MK,or_false] at z ⊢;rcases z with z|z|z|z|z<;>simp [z])) q⟩
 self:=fun _ _ _ _ _ st h=>wpAny_pyIter_zip st.1 h
abbrev oN (h:Heap)(b0:Bool)(a0:Nat)(b1:Bool)(a1:Nat)(b2:Bool)(a2:Nat):Heap:=h.push (lT b0 a0)
abbrev oM (h:Heap)(b0:Bool)(a0:Nat)(b1:Bool)(a1:Nat)(b2:Bool)(a2:Nat):Heap:=(oN h b0 a0 b1 a1 b2 a2).push (lT b1 a1)
abbrev sr (h:Heap)(b0:Bool)(a0:Nat)(b1:Bool)(a1:Nat)(b2:Bool)(a2:Nat):Heap:=(oM h b0 a0 b1 a1 b2 a2).push (lT b2 a2)
abbrev sq (h:Heap)(b0:Bool)(a0:Nat)(b1:Bool)(a1:Nat)(b2:Bool)(a2:Nat):Heap:=(sr h b0 a0 b1 a1 b2 a2).push {cls:=.type "tuple",data:=.seq #[.ref h.objs.size,.ref (oN h b0 a0 b1 a1 b2 a2).objs.size,.ref (oM h b0 a0 b1 a1 b2 a2).objs.size]}
abbrev so (h:Heap)(b0:Bool)(a0:Nat)(b1:Bool)(a1:Nat)(b2:Bool)(a2:Nat):Heap:=(sq h b0 a0 b1 a1 b2 a2).push {cls:=.type "tuple",data:=.seq #[.none,.none,.none]}
abbrev j8 (h:Heap)(b0:Bool)(a0:Nat)(b1:Bool)(a1:Nat)(b2:Bool)(a2:Nat):Heap:=(so h b0 a0 b1 a1 b2 a2).push {cls:=.type "zip",data:=.fields #[.none,.bool false,.bool false,.ref (sr h b0 a0 b1 a1 b2 a2).objs.size,.ref (sq h b0 a0 b1 a1 b2 a2).objs.size]}
theorem w5 (b0:Bool)(a0:Nat)(b1:Bool)(a1:Nat)(b2:Bool)(a2:Nat)(xs0 xs1 xs2:Array Mq) :
 Meets (Builtin.«zip.__new__» ⟨[.type "zip",.ref a0,.ref a1,.ref a2],[]⟩) (fun _ R s=>a7 b0 s.heap a0 xs0/\a7 b1 s.heap a1 xs1/\a7 b2 s.heap a2 xs2/\
  R (.ok (.ret (.ref #[350].objs.size))) {s with heap:=j8 s.heap b0 a0 b1 a1 b2 a2}):=
 .of_wp fun prog w A R s h=>by
  obtain ⟨hp,g,d,tk,os⟩:=s;obtain ⟨q0,q1,q2,h⟩:=h
  have hsub:=sub_zip
  have L0:a7 b0 (Shared.heap ⟨hp,g,d,tk,os⟩) a0 xs0:=q0
  have L1:a7 b1 (Shared.heap ⟨(oN hp b0 a0 b1 a1 b2 a2),g,d,tk,os⟩) a1 xs1:=(q1).push _
  have L2:a7 b2 (Shared.heap ⟨(oM hp b0 a0 b1 a1 b2 a2),g,d,tk,os⟩) a2 xs2:=((q2).push _).push _
  wp_walk using ia L0,ia L1,ia L2
  exact ⟨_,rfl,h⟩
theorem pV (a b c:Mq):checkTypeCall "zip" ⟨[a,b,c],[]⟩=pure ():=by kernel_rfl
theorem sg (a b c:Mq):checkBuiltinCall "zip.__new__" ⟨[.type "zip",a,b,c],[]⟩=pure ():=by kernel_rfl
theorem mO (a b c d:Mq):argsOk "object.__init__" ⟨[a,b,c,d],[]⟩:=by
 unfold argsOk;rw [signature?_of (id:="object.__init__") (n:=['_','_','t','i','n','i','_','_']) (o:=['t','c','e','j','b','o']) #[14] F.owner_object];kernel_rfl
theorem Ad {prog:MP}{w:Nd}{A:Nr}{E:Mq->Mx->Prop}{s:Mx}{a0 a1 a2:Nat}{b0 b1 b2:Bool}{xs0 xs1 xs2:Array Mq}{Q:Mq->Mx->Prop}(q0:a7 b0 s.heap a0 xs0)(q1:a7 b1 s.heap a1 xs1)(q2:a7 b2 s.heap a2 xs2)
 (h:∀h',mQ s.heap.objs.size b0 a0 b1 a1 b2 a2 0 h' .none->(∀c o,s.heap.get? c=some o->h'.get? c=some o)->Q (.ref (s.heap.objs.size+5)) {s with heap:=h'}) :
 wpAny #[8] A (call (.type "zip") [.ref a0,.ref a1,.ref a2]) Q E s:=by
 refine callType_new F.called_zip #[1] (pV _ _ _) (sg _ _ _) (fun obj=>mO obj _ _ _) F.entry_zip_new (w5 b0 a0 b1 a1 b2 a2 xs0 xs1 xs2) ⟨q0,q1,q2,?_⟩
 have z1:(oN s.heap b0 a0 b1 a1 b2 a2).objs.size=s.heap.objs.size+1:=by rw [NN]
 have z2:(oM s.heap b0 a0 b1 a1 b2 a2).objs.size=s.heap.objs.size+2:=by rw [NN,z1]
 have z3:(sr s.heap b0 a0 b1 a1 b2 a2).objs.size=s.heap.objs.size+3:=by rw [NN,z2]
 have z4:(sq s.heap b0 a0 b1 a1 b2 a2).objs.size=s.heap.objs.size+4:=by rw [NN,z3]
 have z5:#[350].objs.size=s.heap.objs.size+5:=by rw [NN,z4]
 have z6:#[76].objs.size=s.heap.objs.size+6:=by rw [NN,z5]
 have g1:#[76].get? s.heap.objs.size=some _:=Mp _ (Mp _ (Mp _ #[208]))
 have g2:#[76].get? (oN s.heap b0 a0 b1 a1 b2 a2).objs.size=some _:=Mp _ (Mp _ #[208])
 have g3:#[76].get? (oM s.heap b0 a0 b1 a1 b2 a2).objs.size=some _:=Mp _ #[208]
 have g4:#[76].get? (sr s.heap b0 a0 b1 a1 b2 a2).objs.size=some _:=Mp _ (Mp _ (MG _ rfl))
 have g5:#[76].get? (sq s.heap b0 a0 b1 a1 b2 a2).objs.size=some _:=Mp _ (MG _ rfl)
 have g6:#[76].get? #[350].objs.size=some _:=MG _ rfl
 show _/\_
 rw [z1] at g2
 rw [z2] at g3
 rw [z3] at g4
 rw [z4] at g5
 rw [z5] at g6
 rw [z1,z2] at g4
 rw [z3,z4] at g6
 rw [z5]
 exact ⟨⟨_,g6,rfl⟩,h _ ⟨g6,g4,⟨_,_,_,g5⟩,bu.new g1,bu.new g2,bu.new g3⟩ fun c o x=>Mp _ (Mp _ (Mp _ (Mp _ (Mp _ (Mp _ (x))))))⟩
def mV (d0 d1 d2:D):Walk:=fun M=>(bZ M d0).bind fun y0=>(bZ M d1).bind fun y1=>(bZ M d2).map fun y2=>gm y0 y1 y2
def pI (g0 g1 g2:Env->Mem->Res D):Env->Mem->Res Walk:=fun Z M=>(g0 Z M).bind fun d0 M=>(g1 Z M).bind fun d1 M=>(g2 Z M).bind fun d2 M=>if dJ d0&&dJ d1&&dJ d2 then .ok (mV d0 d1 d2) M else .bad
theorem qQ:∀(y0 y1 y2:List D) (i:Nat) (d:D),(gm y0 y1 y2)[i]?=some d↔∃e0 e1 e2,y0[i]?=some e0/\y1[i]?=some e1/\y2[i]?=some e2/\d=.tup [e0,e1,e2]
 |c0::t0,c1::t1,c2::t2,0,d=>by simp [gm,eq_comm]
 | c0 :: t0, c1 :: t1, c2 :: t2, i + 1, d => by
   have:=qQ t0 t1 t2 i d
   simpa [gm] using this
 |[],_,_,i,d=>by simp [gm]
 |_::_,[],_,i,d=>by simp [gm]
 |_::_,_::_,[],i,d=>by simp [gm]
theorem qP:∀(y0 y1 y2:List D) (i:Nat),(gm y0 y1 y2).length<=i->y0.length<=i\/y1.length<=i\/y2.length<=i
 |c0::t0,c1::t1,c2::t2,0,h=>by simp [gm] at h
 | c0 :: t0, c1 :: t1, c2 :: t2, i + 1, h => by
   have:=qP t0 t1 t2 i (by simpa [gm] using h)
   simpa using this
 |[],_,_,i,h=>by simp
 |_::_,[],_,i,h=>by simp
 |_::_,_::_,[],i,h=>by simp
theorem yc {fa:Fa}{X:Cx}{μ0:Mu}{H0:Hp}{d0 d1 d2:D}{a0 a1 a2:Nat}(r0:Rep fa X.K μ0 H0 d0 (.ref a0))(r1:Rep fa X.K μ0 H0 d1 (.ref a1))(r2:Rep fa X.K μ0 H0 d2 (.ref a2)):eF fa X.K μ0 H0 (mV d0 d1 d2) (IF X.K (eZ d0) a0 (eZ d1) a1 (eZ d2) a2):=fun μ H M ds x hM e=>by
 unfold mV at e
 cases s0:bZ M d0 with
 |none=>simp [s0] at e
 |some y0=>
 cases s1:bZ M d1 with
 |none=>simp [s0,s1] at e
 |some y1=>
 cases s2:bZ M d2 with
 |none=>simp [s0,s1,s2] at e
 |some y2=>
 simp only [s0,s1,s2,NZ,ON,Ni] at e
 subst e
 obtain ⟨v0,q0,l0⟩:=iG hM (Rep.extW x r0) s0
 obtain ⟨v1,q1,l1⟩:=iG hM (Rep.extW x r1) s1
 obtain ⟨v2,q2,l2⟩:=iG hM (Rep.extW x r2) s2
 refine ⟨fun i d hd=>?_,fun i hi=>⟨v0,v1,v2,q0,q1,q2,?_⟩⟩
 ·obtain ⟨e0,e1,e2,h0,h1,h2,rfl⟩:=(qQ y0 y1 y2 i d).mp hd
  obtain ⟨w0,hw0,rw0⟩:=l0.get h0
  obtain ⟨w1,hw1,rw1⟩:=l1.get h1
  obtain ⟨w2,hw2,rw2⟩:=l2.get h2
  refine ⟨⟨⟨v0,w0,q0,hw0⟩,⟨v1,w1,q1,hw1⟩,⟨v2,w2,q2,hw2⟩⟩,fun y H' ⟨p,x0,x1,x2,hp,ey,eH,t0,t1,t2⟩=>?_⟩
  have z0:=t0 v0 q0
  rw [hw0] at z0;cases z0
  have z1:=t1 v1 q1
  rw [hw1] at z1;cases z1
  have z2:=t2 v2 q2
  rw [hw2] at z2;cases z2
  subst eH ey
  exact ⟨Ext.alloc hM hp,hM.alloc hp,p,[w0,w1,w2],rfl,.inl (.inl bV),⟨w0,[w1,w2],rfl,rw0.ext #[144],⟨w1,[w2],rfl,rw1.ext #[144],⟨w2,[],rfl,rw2.ext #[144],rfl⟩⟩⟩⟩
 ·rcases qP y0 y1 y2 i hi with z|z|z
  ·exact .inl (by rw [l0.length];exact z)
  ·exact (.inr∘.inl) (by rw [l1.length];exact z)
  ·exact (.inr∘.inr) (by rw [l2.length];exact z)
theorem Fo {fa:Fa}{X:Cx}{elts:List Expr}{kk:Nat}{tp p pos:Pos}{e0 e1 e2:Expr}{g0 g1 g2:Env->Mem->Res D}(h0:DE fa X e0 g0)(h1:DE fa X e1 g1)(h2:DE fa X e2 g2)(hg:Gl X "zip")(hm:X.mg "zip"=none)
 (hs0:starEach [e0,e1,e2] X.env=[(false,eval e0 X.env),(false,eval e1 X.env),(false,eval e2 X.env)]) (hs1:starEach [e1,e2] X.env=[(false,eval e1 X.env),(false,eval e2 X.env)]) (hs2:starEach [e2] X.env=[(false,eval e2 X.env)]):DI fa X (.Tuple elts kk tp) (.Call (.Name "zip" p) [e0,e1,e2] [] pos) (pI g0 g1 g2):=by
 intro pins s σ H R I ⟨μ,Z,M,hE,hM,h⟩
 obtain ⟨d0,M0,c0,t0⟩:=aW h
 obtain ⟨d1,M1,c1,t1⟩:=aW t0
 obtain ⟨d2,M2,c2,t2⟩:=aW t1
 split at t2
 ·next hsq=>
  simp only [Ms,and_assoc] at hsq
  obtain ⟨hq0,hq1,hq2⟩:=hsq
  refine Call_ (ie I hg hm boot_zip (NH (bc (b7 h0 (b7 h1 (b7 h2 eA hs2) (by rw [hs1,hs2])) (by rw [hs0,hs1]) pos pins s σ H (fun vs H1=>∃v0 v1 v2 μ1,vs=[v0,v1,v2]/\Ext μ H μ1 H1/\RelM fa X.K μ1 H1 M2/\Rep fa X.K μ1 H1 d0 v0/\Rep fa X.K μ1 H1 d1 v1/\Rep fa X.K μ1 H1 d2 v2) I ?_) fun us s1 ⟨vs,H1,I1,r1,v0,v1,v2,μ1,ev,x1,m1,rv0,rv1,rv2⟩=>?_) (by rw [hs0,hs1]) (by rw [hs1];rfl)))
  ·refine ⟨μ,Z,M,hE,hM,?_⟩
   rw [c0]
   intro v0 H1 μ1 x1 m1 r0
   refine ⟨μ1,Z,M0,#[217],m1,?_⟩
   rw [c1]
   intro v1 H2 μ2 x2 m2 r1
   refine ⟨μ2,Z,M1,(#[217].ext x2),m2,?_⟩
   rw [c2]
   intro v2 H3 μ3 x3 m3 r2
   exact ⟨v0,v1,v2,μ3,rfl,#[206],m3,((r0.ext x2).ext x3),(r1.ext x3),r2⟩
  subst ev
  obtain ⟨a0,its0,rfl,z0⟩:=jN I1 m1 rv0 hq0
  obtain ⟨a1,its1,rfl,z1⟩:=jN I1 m1 rv1 hq1
  obtain ⟨a2,its2,rfl,z2⟩:=jN I1 m1 rv2 hq2
  cases r1 with
  | cons y0 r1 =>
    cases r1 with
    | cons y1 r1 =>
      cases r1 with
      | cons y2 r1 =>
        cases r1
        obtain rfl:=y0
        obtain rfl:=y1
        obtain rfl:=y2
        refine Ad z0 z1 z2 fun h1 za hk=>?_
        have I2:Inv X pins σ H1 {s1 with heap:=h1}:=I1.kept (t':=s1.toks) hk
        refine wpAny_pyIter_zip (s:={s1 with heap:=h1}) za.1 ?_
        refine ⟨s1.heap.objs.size+5,[s1.heap.objs.size+5,s1.heap.objs.size,s1.heap.objs.size+1,s1.heap.objs.size+2,s1.heap.objs.size+3,s1.heap.objs.size+4],_,_,H1,rfl,I2,yq s1.heap.objs.size (eZ d0) a0 (eZ d1) a1 (eZ d2) a2 ⟨z0.lt,z1.lt,z2.lt⟩,za,fun b hb=>?_,t2 _ H1 μ1 x1 m1 (yc rv0 rv1 rv2)⟩
        have hb:s1.heap.objs.size<=b:=by
         simp only [Mz,MK,or_false] at hb
         rcases hb with z|z|z|z|z|z<;>(rw [z];first|exact My _|exact O1 _ _)
        exact I1.fpOk hb (I1.hok.fresh hb)
 ·exact t2.elim
end LD
namespace LD
open PySem PySem.Spec PyProof.Rows L2
abbrev GE:=Env->Mem->Res D
abbrev GT:=Env->Mem->Res Bool
abbrev GA:=Env->Mem->Res (List D)
abbrev GW:=Env->Mem->Res Walk
abbrev GS:=Env->Mem->Res Fl
abbrev GB:=Env->List D->Mem->Res (List D)
abbrev Call:=Nat->List D->Mem->Res D
def ae (i:Nat):GE:=fun Z M=>cV M (Z[i]?.getD none)
def gC (d:D):GE:=fun _ M=>.ok d M
def au (m:Bool)(o:lA)(a b:GE):GE:=fun Z M=>(a Z M).bind fun x M=>(b Z M).bind fun y M=>eW m o x y M
def aL (o:j7)(a b:GE):GE:=fun Z M=>(a Z M).bind fun x M=>(b Z M).bind fun y M=>#[137].bind fun b M=>.ok (.bl b) M
def lX (o o':j7)(a b c:GE):GE:=fun Z M=>(a Z M).bind fun x M=>(b Z M).bind fun y M=>#[137].bind fun k M=>
 if k then (c Z M).bind fun z M=>(cV M (bx o' y z M)).bind fun b M=>.ok (.bl b) M else .ok #[99] M
def fz (a:GE):GE:=fun Z M=>(a Z M).bind fun x M=>match x with|.int i=>.ok (.int (-i)) M|_=>.bad
def dX (a b:GE):GE:=fun Z M=>(a Z M).bind fun x M=>match x with|.bl true=>b Z M|.bl false=>.ok #[99] M|_=>.bad
def KA (a b:GE):GE:=fun Z M=>(a Z M).bind fun x M=>match x with|.bl true=>.ok #[170] M|.bl false=>b Z M|_=>.bad
def HJ (a:GE):GE:=fun Z M=>(a Z M).bind fun x M=>match x with|.bl k=>.ok (.bl (!k)) M|_=>.bad
def fR (t:GT)(a b:GE):GE:=fun Z M=>(t Z M).bind fun k M=>if k then a Z M else b Z M
def aF (a b:GE):GE:=fun Z M=>(a Z M).bind fun x M=>(b Z M).bind fun y M=>cV M (cu x y M)
def cv (m hl hh:Bool)(a lo hi:GE):GE:=fun Z M=>(a Z M).bind fun x M=>(lo Z M).bind fun l M=>(hi Z M).bind fun h M=>if b9 hl l&&b9 hh h then eG m x l h M else .bad
def ah:GA:=fun _ M=>.ok [] M
def aa (a:GE)(s:GA):GA:=fun Z M=>(a Z M).bind fun x M=>(s Z M).bind fun xs M=>.ok (x::xs) M
def bL (s:GA):GE:=fun Z M=>(s Z M).bind lP
def aP (m:Bool)(s:GA):GE:=fun Z M=>(s Z M).bind (bG m)
def aq (f:Nat)(c:Call)(s:GA):GE:=fun Z M=>(s Z M).bind fun ds M=>c f ds M
def mE (i:Nat)(c:Call)(s:GA):GE:=fun Z M=>match Z[i]?.getD none with|some (.fn f)=>(s Z M).bind fun ds M=>c f ds M|_=>.bad
def a8 (f:u7)(s:GA):GE:=fun Z M=>(s Z M).bind fun ds M=>eV f ds M
def bQ (t:Ty)(a:GE):GE:=fun Z M=>(a Z M).bind fun x M=>(cV M (bN t x)).bind fun b M=>.ok (.bl b) M
def aw (a:GE):GT:=fun Z M=>(a Z M).bind fun x M=>cV M (kK M x)
def gO (a b:GT):GT:=fun Z M=>(a Z M).bind fun k M=>if k then b Z M else .ok false M
def eh (a b:GT):GT:=fun Z M=>(a Z M).bind fun k M=>if k then .ok true M else b Z M
def bE (a:GT):GT:=fun Z M=>(a Z M).bind fun k M=>.ok (!k) M
def aJ (t:dv)(a:GE):GS:=fun Z M=>(a Z M).bind fun x M=>(cV M (cX t x Z)).bind fun ρ1 M=>.ok (.next ρ1) M
def f6 (a b d:GE):GS:=fun Z M=>(d Z M).bind fun z M=>(a Z M).bind fun x M=>(b Z M).bind fun y M=>match x,y with
 | .cell k, .int n => match M[k]? with
   | some ds => match bB ds.length n with
     |some j=>.ok (.next Z) (M.set k (ds.set j z))
     |none=>.bad
   |none=>.bad
 |_,_=>.bad
def jm (a d:GE):GS:=fun Z M=>(a Z M).bind fun x M=>(d Z M).bind fun z M=>match x with
 | .cell k => match M[k]? with
   |some ds=>if ds.length<sz then .ok (.next Z) (M.set k (ds++[z])) else .bad
   |none=>.bad
 |_=>.bad
def sEx (a:GE):GS:=fun Z M=>(a Z M).bind fun _ M=>.ok (.next Z) M
def aK (a:GE):GS:=fun Z M=>(a Z M).bind fun x M=>.ok (.ret x) M
def CN:GS:=fun _ M=>.ok (.ret .non) M
def CO:GS:=fun Z M=>.ok (.next Z) M
def Lb:GS:=fun _ _=>.bad
def aR (c:GT)(a b:GS):GS:=fun Z M=>(c Z M).bind fun k M=>if k then a Z M else b Z M
def dC (t:dv)(w:GW)(b:GS):GS:=fun Z M=>(w Z M).bind fun w M=>dG (hJ t b) w (.next Z) M
def aj:GS:=fun Z M=>.ok (.next Z) M
noncomputable def ag (a b:GS):GS:=fun Z M=>(a Z M).bind fun fl M=>match fl with
 |.next Z=>b Z M
 |fl=>.ok fl M
def notStar:Expr->Bool
 |.Starred _ _=>false
 |_=>true
theorem bO {a:Expr}{es:List Expr}{env:Np}(h:notStar a=true):starEach (a::es) env=(false,eval a env)::starEach es env:=by
 cases a<;>first|rfl|cases h
theorem dQ {pos:Pos}{env:Np}:∀{es:List Expr},es.all notStar=true->(backTo pos (starEach es env)).any (·.1)=false
 |[],_=>rfl
 | a :: es, h => by
   simp only [NB,Ms] at h
   have ih:=dQ (pos:=pos) (env:=env) h.2
   rw [bO h.1]
   simpa [backTo] using ih
section
variable {fa:Fa}{X:Cx}{a b d:Expr}{ga gb gd:GE}{ta tb:GT}{pos p:Pos}{es:List Expr}{gs:GA}{n:Nat}
theorem Gn {x:Str}{i:Int}{t:Tok}(hg:Gl X x)(hm:X.mg x=some (.int i t))(hd:#[6]=false):DE fa X #[248] (gC (.int i)):=lg (v:=.int i) (jG hg hm ⟨t,rfl⟩ hd) fun _ _=>rfl
end
structure Df where
 params:Nat
 slots:Nat
 body:Call->GS
def LO:Fl->Mem->Res D
 |.ret d,M=>.ok d M
 |.next _,M=>.ok .non M
 |.exc x _,M=>.err x M
def LN:Res Fl->Res D
 |.ok fl M=>LO fl M
 |_=>.bad
def gP (c:Call)(d:Df)(ds:List D)(M:Mem):Res D:=if ds.length=d.params then LN (d.body c #[30] M) else .bad
def ak (P:Nat->Option Df):Nat->Call
 |0,_,_,_=>.bad
 | n + 1, f, ds, M => match P f with
   |none=>.bad
   |some d=>gP (ak P n) d ds M
structure xW (fa:Fa) (P:MP) (w:Nd) (K:Mr) (mg:Str->Option Mq) (base:Heap) (f:Nat) (d:Df):Prop where
 ex:∃(ad:Addr) (fd:OB) (ps N:List Str) (st:Stmt) (x qual:Str),fa f=some ad/\r8 K x qual st ad fd/\Binds K fd ps []/\g9 N ps (aX st)/\d.params=ps.length/\d.slots=N.length/\
  ∀(call:Call) (n:Nat) (cdv:Mq) (A:Nr) (outer:List Np) (s:Mx) (H:Hp) (E:XK),(∀f,jk fa P w K mg base n f (call f))->cx (n+4) #[315]->
   kJ fa #[277] (dw st) (d.body call)
theorem yB {fa:Fa}{K:Mr}{μ:Mu}{H:Hp}{N:List Str}{ds:List D}{vs:List V}(h:aT fa K μ H ds vs):bz fa K μ H (L2.start N vs) (ds.map some++List.replicate (N.length-ds.length) none):=by
 have hl:=h.length
 refine ⟨by unfold L2.start;simp [hl],fun i d e=>?_⟩
 by_cases hi:i<ds.length
 ·rw [Ng #[101],Nm] at e
  cases e1:ds[i]? with
  |none=>rw [e1] at e;cases e
  | some d' =>
    rw [e1] at e
    cases e
    obtain ⟨v,hv,rv⟩:=h.get e1
    refine ⟨v,?_,rv⟩
    unfold L2.start
    rw [Ng #[7],Nm,hv]
    rfl
 ·rw [NK #[7],Oe] at e
  split at e<;>cases e
theorem qx {P:MP}{w:Nd}{K:Mr}{mg:Str->Option Mq}{base:Heap}{x qual:Str}{st:Stmt}{f:Addr}{fd:OB}{N ps:List Str}{k:Nat}{sp:Sp}(F:r8 K x qual st f fd)(S:g9 N ps (aX st))(len:∀vs H Q E,sp vs H Q E->vs.length=ps.length)
 (hbody:∀(cdv:Mq) (A:Nr) (outer:List Np) (s:Mx) (H:Hp) (vs:List V) (Q:VK) (E:XK),cx k (A.deeper (envOfC qual (aX st) s.heap.objs.size f cdv))->sp vs H Q E->
  ∃t,mT (fB (gD P w) P w K mg base N qual (aX st) f cdv A outer s H E) (dw st) t/\t {nx:=fun _ H'=>Q .non H',rt:=Q} (start N vs) H):kO P w K mg base (gD P w) (k+1) f fd ps sp:=by
 obtain ⟨oc,od,kV,doc,pm,an,cdv,ct,osl,rfl,lk,hcd⟩:=F.ex
 exact JI lk hcd S len fun A outer s H vs Q E hr hsp=>hbody cdv A outer s H vs Q E hr hsp
theorem rP {fa:Fa}{P:MP}{w:Nd}{K:Mr}{mg:Str->Option Mq}{base:Heap}{N:List Str}{qual:Str}{scope:Scope}{f:Addr}{cd:Mq}{A:Nr}{outer:List Np}{s:Mx}{H:Hp}{E:XK}{Q:VK}{d:Df}{c:Call}{ds:List D}{vs:List V}{μ:Mu}{M:Mem}
 (hs:d.slots=N.length) (hM:RelM fa K μ H M) (hr:aT fa K μ H ds vs) (hq:jd (gP c d ds M) #[216] (xR fa K μ H E)):tF fa #[56] (d.body c) {nx:=fun _ H'=>Q .non H',rt:=Q} (start N vs) H:=by
 unfold gP at hq
 split at hq
 ·refine ⟨μ,_,M,yB hr,hM,?_⟩
  rw [<- hs]
  cases e1:d.body c #[30] M with
  | ok fl M1 =>
    rw [e1] at hq
    cases fl with
    | next ρ' =>
      have q1:bp fa K μ H Q .non M1:=hq
      exact fun σ' H' μ' x' e' m'=>q1 .non H' μ' x' m' rfl
    |ret d=>exact hq
    | exc x ρ' =>
      have q1:xR fa K μ H E x M1:=hq
      exact fun pins σ' H' μ' s' a C dx c p I y _ m ex hc hn fl=>BN I fl (q1 C dx c p H' μ' y m ex hc hn)
  |err=>rw [e1] at hq;exact hq.elim
  |bad=>rw [e1] at hq;exact hq.elim
 ·exact hq.elim
theorem uQ {fa:Fa}{P:MP}{w:Nd}{K:Mr}{mg:Str->Option Mq}{base:Heap}{Pg:Nat->Option Df}(h:∀f d,Pg f=some d->xW fa P w K mg base f d):∀(n f:Nat),jk fa P w K mg base n f (ak Pg n f)
 |0,f=>.inl fun _ _=>rfl
 | n + 1, f => by
   have ih:=uQ h n
   cases e:Pg f with
   |none=>exact .inl fun ds M=>by show (match Pg f with|none=>Res.bad|some d=>gP (ak Pg n) d ds M)=Res.bad;rw [e]
   | some d =>
     have eq:∀ds M,ak Pg (n+1) f ds M=gP (ak Pg n) d ds M:=fun ds M=>by show (match Pg f with|none=>Res.bad|some d=>gP (ak Pg n) d ds M)=_;rw [e]
     obtain ⟨ad,fd,ps,N,st,x,qual,h1,F,hb,S,hp,hs,hbody⟩:=(h f d e).ex
     refine .inr ⟨ad,fd,ps,h1,F.kp,hb,fun ds M hl=>?_,?_⟩
     ·rw [eq];unfold gP;rw [if_neg (by rw [hp];exact hl)]
     ·refine qx (k:=n+4) F S (fun vs H Q E hsp=>hsp.1) fun cdv A outer s H vs Q E hr hsp=>⟨_,hbody (ak Pg n) n cdv A outer s H E ih hr,?_⟩
      obtain ⟨hl,μ,M,ds,hM,hr,hq⟩:=hsp
      rw [eq] at hq
      exact rP hs hM hr hq
end LD
namespace LD
open PySem PySem.Spec PyProof.Rows L2
def oK (P:NV)(e:Ou)(kv:Str×Addr):Prop:=∃t,e=⟨PyData.keyHash P kv.1,.str kv.1 t,.ref kv.2⟩
structure gv (K:Mr) (P:NV) (a:Addr) (kvs:List #[196]):Prop where
 ex:∃(es:Array Ou) (n:Nat),K.lookup a=some {cls:=.type "dict",data:=.dict es n}/\OA (oK P) es.toList kvs
 nd:(kvs.map (·.1)).Nodup
 ns:(a==sysModules)=false
def vP (kvs:List #[196]):List (Key×Mq):=kvs.map fun kv=>(Sum.inr kv.1,.ref kv.2)
theorem uH {P:NV}:∀{es:List Ou}{kvs:List #[196]},OA (oK P) es kvs->∀e∈es,∃x t,e.key=.str x t/\e.hash=PyData.keyHash P x
 |_,_,.nil,e,h=>nomatch h
 | _, _, .cons r t, e, h => by
   rcases Mz.mp h with z|z
   ·subst z;obtain ⟨t,rfl⟩:=r;exact ⟨_,t,rfl,rfl⟩
   ·exact uH t e z
theorem pP {prog:MP}{w:Nd}:∀{es:List Ou}{kvs:List #[196]},OA (oK w.params) es kvs->Pairs (kW prog w) es (vP kvs)
 |_,_,.nil=>.nil
 | e :: es, kv :: kvs, .cons r t => by
   obtain ⟨u,rfl⟩:=r
   exact Pairs.cons (kv:=((Sum.inr kv.1:Key),Value.ref kv.2)) (ko kv.1 u) rfl (pP t)
theorem uk {X:Cx}{pins:List #[15]}{σ:L2.St}{H:Hp}{s:Mx}{a:Addr}{kvs:List #[196]}(I:Inv X pins σ H s)(h:gv X.K X.w.params a kvs):s.heap.DictOf (kW X.prog X.w) a (vP kvs):=by
 obtain ⟨es,n,lk,pr⟩:=h.ex
 refine ⟨_,es,n,I.kIn _ _ lk,⟨rfl,rfl,rfl⟩,rfl,fun e he=>?_,pP pr,?_⟩
 ·obtain ⟨x,t,e1,e2⟩:=uH pr e (by simpa using he)
  exact ⟨Sum.inr x,by rw [e1];exact ko x t,e2⟩
 ·have e:(vP kvs).map (·.1)=(kvs.map (·.1)).map Sum.inr:=by unfold vP;simp
  rw [e]
  exact List.Pairwise.map _ (fun a b (n:a≠b) z=>n (Sum.inr.inj z)) h.nd
theorem zz (kvs:List #[196])(k:Str):valueAt (vP kvs) (Sum.inr k:Key)=(kvs.lookup k).map Value.ref:=by
 induction kvs with
 |nil=>rfl
 | cons kv r ih =>
   unfold valueAt vP at ih ⊢
   rw [N4,List.find?_cons,Nn]
   by_cases e:kv.1=k
   ·subst e;simp
   ·have e2:decide ((Sum.inr kv.1:Key)=Sum.inr k)=false:=decide_eq_false fun z=>e (Sum.inr.inj z)
    have e3:(k==kv.1)=false:=ND.mpr (NM e)
    rw [e2,e3]
    exact ih
def fh (fa:Fa)(kvs:List #[196])(fs:List (Str×Nat)):Prop:=OA (fun (p:Str×Addr) (q:Str×Nat)=>p.1=q.1/\fa q.2=some p.2) kvs fs
theorem fh.look {fa:Fa}{k:Str}:∀{kvs:List #[196]}{fs:List (Str×Nat)},fh fa kvs fs->(fs.lookup k=none/\kvs.lookup k=none)\/∃f ad,fs.lookup k=some f/\kvs.lookup k=some ad/\fa f=some ad
 |_,_,.nil=>.inl ⟨rfl,rfl⟩
 | (x, a) :: r, (y, f) :: t, .cons ⟨e1, e2⟩ q => by
   have e1:x=y:=e1
   subst e1
   rw [Nn,Nn]
   cases e:k==x with
   |true=>exact .inr ⟨f,a,rfl,rfl,e2⟩
   |false=>exact fh.look q
def lW (fs:List (Str×Nat))(i:GE):GE:=fun Z M=>(i Z M).bind fun d M=>match d with
 |.str k=>cV M ((fs.lookup k).map D.fn)
 |_=>.bad
def jx (fs:List (Str×Nat))(i:GE):GE:=fun Z M=>(i Z M).bind fun d M=>match d with
 |.str k=>.ok #[351] M
 |_=>.bad
section
variable {fa:Fa}{X:Cx}{a b:Expr}{ga gb:GE}{pos p:Pos}{ad:Addr}{kvs:List #[196]}{fs:List (Str×Nat)}{x:Str}
theorem BV (hd:gv X.K X.w.params ad kvs):lu X (fun x y H Q=>∃k v,x=.ref ad/\y=.str k/\kvs.lookup k=some v/\Q (.ref v) H):=by
 intro value slice pins s σ H x y v u Q I rx ry h hs
 obtain ⟨k,c,rfl,rfl,hk,q⟩:=h
 cases rx
 obtain ⟨t,rfl⟩:=ry
 have dd:=uk I hd
 have hT:s.TypeIs (.ref ad) "dict":=let ⟨o,_,_,ho,⟨hc,_⟩,_⟩:=dd;⟨o,ho,hc⟩
 refine tail_any hT PySem.F.slot_dict_getitem.lookup (wpAny_getItem_of (k:=(Sum.inr k:Key)) (ko k t) dd.mapOf (v:=.ref c) ?_ ?_) hs
 ·rw [zz,hk];rfl
 ·exact ⟨.ref c,H,I.tok _,rfl,q⟩
theorem t9 (hd:gv X.K X.w.params ad kvs):bY X (compareOp .NotIn) #[225]:=by
 intro pins s σ H x y v u Q I rx ry h
 obtain ⟨k,rfl,rfl,q⟩:=h
 obtain ⟨t,rfl⟩:=rx
 cases ry
 have dd:=uk I hd
 refine wpAny_notIn_of (k:=(Sum.inr k:Key)) (ko k t) hd.ns dd.mapOf ?_
 rw [zz,Option.isSome_map]
 exact ⟨.bl _,H,I.tok _,rfl,q⟩
theorem Gq (hd:gv X.K X.w.params ad kvs)(ho:fh fa kvs fs)(hg:Gl X x)(hm:X.mg x=some (.ref ad))(hdb:#[6]=false)(hb:DE fa X b gb)(hs:lp b):DE fa X (.Subscript (.Name x p) b pos) (lW fs gb):=
 bK (CT (BV hd) #[316] hb hs) fun σ H Q ⟨μ,Z,M,hE,hM,h⟩=>t1 hE hM h fun d M1 v H1 μ1 x1 hE1 hM1 r1 h1=>by
  cases d with
  | str k =>
    obtain ⟨d,e,q⟩:=nh h1
    rcases ho.look (k:=k) with ⟨e1,_⟩|⟨f,c,e1,e2,e3⟩
    ·rw [e1] at e;cases e
    ·rw [e1] at e
     cases e
     exact ⟨k,c,rfl,r1,e2,q (.ref c) H1 μ1 x1 hM1 ⟨c,rfl,e3⟩⟩
  |_=>exact h1.elim
theorem BF {d:D}{M1:Mem}{P:D->Mem->Prop}(h:ai (match d with|.str k=>Res.ok #[351] M1|_=>.bad) P):∃k,d=.str k/\P #[351] M1:=by
 cases d with
 |str k=>exact ⟨k,rfl,h⟩
 |_=>exact h.elim
theorem Cc (ho:fh fa kvs fs)(k:Str):(kvs.lookup k).isSome=(fs.lookup k).isSome:=by
 rcases ho.look (k:=k) with ⟨e1,e2⟩|⟨f,c,e1,e2,_⟩<;>rw [e1,e2]<;>rfl
theorem zJ (ho:fh fa kvs fs)(σ:L2.St)(H:Hp)(Q:VK)(h:tE fa X.K (jx fs ga) σ H Q):yy #[225] (tE fa X.K ga) (tC (.ref ad)) σ H Q:=by
 obtain ⟨μ,Z,M,hE,hM,h⟩:=h
 refine t1 hE hM h fun d M1 v H1 μ1 x1 hE1 hM1 r1 h1=>?_
 obtain ⟨k,rfl,q⟩:=BF h1
 refine ⟨k,r1,rfl,?_⟩
 rw [Cc ho]
 exact q (.bl _) H1 μ1 x1 hM1 rfl
theorem Gp (hd:gv X.K X.w.params ad kvs)(ho:fh fa kvs fs)(hg:Gl X x)(hm:X.mg x=some (.ref ad))(hdb:#[6]=false)(ha:DE fa X a ga)(hmk:behindInMarks .NotIn (.Name x p)=false):DE fa X #[130] (jx fs ga):=
 bK (vG (t9 hd) ha #[316] hmk) fun σ H Q h=>zJ ho σ H Q h
theorem GD (hd:gv X.K X.w.params ad kvs)(ho:fh fa kvs fs)(hg:Gl X x)(hm:X.mg x=some (.ref ad))(hdb:#[6]=false)(ha:DE fa X a ga)(hmk:behindInMarks .NotIn (.Name x p)=false):DT fa X #[130] (aw (jx fs ga)):=
 kT (qh (t9 hd) ha #[316] hmk) fun σ H Q h=>by
  refine zJ ho σ H _ ?_
  obtain ⟨μ,Z,M,hE,hM,h⟩:=h
  obtain ⟨z,M3,e,q⟩:=aW h
  refine ⟨μ,Z,M,hE,hM,?_⟩
  rw [e]
  have hz:∃k,z=.bl k:=by
   obtain ⟨d,M1,e1,e2⟩:=fD e
   cases d<;>first|(cases e2;exact ⟨_,rfl⟩)|cases e2
  obtain ⟨k,rfl⟩:=hz
  intro v H' μ' x' m' r'
  obtain rfl:v=.bl k:=r'
  exact ⟨k,rfl,q H' μ' x' m'⟩
def mD (m:Bool)(a:GE):GE:=fun Z M=>(a Z M).bind fun x M=>match x with
 |.int n=>if -(2^62)<=n/\n<2^20 then bG m #[22] M else .bad
 |_=>.bad
theorem xu:∀(n:Nat) (its:List Mq),its.length=n->(∀(i:Nat) (v:Mq),its[i]?=some v->∃t,v=.int (i:Int) t)->Vals ((List.range n).map fun (k:Nat)=>V.int (k:Int)) its:=by
 intro n its hl h
 have key:∀(k:Nat) (its:List Mq),(∀(i:Nat) (v:Mq),its[i]?=some v->∃t,v=.int ((k+i:Nat):Int) t)->Vals ((List.range its.length).map fun (j:Nat)=>V.int ((k+j:Nat):Int)) its:=by
  intro k its
  induction its generalizing k with
  |nil=>intro _;exact .nil
  | cons v r ih =>
    intro h
    rw [O4,List.range_succ_eq_map,N4,List.map_map]
    refine .cons (h 0 v rfl) ?_
    have:=ih (k+1) fun i u e=>by
     have:=h (i+1) u #[327]
     rw [show k+1+i=k+(i+1) by omega];exact this
    refine cast (congrArg (fun f=>Vals ((List.range r.length).map f) r) ?_) this
    funext j
    show V.int _=V.int _
    congr 2
    omega
 have:=key 0 its fun i v e=>by rw [Ow];exact h i v e
 rw [hl] at this
 simpa using this
theorem Em (m:Bool){p1 p2 pos2:Pos}(hc:X.calm=true)(ha:DE fa X a ga)(hgl:Gl X "list")(hml:X.mg "list"=none)(hg:Gl X "range")(hm:X.mg "range"=none)(hs:starEach [a] X.env=[#[42]])
 (hs2:starEach [.Call (.Name "range" p2) [a] [] pos2] X.env=[(false,eval (.Call (.Name "range" p2) [a] [] pos2) X.env)]) :
 DE fa X #[239] (mD m ga):=by
 intro pins s σ H Q I ⟨μ,Z,M,hE,hM,h⟩
 obtain ⟨x,M1,e,q⟩:=aW h
 have key:∀n,x=.int n->ai (if -(2^62)<=n/\n<2^20 then bG m #[22] M1 else .bad) #[18]->
  wpAny #[2] X.A (eval #[239] X.env) #[27] X.xe s:=fun n en q'=>by
  subst en
  by_cases c:-(2^62)<=n/\n<2^20
  ·rw [if_pos c] at q'
   refine Call_ (ie I hgl hml (by decide +kernel:bootBuiltins "list"=some (.type "list")) (NH ?_ hs2 rfl))
   rw [hs2]
   refine OZ ?_
   refine Call_ (ie I hg hm boot_range (NH (bc (b7 ha eA hs pos2 pins s σ H (fun vs H1=>∃μ1,vs=[.int n]/\Ext μ H μ1 H1/\RelM fa X.K μ1 H1 M1) I ⟨μ,Z,M,hE,hM,?_⟩) fun us s1 ⟨vs,H1,I1,r1,μ1,ev,x1,m1⟩=>?_) hs rfl))
   ·rw [e]
    intro v H1 μ1 x1 m1 r1
    obtain rfl:v=.int n:=r1
    exact ⟨μ1,rfl,x1,m1⟩
   subst ev
   cases r1 with
   | cons r rr =>
     cases rr
     obtain ⟨t,rfl⟩:=r
     refine call_range_1 ?_
     refine Calls.spliced_nil ?_
     refine call_list_range (n:=n.toNat) #[176] (IsRange.new ..) (small_one #[0] #[0] #[0] #[0]) (by rw [rangeSize_one];split<;>omega) #[0] fun h' tk acc' c' kp eS its=>?_
     obtain ⟨hsz,hit⟩:=its
     have I2:Inv X pins σ H1 {s1 with heap:=s1.heap.push {cls:=.type "range",data:=.fields #[.int 0 s1.toks,.int n t,.int 1 (s1.toks+1)]},toks:=s1.toks+1+1}:=I1.kept fun b o e=>Mp _ e
     have hv:Vals #[127] acc'.toList:=xu n.toNat acc'.toList (by simpa using hsz) fun i v e=>by
      obtain ⟨u,z⟩:=hit i v #[327]
      exact ⟨u,by rw [z];simp⟩
     have rl:aT fa X.K μ1 H1 #[22] #[127]:=by
      have:=aT.ints (fa:=fa) (K:=X.K) (μ:=μ1) (H:=H1) ((List.range n.toNat).map fun (k:Nat)=>(k:Int))
      simpa [List.map_map,OI] using this
     obtain ⟨c1,k1⟩:=gM m1 rl (ki q' x1)
     refine ⟨.ref _,_,I2.laid (t':=tk) (o:=.lst #[127]) kp (My _) ⟨?_,acc'.toList,c',hv,by simpa using eS⟩,rfl,k1 _ (I2.hok.fresh (My _))⟩
     rw [rl.length,<- dH];exact c1
  ·rw [if_neg c] at q';exact q'.elim
 cases x with
 |int n=>exact key n rfl q
 |_=>exact q.elim
end
end LD
namespace LD
open PySem PySem.Spec PyProof.Rows L2
def qF (bn N:List Str)(sc scope:Scope):Bool:=
 scope.names.all (fun y=>y.2 != .cell&&(y.2 != .local||scope.names.lookup y.1==some .local)&&(y.2 != .free||sc.names.lookup y.1==some .cell||sc.names.lookup y.1==some .free)) &&
 bn.length==N.length&&(bn.zip N).all fun p=>(p.1==p.2&&scope.names.lookup p.2 != some .local)||scope.names.lookup p.1==none
theorem pf {α β:Type}{R:α->β->Prop}:∀{l:List α}{r:List β},l.length=r.length->(∀p∈l.zip r,R p.1 p.2)->OA R l r
 |[],[],_,_=>.nil
 |a::l,b::r,h,g=>.cons (g (a,b) MM) (pf (by simpa using h) fun p hp=>g p (ME _ hp))
 |[],_::_,h,_=>by cases h
 |_::_,[],h,_=>by cases h
theorem Aa {X:Cx}{own bn N:List Str}{sc scope:Scope}(hk:scope.kind=.function)(hs:X.env.scope=sc)(hN:X.N=N)(h:qF bn N sc scope=true):jj X own bn scope:=by
 unfold qF at h
 rw [Ms,Ms,MC,MC] at h
 obtain ⟨⟨h1,hl⟩,h2⟩:=h
 refine ⟨hk,fun y hy=>?_,fun y hy e=>?_,fun y hy e=>?_,?_⟩
 ·have:=h1 y hy
  simp only [Ms] at this
  simpa using this.1.1
 ·have:=h1 y hy
  simp only [Ms] at this
  have:=this.1.2
  rw [e] at this
  simpa using this
 ·have:=h1 y hy
  simp only [Ms] at this
  have:=this.2
  rw [e] at this
  show X.env.scope.names.lookup y.1=_\/X.env.scope.names.lookup y.1=_
  rw [hs]
  simpa using this
 ·rw [hN]
  refine pf (by simpa using hl) fun p hp=>?_
  have:=h2 p hp
  simp only [Oj,Ms,beq_iff_eq,bne_iff_ne] at this
  exact this
section
variable {fa:Fa}{X:Cx}{elt tg iter c t2 i2:Expr}{scope:Scope}{pos:Pos}{own bn:List Str}{t u:dv}{gw gw2:GW}{ge:GE}{gc:GT}
theorem nZ {n:Nat}{l:List Nat}(h:l.all (· < n)=true):∀i∈l,i<n:=fun i hi=>by
 have:=MC.mp h i hi
 simpa using this
theorem yL {l W:List Nat}(h:W.all (fun i=>!l.contains i)=true):∀i∈W,i∉l:=fun i hi z=>by
 have:=MC.mp h i hi
 simp [z] at this
variable {i:Nat}{y:Str}{py spos:Pos}
theorem Er {x:Str}{i:Int}(hg:Gl X x)(hm:∃t,X.mg x=some (.int i t))(hd:#[6]=false):DE fa X #[248] (gC (.int i)):=let ⟨_,h⟩:=hm;Gn hg h hd
theorem Et {x:Str}{b:Expr}{gb:GE}{p:Pos}{fs:List (Str×Nat)}(h:∃ad kvs,X.mg x=some (.ref ad)/\gv X.K X.w.params ad kvs/\fh fa kvs fs)(hg:Gl X x)(hdb:#[6]=false)(hb:DE fa X b gb)(hs:lp b):DE fa X (.Subscript (.Name x p) b pos) (lW fs gb):=
 let ⟨_,_,h1,h2,h3⟩:=h;Gq h2 h3 hg h1 hdb hb hs
theorem Es {x:Str}{a:Expr}{ga:GE}{p:Pos}{fs:List (Str×Nat)}(h:∃ad kvs,X.mg x=some (.ref ad)/\gv X.K X.w.params ad kvs/\fh fa kvs fs)(hg:Gl X x)(hdb:#[6]=false)(ha:DE fa X a ga)(hmk:behindInMarks .NotIn (.Name x p)=false):DE fa X #[130] (jx fs ga):=
 let ⟨_,_,h1,h2,h3⟩:=h;Gp h2 h3 hg h1 hdb ha hmk
theorem Ey {x:Str}{a:Expr}{ga:GE}{p:Pos}{fs:List (Str×Nat)}(h:∃ad kvs,X.mg x=some (.ref ad)/\gv X.K X.w.params ad kvs/\fh fa kvs fs)(hg:Gl X x)(hdb:#[6]=false)(ha:DE fa X a ga)(hmk:behindInMarks .NotIn (.Name x p)=false):DT fa X #[130] (aw (jx fs ga)):=
 let ⟨_,_,h1,h2,h3⟩:=h;GD h2 h3 hg h1 hdb ha hmk
theorem Ej {X:Cx}{n:Nat}(h:cx (n+4) X.A):Rm X:=by have:=h.un;show X.A.units+100<cLine;omega
end
end LD
namespace LD
open PySem PySem.Spec PyProof.Rows L2
theorem jy {α β:Type}{f g:α->Option β}:∀{l:List α},(∀x∈l,f x=g x)->l.filterMap f=l.filterMap g
 |[],_=>rfl
 | a :: l, h => by
   rw [Oy,Oy,h a MM,jy (l:=l) fun x hx=>h x (ME _ hx)]
theorem rh (n:Nat)(xs:List Mq)(h:xs.length=n):(List.range n).filterMap (fun (k:Nat)=>xs[n-1-k]?)=xs.reverse:=by
 have e:∀k∈List.range n,xs[n-1-k]?=some (xs.reverse.getD k .none):=fun k hk=>by
  have hk:=Od.mp hk
  rw [NL,List.getElem?_reverse #[0],h,NA #[0]]
  simp
 have:(List.range n).filterMap (fun (k:Nat)=>xs[n-1-k]?)=(List.range n).map fun k=>xs.reverse.getD k .none:=by
  rw [jy (g:=fun k=>some (xs.reverse.getD k .none)) e]
  simp
 rw [this]
 refine List.ext_getElem? fun i=>?_
 rw [Nm]
 by_cases hi:i<n
 ·rw [OO hi]
  show some (xs.reverse.getD i .none)=_
  rw [NL,NA (show i<xs.reverse.length by simp;omega)]
  simp
 ·rw [NY #[7],NY #[7]]
  rfl
theorem sd (its:List Mq):slicePick its.toArray none none (some (-1))=its.reverse.toArray:=by
 unfold slicePick sliceBounds sliceRange
 simp only [Nk,MB]
 have e1:¬ ((-1:Int) > 0):=by decide
 simp only [e1,if_false]
 have e2:(if (its.length:Int)-1 > -1 then ((its.length:Int)-1 - -1 - -1-1) / (- -1) else 0).toNat=its.length:=by
  split
  ·simp
  ·omega
 rw [e2,List.filterMap_map,<- rh its.length its rfl]
 congr 1
 refine jy fun k hk=>?_
 have hk:=Od.mp hk
 have e3:((its.length:Int)-1+-1*(k:Int)).toNat=its.length-1-k:=by omega
 show its.toArray[((its.length:Int)-1+-1*(k:Int)).toNat]?=_
 rw [e3]
 simp
section
variable {prog:MP}{w:Nd}{A:Nr}{E:Mq->Mx->Prop}{s:Mx}
theorem ju {t sl:Addr}{items:Array Mq}{k:Tok}{Q:Mq->Mx->Prop}(ht:IsTup s.heap t items)(hs:s.heap.IsSliceOf sl .none .none (.int (-1) k))
 (h:Q #[49] {s with heap:=s.heap.push {cls:=.type "tuple",data:=.seq items.toList.reverse.toArray}})
 (hsz:items.size<=sizeLine):wpAny #[8] A (getItem (.ref t) (.ref sl)) Q E s:=by
 have htake:sizeOk (.seq items.toList.reverse.toArray):=by
  show items.toList.reverse.toArray.size<=sizeLine
  simpa using hsz
 obtain ⟨os,hos,hcs,hds⟩:=id hs
 have hTs:s.TypeIs (.ref sl) "slice":=⟨os,hos,hcs⟩
 unfold getItem
 try with_reducible refine tqo ?_
 first|refine tqa (tqb ?_)|skip
 refine tqa #[129]
 refine tqa (wpAny_callSpecial?_slot (name:=Str.ofString "__getitem__") ht.typeIs Na
  #[40])
 show wpAny _ _ #[197] _ _ s
 refine tqa (tupleItemsOf_ ht ?_)
 refine tqa (wpAny_typeOf hTs ?_)
 rw [if_pos #[1]]
 unfold Builtin.Slice.sliceApplied Builtin.Slice.sliceFields
 refine tqa (tqa (tqa (tqf hos hds (x:=.none) rfl (tqa (tqf hos hds (x:=.none) rfl (tqa (tqf hos hds (x:=.int (-1) k) rfl (tqb ?_))))))))
 refine tqa (slicePart_int ?_)
 show wpAny _ _ (if ((-1:Int)==0)=true then _ else _) _ _ s
 rw [if_neg #[1]]
 refine tqa #[337]
 have ea:Builtin.Slice.sliceAdjust none none (-1) (items.size:Int)=((items.size:Int)-1,-1):=by simp [Builtin.Slice.sliceAdjust]
 have ep:Builtin.Slice.slicePlaces #[285] (-1) (-1)=items.size:=by
  unfold Builtin.Slice.slicePlaces
  rw [if_neg #[1]]
  split
  ·simp
  ·omega
 show wpAny _ _ (match Builtin.Slice.sliceAdjust none none (-1) (items.size:Int) with|(lo,hi)=>pure (lo,(-1:Int),Builtin.Slice.slicePlaces lo hi (-1))) _ _ s
 rw [ea]
 show wpAny _ _ (pure ((items.size:Int)-1,(-1:Int),Builtin.Slice.slicePlaces #[285] (-1) (-1))) _ _ s
 rw [ep]
 refine tqb ?_
 have hno:¬ ((#[285]==0&&(-1:Int)==1&&items.size==items.size)=true):=by simp
 show wpAny _ _ (if (#[285]==0&&(-1:Int)==1&&items.size==items.size)=true then _ else _) _ _ s
 rw [if_neg hno]
 have pick:((List.range items.size).filterMap fun (m:Nat)=>items[(#[285]+(m:Int) * -1).toNat]?).toArray=items.toList.reverse.toArray:=by
  rw [<- rh items.size items.toList (by simp)]
  congr 1
  refine jy fun m hm=>?_
  have hm:=Od.mp hm
  have e3:((items.size:Int)-1+(m:Int) * -1).toNat=items.size-1-m:=by omega
  rw [e3]
  simp
 rw [pick]
 first
  |exact tqa (m:=Builtin.Tuple.tupleExact _) #[195]
  |exact tqa (m:=Builtin.Tuple.tupleExact _) (wpAny_newObj_type (tqa (tqb #[78])) htake)
  |exact tqa #[223]
  |exact tqa (tqa (m:=Builtin.Tuple.tupleExact _) #[195])
end
section
variable {fa:Fa}{X:Cx}{a st:Expr}{ga:GE}{pos p2:Pos}
def wL (m:Bool)(x:D)(M:Mem):Res D:=match x with
 |.tup xs=>.ok #[292] M
 | x => match fS M x with
   |some xs=>bG m xs.reverse M
   |none=>.bad
def ow (m:Bool)(a:GE):GE:=fun Z M=>(a Z M).bind fun x M=>wL m x M
def Gv (K:Mr):V->Hp->VK->Prop:=fun x H Q=>∃a xs,x=.ref a/\((c9 K H a xs/\∀p,H p=none->Q (.ref p) (upd H p (.lst xs.reverse)))\/(dO K H a xs/\∀p,H p=none->Q (.ref p) (upd H p #[292])))
theorem lE:∀{xs:List V}{us:List Mq},Vals xs us->Vals xs.reverse us.reverse
 |_,_,.nil=>.nil
 | _, _, .cons p r => by
   rw [OT,OT]
   exact (lE r).append (.cons p .nil)
theorem GV {ta:TE}(ha:PE X a ta){ts:TE}(hst:PE X st ts) :
 PE X (.Subscript a #[110] pos) (fun σ H Q=>ta σ H fun x H1=>ts σ H1 fun y H2=>y=.int (-1)/\Gv X.K x H2 Q):=by
 intro pins s σ H Q I h
 refine Subscript_ #[63]
 refine wpAny_Slice ?_
 rw [evalPart_none]
 refine tqb ?_
 refine tqb ?_
 rw [evalPart_some]
 refine bc (hst pins s1 σ H1 _ I1 q1) fun vu s3 ⟨y,H3,I3,r3,ey,q3⟩=>?_
 subst ey
 obtain ⟨k,rfl⟩:=r3
 have I4:Inv X pins σ H3 {s3 with heap:=s3.heap.push {cls:=.type "slice",data:=.fields #[.none,.none,.int (-1) k]}}:=I3.kept (t':=s3.toks) fun b ob q=>Mp _ q
 have hsl:(s3.heap.push {cls:=.type "slice",data:=.fields #[.none,.none,.int (-1) k]}).IsSliceOf s3.heap.objs.size .none .none (.int (-1) k):=Heap.IsSliceOf.new ..
 obtain ⟨b,xs,rfl,q⟩:=q3
 cases r1
 have key:∃T id,typeLookup (.type T) "__getitem__"=pure (some #[283])/\Shared.TypeIs {s3 with heap:=s3.heap.push {cls:=.type "slice",data:=.fields #[.none,.none,.int (-1) k]}} (.ref b) T/\wpAny #[2] X.A (getItem (.ref b) #[204]) #[27] X.xe {s3 with heap:=s3.heap.push {cls:=.type "slice",data:=.fields #[.none,.none,.int (-1) k]}}:=by
  rcases q with ⟨hx,q⟩|⟨hx,q⟩
  ·obtain ⟨its,r,ht,hz⟩:=I4.list hx
   have hlen:=r.length
   refine ⟨"list",_,slot_list_getitem.lookup,ht.isList.typeIs,?_⟩
   refine wpAny_getItem_list_slice ht.isList hsl .none .none (.int (-1) k) #[1] ?_ (by rw [MB]<;>omega)
   rw [sd]
   refine ⟨.ref _,_,I4.laid (t':=s3.toks) (o:=.lst xs.reverse) #[158] (My _) ?_,rfl,q _ (I4.hok.fresh (My _))⟩
   exact ⟨by simpa using hz,_,0,lE r,MG _ rfl⟩
  ·obtain ⟨its,r,ht,hz⟩:=I4.tuple hx
   have hlen:=r.length
   refine ⟨"tuple",_,Na.lookup,ht.typeIs,?_⟩
   refine ju ht hsl ?_ (by rw [MB,<- hlen];exact hz)
   refine ⟨.ref _,_,I4.laid (t':=s3.toks) (o:=.tup xs.reverse) #[158] (My _) ?_,rfl,q _ (I4.hok.fresh (My _))⟩
   exact ⟨by simpa using hz,_,lE r,IsTup.new _ _⟩
 obtain ⟨T,id,hT,ht,hg⟩:=key
 show wpAny #[2] X.A (subscriptTail a #[110] (.ref b) #[204]) #[27] X.xe {s3 with heap:=s3.heap.push {cls:=.type "slice",data:=.fields #[.none,.none,.int (-1) k]}}
 exact tail_any (ops:=[.ref b,.ref s3.heap.objs.size]) ht hT hg (by with_unfolding_all rfl)
theorem Jg (m:Bool){pc pu:Pos}{k:Nat}(ha:DE fa X a ga):DE fa X (.Subscript a (.Slice none none (some (.UnaryOp .USub (.Constant (.int 1) k pc) pu)) p2) pos) (ow m ga):=
 bK (GV ha (CS yi zc)) fun σ H Q ⟨μ,Z,M,hE,hM,h⟩=>t1 hE hM h fun x M1 v H1 μ1 x1 hE1 hM1 r1 h1=>by
  refine ⟨1,rfl,rfl,?_⟩
  have lst:∀(ds:List D) (b:Addr) (vs:List V),c9 X.K H1 b vs->aT fa X.K μ1 H1 ds vs->ai (bG m ds.reverse M1) #[18]->Gv X.K (.ref b) H1 Q:=fun ds b vs hs hr h1=>by
   obtain ⟨_,q⟩:=gM hM1 hr.reverse (ki h1 x1)
   exact ⟨b,vs,rfl,.inl ⟨hs,q⟩⟩
  cases x with
  | tup ds =>
    obtain ⟨b,vs,rfl,hs,hr⟩:=r1
    exact ⟨b,vs,rfl,.inr ⟨hs,gL hM1 hr.reverse #[243]⟩⟩
  | lst ds =>
    obtain ⟨b,vs,rfl,hs,hr⟩:=r1
    exact lst ds b vs (c9.of hs.1) hr h1
  | frz ds =>
    obtain ⟨b,vs,rfl,hs,hr⟩:=r1
    exact lst ds b vs (hs.elim (fun ⟨o,z⟩=>.inl (.inr ⟨o,z⟩)) .inr) hr h1
  | cell k =>
    obtain ⟨b,rfl,hk⟩:=r1
    obtain ⟨ds,vs,e,hH,hr⟩:=hM1.mu_lt hk
    have h1:ai (match M1[k]? with|some xs=>bG m xs.reverse M1|none=>.bad) #[18]:=h1
    rw [e] at h1
    exact lst ds b vs (c9.of hH) hr h1
  |_=>exact h1.elim
end
end LD
namespace LD
open PySem PySem.Spec PyProof.Rows L2
theorem mm {fa:Fa}{mg:Str->Option Mq}{i:Nat}{x:Str}{f:Addr}(e:fa i=some f)(m:mg x=some (.ref f)):∀ad,fa i=some ad->mg x=some (.ref ad):=fun ad h=>by rw [e] at h;cases h;exact m
theorem us1 {α:Type}{p:List α->Prop}(h:∀a,p [a])(us:List α)(hl:us.length=1):p us:=by
 obtain ⟨a,rfl⟩:=List.length_eq_one_iff.mp hl;exact h a
theorem Kf {α:Type}{p:List α->Prop}(h:∀a b,p [a,b]):∀(us:List α) (hl:us.length=2),p us
 |[a,b],_=>h a b
theorem us3 {α:Type}{p:List α->Prop}(h:∀a b c,p [a,b,c]):∀(us:List α) (hl:us.length=3),p us
 |[a,b,c],_=>h a b c
theorem us4 {α:Type}{p:List α->Prop}(h:∀a b c d,p [a,b,c,d]):∀(us:List α) (hl:us.length=4),p us
 |[a,b,c,d],_=>h a b c d
theorem zu {K:Mr}{h:Heap}{mg:Str->Option Mq}{x:Str}{f:Addr}(X:K.In h)(G:h.Ns mainGlobals mg)(a:PySem.W.nsIn K mainGlobals x=some (some (.ref f))):mg x=some (.ref f):=N0 X G a
theorem zA {P:NV}:OA (oK P) [] []:=.nil
theorem gV {P:NV}{x:Str}{t:Tok}{a:Addr}{es:List Ou}{kvs:List #[196]}(h:OA (oK P) es kvs):OA (oK P) (⟨PyData.keyHash P x,.str x t,.ref a⟩::es) ((x,a)::kvs):=.cons ⟨t,rfl⟩ h
def CM (K:Mr):Sp:=fun vs H Q _=>∃(a:Addr) (ns:List Int),vs=[.ref a]/\c9 K H a #[331]/\xT H/\ns.length<=63/\∀H',Q #[170] H'
theorem Hu {fa:Fa}{P:MP}{w:Nd}{K:Mr}{mg:Str->Option Mq}{base:Heap}{Pg:Nat->Option Df}{n f:Nat}{ad:Addr}{d:Df}{fd:OB}{N:List Str}{st:Stmt}{x qual y:Str}(h:∀f d,Pg f=some d->xW fa P w K mg base f d)
 (hl:∀ns:List Int,ns.length<=63->∃M,ak Pg (n+1) f [.frz #[333]] []=.ok #[170] M) (e:Pg f=some d) (F:r8 K x qual st ad fd) (S:g9 N [y] (aX st)) (hs:d.slots=N.length)
 (hbody:∀(call:Call) (n:Nat) (cdv:Mq) (A:Nr) (outer:List Np) (s:Mx) (H:Hp) (E:XK),(∀f,jk fa P w K mg base n f (call f))->cx (n+4) #[315]->
  kJ fa #[277] (dw st) (d.body call)):kO P w K mg base (gD P w) (n+4+1) ad fd [y] (CM K):=by
 have eq:∀ds M,ak Pg (n+1) f ds M=gP (ak Pg n) d ds M:=fun ds M=>by show (match Pg f with|none=>Res.bad|some d=>gP (ak Pg n) d ds M)=_;rw [e]
 refine qx F S (fun vs H Q E hsp=>?_) fun cdv A outer s H vs Q E hr hsp=>⟨_,hbody (ak Pg n) n cdv A outer s H E (uQ h n) hr,?_⟩
 ·obtain ⟨a,ns,rfl,_⟩:=hsp;rfl
 ·obtain ⟨a,ns,rfl,hS,hO,hn,q⟩:=hsp
  obtain ⟨M',e'⟩:=hl ns hn
  rw [eq] at e'
  have rp:aT fa K ⟨fun _=>none,[]⟩ H [.frz #[333]] [.ref a]:=by
   refine ⟨.ref a,[],rfl,⟨a,ns.map V.int,rfl,?_,aT.ints ns⟩,rfl⟩
   rcases hS with (z|⟨o,z⟩)|z
   ·rcases hO a with y|⟨o,xs,y⟩
    ·rw [y] at z;cases z
    ·rw [y] at z;cases z
   ·exact .inl ⟨o,z⟩
   ·exact .inr z
  refine rP (μ:=⟨fun _=>none,[]⟩) (M:=[]) hs ⟨fun k ds z=>by simp at z,fun _ _=>rfl,(fun _ _ _ z=>nomatch z),#[34]⟩ rp ?_
  rw [e']
  intro v H' μ' _ _ r
  obtain rfl:v=.bl true:=r
  exact q H'
theorem vN {K:Mr}{h:Heap}{mg:Str->Option Mq}{x:Str}{ad:Addr}{P:NV}{es:Array Ou}{n:Nat}{kvs:List #[196]}{fa:Fa}{fs:List (Str×Nat)}(X:K.In h)(G:h.Ns mainGlobals mg)(a:PySem.W.nsIn K mainGlobals x=some (some (.ref ad)))
 (l:K.lookup ad=some {cls:=.type "dict",data:=.dict es n}) (he:OA (oK P) es.toList kvs) (nd:(kvs.map (·.1)).Nodup) (ns:(ad==sysModules)=false) (dk:fh fa kvs fs):∃ad kvs,mg x=some (.ref ad)/\gv K P ad kvs/\fh fa kvs fs:=
 ⟨ad,kvs,N0 X G a,⟨⟨es,n,l,he⟩,nd,ns⟩,dk⟩
end LD
namespace LD
open PySem PySem.Spec PyProof.Rows L2
theorem yA (lo hi:Option Int)(n:Nat):Builtin.Str.strSliceIndices lo hi 1 n=(List.range (HT.aS n n hi-HT.aS n 0 lo)).map (HT.aS n 0 lo+·):=by
 rw [<- sliceRange_one]
 unfold Builtin.Str.strSliceIndices
 simp only [show (1:Int) > 0 by decide,if_true]
 congr 1
 ·cases lo with
  |none=>rfl
  | some i =>
    simp only [HT.aS]
    split<;>omega
 ·cases hi with
  |none=>rfl
  | some i =>
    simp only [HT.aS]
    split<;>omega
def iL (z:Str)(l h:Nat):Str:=⟨(cut z.cps.toList l h).toArray⟩
section
variable {fa:Fa}{X:Cx}{a b:Expr}{ga gb:GE}{pos p2:Pos}{tg:Expr}
theorem tZ {v:Mq}{o:Option Int}(h:IsPart v o):∃p:Option (Int×Tok),v=partValue p/\p.map (·.1)=o:=by
 cases h with
 |none=>exact ⟨none,rfl,rfl⟩
 |int i t=>exact ⟨some (i,t),rfl,rfl⟩
theorem F9:md X (fun x lo hi H Q=>∃z:Str,x=.str z/\z.cps.size<=sizeLine/\Q (.str (iL z #[308] #[179])) H):=by
 intro pins s σ H x v vl vu lo hi sl Q I rx hs pl pu h
 obtain ⟨z,rfl,hz,q⟩:=h
 obtain ⟨t,rfl⟩:=rx
 obtain ⟨l,rfl,el⟩:=tZ pl
 obtain ⟨u,rfl,eu⟩:=tZ pu
 refine ⟨"str",_,slot_str_getitem.lookup,typeIs_str s z t,?_⟩
 refine wpAny_getItem_str_slice (l:=l) (u:=u) (st:=none) hs rfl ?_
 have e:(slicePicked z l u none).filterMap (z.cps[·]?)=cut z.cps.toList #[308] #[179]:=by
  unfold slicePicked
  rw [el,eu]
  show (Builtin.Str.strSliceIndices lo hi 1 z.cps.size).filterMap _=_
  rw [yA,pick_run]
  rfl
 unfold sliceMade
 split
 ·next c=>
  have c':(slicePicked z l u none).length=z.length:=by simpa using c
  have e2:iL z #[308] #[179]=z:=by
   have hl:HT.aS z.cps.size z.cps.size hi-HT.aS z.cps.size 0 lo=z.cps.size:=by
    unfold slicePicked at c'
    rw [el,eu] at c'
    have c':(Builtin.Str.strSliceIndices lo hi 1 z.cps.size).length=z.cps.size:=c'
    rw [yA] at c'
    simpa using c'
   have hh:HT.aS z.cps.size z.cps.size hi<=z.cps.size:=by
    cases hi with
    |none=>exact My _
    |some i=>simp only [HT.aS];split<;>omega
   have h0:HT.aS z.cps.size 0 lo=0\/z.cps.size=0:=by omega
   unfold iL cut
   rw [hl]
   rcases h0 with h0|h0
   ·rw [h0]
    rcases z with ⟨zs⟩
    show (⟨(List.take zs.size (List.drop 0 zs.toList)).toArray⟩:Str)=⟨zs⟩
    rw [List.drop_zero,NT (by simp)]
   ·have:z.cps=#[]:=Array.eq_empty_of_size_eq_zero h0
    rcases z with ⟨zs⟩
    simp at this
    subst this
    simp
  rw [e2] at q
  exact ⟨.str z,H,I,⟨t,rfl⟩,q⟩
 ·rw [e]
  refine ⟨?_,.str _,H,I.tok _,⟨_,rfl⟩,q⟩
  have:(cut z.cps.toList #[308] #[179]).length<=z.cps.size:=by
   unfold cut
   rw [N5,OL]
   simp
   omega
  show (cut z.cps.toList _ _).toArray.size<=sizeLine
  simp at this ⊢
  omega
def nr (hl hh:Bool)(a lo hi:GE):GE:=fun Z M=>(a Z M).bind fun x M=>(lo Z M).bind fun l M=>(hi Z M).bind fun h M=>if b9 hl l&&b9 hh h then (match x with
 | .str z => if z.cps.size <= sz then (match aS z.cps.size 0 l, aS z.cps.size z.cps.size h with
   |some l,some h=>.ok (.str (iL z l h)) M
   |_,_=>.bad) else .bad
 |_=>.bad) else .bad
theorem Gj (hl hh:Bool){lo hi:Option Expr}{gl gh:GE}(ha:DE fa X a ga)(hlo:DO fa X lo hl gl)(hhi:DO fa X hi hh gh):DE fa X (.Subscript a #[329] pos) (nr hl hh ga gl gh):=
 bK (tW F9 ha hlo hhi) fun σ H Q ⟨μ,Z,M,hE,hM,h⟩=>t1 hE hM h fun x M1 v H1 μ1 x1 hE1 hM1 r1 h1=>by
  obtain ⟨l,M2,e2,h2⟩:=aW h1
  obtain ⟨u,M3,e3,h3⟩:=aW h2
  split at h3
  ·next c=>
   rw [Ms] at c
   obtain ⟨ol,el⟩:=part_of c.1
   obtain ⟨ou,eu⟩:=part_of c.2
   refine ⟨μ1,Z,M1,hE1,hM1,?_⟩
   rw [e2]
   refine ⟨ol,c.1,el,fun H2 μ2 x2 hM2=>⟨μ2,Z,M2,hE1.ext x2,hM2,?_⟩⟩
   rw [e3]
   refine ⟨ou,c.2,eu,fun H3 μ3 x3 hM3=>?_⟩
   cases x with
   | str z =>
     obtain rfl:v=.str z:=r1
     dsimp only at h3
     split at h3
     ·next hz=>
      simp only [n5,el,eu,ON] at h3
      exact ⟨z,rfl,by rw [<- dH];exact hz,bf (v:=.str _) hM3 (bp.ext h3 #[206]) rfl⟩
     ·exact h3.elim
   |_=>exact h3.elim
  ·exact h3.elim
theorem EM:bY X (compareOp .IsNot) (fun x y H Q=>∃k,x=.bl k/\y=.bl true/\Q (.bl (!k)) H):=by
 intro pins s σ H x y v u Q I rx ry h
 obtain ⟨k,rfl,rfl,q⟩:=h
 cases rx
 cases ry
 refine tqb (bC I q ?_)
 cases k<;>rfl
def xy (a b:GE):GE:=fun Z M=>(a Z M).bind fun x M=>(b Z M).bind fun y M=>match x,y with
 |.bl k,.bl true=>.ok (.bl (!k)) M
 |_,_=>.bad
theorem GC (ha:DE fa X a ga)(hb:DE fa X b gb)(hm:behindInMarks .IsNot b=false):DT fa X (.Compare a [.IsNot] [b] pos) (aw (xy ga gb)):=
 kT (qh EM ha hb hm) fun σ H Q ⟨μ,Z,M,hE,hM,h⟩=>by
  obtain ⟨z,M3,e,q⟩:=aW h
  have h':ai (xy ga gb Z M) (fun d M=>d=z/\M=M3):=by rw [e];exact ⟨rfl,rfl⟩
  refine t2 hE hM h' fun x y M2 v u H2 μ2 x2 hE2 hM2 r1 r2 h2=>?_
  cases x with
  | bl k =>
    cases y with
    | bl j =>
      cases j with
      | true =>
        obtain ⟨rfl,rfl⟩:=h2
        exact ⟨k,r1,r2,!k,rfl,q H2 μ2 x2 hM2⟩
      |false=>exact h2.elim
    |_=>exact h2.elim
  |_=>cases y<;>exact h2.elim
def signs (z:Str):List D:=z.cps.toList.map fun c=>.str ⟨#[c]⟩
def II (z:Str):It:=⟨fun i _=>i<z.cps.size,fun i H x H'=>H'=H/\∃c,z.cps[i]?=some c/\x=.str ⟨#[c]⟩,fun i _=>z.cps.size<=i⟩
theorem sV {P:MP}{w:Nd}{K:Mr}{n:String}(hn:["enumerate","zip","dict_itemiterator","dict_reverseitemiterator","odict_iterator","itertools.zip_longest","itertools.pairwise"].contains n=false)(it:Addr)(z:Str)(t:Tok)
 (W:∀A':Nr,A'.handled=none->Walks P w A' it [it] [it] z.cps.size (SignAt z) (fun i h=>h.IsStrIter it n z t i))
 (S:∀(A:Nr) (i:Nat) (s:Mx) (Q:Mq->Mx->Prop) (E:Mq->Mx->Prop),s.heap.IsStrIter it n z t i->Q (.ref it) s->wpAny (model P w) A (pyIter (.ref it)) Q E s)
 (D:∀(A:Nr) (hh:A.handled=none) (i:Nat) (s:Mx) (Q:Option Mq->Mx->Prop) (E:Mq->Mx->Prop),s.heap.IsStrIter it n z t i->z.cps.size<=i->(∀h',(∀b o,b≠it->s.heap.get? b=some o->h'.get? b=some o)->Q none {s with heap:=h'})->wpAny (model P w) A #[261] Q E s) :
 Turn P w K tg (II z) [it] it (fun i h=>h.IsStrIter it n z t i) where
 mem:=by simp
 obj:=fun i h st b hb=>by
  have e:b=it:=by simpa using hb
  subst e
  obtain ⟨o,e,c,d⟩:=st
  exact ⟨o,e,fun v z=>by rw [d] at z;cases z⟩
 keep:=fun i h h' st k=>let ⟨o,e,r⟩:=st;⟨o,k it (by simp) o e,r⟩
 item:=by
  intro X hP hw hK hc i pins s σ H E I hf st hg
  subst hP hw hK
  obtain ⟨f0,f1,f2,f3,f4,f5⟩:=hf it (by simp)
  refine (W X.A #[176]).item i s _ _ hg st fun v h' tk hv st' kk=>?_
  obtain ⟨c,u,hc',rfl⟩:=hv
  have I1:Inv X pins σ H {s with heap:=h',toks:=tk}:=I.turned (fun b o hb e=>kk b o (by simpa using hb) e) f0 f1 f3 f4 f5
  obtain ⟨o,e,co,d⟩:=id st'
  exact ⟨_,rfl,sJ (s:={s with heap:=h',toks:=tk}) e co d hn ⟨.str ⟨#[c]⟩,H,I1,⟨u,rfl⟩,⟨rfl,c,hc',rfl⟩,st',fun b hb=>(hf b hb).1⟩⟩
 done:=by
  intro X hP hw hK hc i pins s σ H E I hf st hg
  subst hP hw hK
  obtain ⟨f0,f1,f2,f3,f4,f5⟩:=hf it (by simp)
  exact D X.A #[176] i s _ _ st hg fun h' eb=>⟨rfl,I.turned (t':=s.toks) #[250] f0 f1 f3 f4 f5⟩
 self:=fun A i s Q E st h=>S A i s Q E st h
theorem GN {l:Expr}{tl:TE}(hl:PE X l tl):PI X tg l (fun σ H R=>tl σ H fun x H1=>∃z,x=.str z/\R (II z) H1):=by
 intro pins s σ H R I h
 refine bc (hl pins s σ H _ I h) fun v s1 ⟨x,H1,I1,r1,q1⟩=>?_
 obtain ⟨z,rfl,q⟩:=q1
 obtain ⟨t,rfl⟩:=r1
 have fp:∀b∈[s1.heap.objs.size],gz X pins H1 b:=fun b hb=>by
  have e:b=s1.heap.objs.size:=by simpa using hb
  subst e
  exact I1.fpOk (My _) #[262]
 cases ha:z.cps.all (· < 128)
 ·refine wpAny_pyIter_wide ha ?_
  exact ⟨s1.heap.objs.size,[s1.heap.objs.size],_,_,H1,rfl,I1.kept (t':=s1.toks) fun b o e=>Mp _ e,sV (n:="str_iterator") rfl _ z t (fun A' h=>Walks.strWide h _ z t) (fun A i s Q E st h=>wpAny_pyIter_striter_wide st h) (fun A hh i s Q E st hi k=>wpAny_pyNext_wide_end hh st #[7] k),⟨_,MG _ rfl,rfl,rfl⟩,fp,q⟩
 ·refine wpAny_pyIter_ascii ha ?_
  exact ⟨s1.heap.objs.size,[s1.heap.objs.size],_,_,H1,rfl,I1.kept (t':=s1.toks) fun b o e=>Mp _ e,sV (n:="str_ascii_iterator") rfl _ z t (fun A' h=>Walks.strAscii h _ z t) (fun A i s Q E st h=>wpAny_pyIter_striter_ascii st h) (fun A hh i s Q E st hi k=>wpAny_pyNext_ascii_end hh st #[7] k),⟨_,MG _ rfl,rfl,rfl⟩,fp,q⟩
def pJ (ga:GE):Env->Mem->Res Walk:=fun Z M=>(ga Z M).bind fun x M=>match x with
 |.str z=>.ok (fun _=>some (signs z)) M
 |_=>.bad
theorem AB {μ0:Mu}{H0:Hp}(z:Str):eF fa X.K μ0 H0 (fun _=>some (signs z)) (II z):=fun μ H M ds x hM e=>by
 cases e
 refine ⟨fun i d hd=>?_,fun i hi=>(show z.cps.size<=i by simpa [signs] using hi)⟩
 have hd:(signs z)[i]?=some d:=hd
 unfold signs at hd
 rw [Nm] at hd
 cases e:z.cps.toList[i]? with
 |none=>rw [e] at hd;cases hd
 | some c =>
   rw [e] at hd
   have e':D.str ⟨#[c]⟩=d:=MA hd
   subst e'
   have e2:z.cps[i]?=some c:=by simpa using e
   refine ⟨(Nj.mp e2).1,fun y H' ⟨e1,c',e3,e4⟩=>?_⟩
   rw [e2] at e3
   cases e3
   subst e1 e4
   exact ⟨.refl,hM,rfl⟩
theorem Fq (ha:DE fa X a ga):DI fa X tg a (pJ ga):=fun pins s σ H R I ⟨μ,Z,M,hE,hM,h⟩=>by
 obtain ⟨x,M1,e,q⟩:=aW h
 refine GN ha pins s σ H R I ⟨μ,Z,M,hE,hM,?_⟩
 rw [e]
 intro v H1 μ1 x1 m1 r1
 cases x with
 | str z =>
   obtain rfl:v=.str z:=r1
   exact ⟨z,rfl,q _ H1 μ1 x1 m1 (AB z)⟩
 |_=>exact q.elim
end
end LD
namespace LD
open PySem PySem.Spec PySem.Calls PyProof.Rows PySem.W
section
variable {prog:MP}{w:Nd}{A:Nr}{E:Mq->Mx->Prop}{s:Mx}{K:Frag}{x C:Addr}{ox:Obj}{od:Option Obj}{name:Str}
def lC (K:Frag)(C:Addr):Bool:=findIn K (.ref C) "__getattribute__"==some (some (.builtin "BaseException.__getattribute__"))&&findIn K (.ref C) "__getattr__"==some none&&mroIn K C #[106]==some true&&mroIn K C (.type "object")==some true &&
 findIn K (.ref C) "__class__"==some (some #[55])&&specialIn K #[55] "__get__"==some (some #[118])&&takesIn K #[55]==some true
def LL (prog:MP)(w:Nd)(A:Nr)(x C:Addr)(Q:Mq->Mx->Prop)(E:Mq->Mx->Prop)(s:Mx):Builtin.ObjectAttr.Found->Prop
 |.value v=>wpAny #[8] A (handedOut v) Q E s
 |.bind g a=>wpAny #[8] A.in1 (call g [a,.ref x,.ref C]) (fun v s'=>wpAny #[8] A (handedOut v) Q E s') (fun _ _=>False) s
 |.missing=>False
theorem vY {r:Builtin.ObjectAttr.Found}{tk:Tok}{fill expr:Bool}{Q:Mq->Mx->Prop}(X:K.In s.heap)(I:InstAt s.heap x ox C od)(hg:lC K C=true)(hf:findObj K C od name=some r)
 (h:LL prog w A x C Q E s r) :
 wpAny #[8] A (getAttrBy (.ref x) (.str name tk) fill expr) Q E s:=by
 unfold lC at hg
 simp only [Ms,beq_iff_eq] at hg
 obtain ⟨⟨⟨⟨⟨⟨hga,hgn⟩,hmB⟩,hmO⟩,_⟩,_⟩,_⟩:=hg
 obtain ⟨hh,g,d,t,os⟩:=s
 have L0:=I.type (M:=model prog w)
 have L1:=looks_findIn (M:=model prog w) X hga
 have L2:=looks_findIn (M:=model prog w) X hgn
 have L3:=looks_find (M:=model prog w) X I hf
 have L4:=looks_mroIn (M:=model prog w) X hmB
 have hx2:(Value.builtin "BaseException.__getattribute__"==Value.builtin "object.__getattribute__")=false:=by decide +kernel
 have hk:builtinKind "BaseException.__getattribute__"=some .slot:=by decide +kernel
 have hsplit:splitId "BaseException.__getattribute__"=some ("BaseException","__getattribute__"):=by decide +kernel
 unfold getAttrBy
 refine tqo (tqa (L0.at (tqa (L1.at ?_))))
 show wpAny _ _ (if (true&&Value.builtin "BaseException.__getattribute__"==Value.builtin "object.__getattribute__")=true then _ else _) _ _ _
 rw [hx2,if_neg #[1]]
 unfold getAttrByItsOwn
 refine tqa (show wpAny _ _ (typeLookup (.ref C) "__getattr__") _ _ _ from L2.at (tqa (wpAny_attempt (tqo ?_))))
 unfold callGetattribute
 rw [if_neg (by cases expr<;>decide)]
 unfold boundAndCalled
 refine tqa (wpAny_of_eq (PySem.F.excAttr_ValueError.ga.bind (.ref x)) ?_)
 refine wpAny_call (codeAny_call_builtin PySem.F.excAttr_ValueError.ga.plain F.entry_bexc_ga ?_)
 simp only [checkBuiltinCall,hk,hsplit]
 refine tqa (show wpAny _ _ (isInstance (.ref x) #[106]) _ _ _ from tqa (L0.at (L4.at ?_)))
 have ha:=F.args_bexc_ga (.ref x) (.str name tk)
 repeat (any_goals (first|assumption|wp_step))
 refine wpAny_loadPart_at I.at_ (tqb ?_)
 rw [I.cls]
 refine tqa (L3.at ?_)
 cases r with
 |value v=>exact tqb h
 | bind g a =>
   show wpAny _ _ (holding [a] (call g [a,.ref x,.ref C]) >>= ret) _ _ _
   exact tqa (tqo (wpAny_mono h (fun v s' z=>tqb z) fun _ _ z=>z.elim))
 |missing=>exact h.elim
theorem zP {Q:Option Mq->Mx->Prop}(X:K.In s.heap)(I:InstAt s.heap x ox C od)(hg:lC K C=true)(h:Q (some (.ref C)) {s with toks:=s.toks+1}):wpAny #[8] A (getAttr? (.ref x) "__class__") Q E s:=by
 have hg':=hg
 unfold lC at hg'
 simp only [Ms,beq_iff_eq] at hg'
 obtain ⟨⟨⟨⟨⟨⟨_,_⟩,_⟩,hm⟩,ha⟩,hn⟩,htk⟩:=hg'
 have hf:findObj K C od "__class__"=some (.bind #[118] #[55]):=by
  obtain ⟨cd,hc,_⟩:=NQ.mp hm
  unfold findObj
  rw [hc,NZ,ha,NZ]
  simp [hn,htk]
 unfold getAttr? getAttrBy?
 refine tqa (wpAny_mkText (tqa (wpAny_attempt (vY (s:={s with toks:=s.toks+1}) (r:=.bind #[118] #[55]) X I hg hf ?_))))
 exact wpAny_call (class_get (s:={s with toks:=s.toks+1}) (ox:=ox) (od:=od) X I hm (handed_on rfl (tqb h)))
theorem Fb {c:Mq}{Q:Mq->Mx->Prop}(X:K.In s.heap)(I:InstAt s.heap x ox C od)(hg:lC K C=true)(hty:∀(M:Model) h',K.In h'->OE M h' (typeOf c) #[173])(his:∀(M:Model) h',K.In h'->OE M h' (isType c) true)
 (hne:(Value.ref C==c)=false) (hsub:∀(M:Model) h',K.In h'->OE M h' (isSubtype (.ref C) c) false) (h:Q (.bool false) {s with toks:=s.toks+1}):wpAny #[8] A (call #[58] [.ref x,c]) Q E s:=by
 refine call_isinstance_of ?_ (by intro q;cases q)
 have hisD:OE #[8] s.heap (isType (.ref C)) true:=by
  have hg':=hg
  unfold lC at hg'
  simp only [Ms,beq_iff_eq] at hg'
  obtain ⟨cd,hc,_⟩:=NQ.mp hg'.1.1.1.2
  unfold clsIn at hc
  split at hc
  ·rename_i c' d' cd' sl' ho
   intro A' Q' E' s' k q
   unfold isType loadHead
   exact tqa (wpAny_loadPart (k _ _ (X _ _ ho)) (tqb q))
  ·cases hc
 have hty:=hty #[8] s.heap X
 have his:=his #[8] s.heap X
 have hsub:=hsub #[8] s.heap X
 obtain ⟨h0,g,d,tt,os⟩:=s
 have L0:=I.type (M:=model prog w)
 have LI:OE #[8] h0 (isInstance (.ref x) c) false:=L0.andThen hsub
 unfold Builtin.«isinstance.nested»
 refine tqa (L0.at ?_)
 rw [if_neg (fun q=>by rw [hne] at q;exact Bool.noConfusion q)]
 refine tqa (hty.at ?_)
 rw [if_pos #[1]]
 k_delta "plainIsInstance"
 refine tqa (tqa (his.at ?_))
 simp only [OM,N7,if_false]
 refine tqa (LI.at ?_)
 simp only [N7,if_false]
 refine tqa (zP X I hg ?_)
 refine tqa (hisD.at ?_)
 simp only [OM,N7,if_false]
 refine tqa (wpAny_rule ?_)
 refine hsub.at ?_
 exact tqb h
theorem BZ {D:Addr}{Q:Mq->Mx->Prop}(X:K.In s.heap)(I:InstAt s.heap x ox C od)(hg:lC K C=true)(e:kin_not K C D=true)(h:Q (.bool false) {s with toks:=s.toks+1}):wpAny #[8] A (call #[58] [.ref x,.ref D]) Q E s:=by
 unfold kin_not at e
 rw [Ms,Ms,Ms] at e
 obtain ⟨⟨⟨e0,e1⟩,e2⟩,e3⟩:=e
 refine Fb X I hg (fun _ h' X'=>looks_typeIn X' (O5.mp e2)) (fun _ h' X'=>?_) ?_ (fun _ h' X'=>looks_subIn X' (O5.mp e3)) h
 ·unfold clsIn at e1
  split at e1
  ·rename_i c' d' cd' sl' ho
   intro A' Q' E' s' k q
   unfold isType loadHead
   exact tqa (wpAny_loadPart (k _ _ (X' _ _ ho)) (tqb q))
  ·cases e1
 ·exact Bool.eq_false_iff.mpr fun q=>of_decide_eq_true e0 (Value.ref.inj (O5.mp q))
theorem Fc {T:String}{Q:Mq->Mx->Prop}(X:K.In s.heap)(I:InstAt s.heap x ox C od)(hty:typeOf (.type T)=pure #[173])(hm:mroIn K C (.type T)=some true)(h:Q #[156] s):wpAny #[8] A (call #[58] [.ref x,.type T]) Q E s:=by
 refine call_isinstance_of ?_ (by intro q;cases q)
 have L1:=looks_mroIn (M:=model prog w) X hm
 obtain ⟨h0,g,d,tt,os⟩:=s
 have L0:=I.type (M:=model prog w)
 have LI:OE #[8] h0 (isInstance (.ref x) (.type T)) true:=L0.andThen L1
 unfold Builtin.«isinstance.nested»
 refine tqa (L0.at ?_)
 rw [if_neg (by intro q;cases O5.mp q)]
 refine tqa (wpAny_of_eq hty ?_)
 rw [if_pos #[1]]
 k_delta "plainIsInstance"
 refine tqa (tqa (wpAny_of_eq (a:=true) rfl ?_))
 simp only [OM,N7,if_false]
 refine tqa (LI.at ?_)
 simp only [if_true]
 exact tqb (tqb h)
end
end LD
namespace LD
open PySem PySem.Spec PyProof.Rows L2
def dB (f:Nat)(c:Call)(s:GA):GE:=fun Z M=>match s Z M with
 |.ok ds M=>c f ds M
 |_=>.bad
def Ax (k:D->Mem->Res Fl)(Z:Env):Res D->Res Fl
 |.ok d M=>k d M
 |.err x M=>.ok (.exc x Z) M
 |.bad=>.bad
def iH (a:GE):GS:=fun Z M=>Ax (fun _ M=>.ok (.next Z) M) Z (a Z M)
def iW (t:dv)(a:GE):GS:=fun Z M=>Ax (fun x M=>(cV M (cX t x Z)).bind fun ρ1 M=>.ok (.next ρ1) M) Z (a Z M)
def wK (a:GE):GS:=fun Z M=>Ax (fun x M=>.ok (.ret x) M) Z (a Z M)
def xA (t:GT)(a b:GE):GE:=fun Z M=>match t Z M with
 |.ok k M=>if k then a Z M else b Z M
 |_=>.bad
def jQ (c:Nat)(s:GA):GS:=fun Z M=>match s Z M with
 |.ok ds M=>if ds.length<=sz then .ok (.exc (.exc c none) Z) M else .bad
 |_=>.bad
def cm (o:Option Nat)(a:GE):GE:=fun Z M=>(a Z M).bind fun x M=>match x with
 |.exc c _=>.ok (.bl (match o with|some k=>k==c|none=>true)) M
 |_=>.bad
def Ay (i:Nat):Fl->Mem->Res Fl
 |.next Z,M=>.ok (.next (Z.set i none)) M
 |.ret d,M=>.ok (.ret d) M
 |.exc _ _,_=>.bad
def KJ (i:Nat)(h:GS):Fl->Mem->Res Fl
 |.exc x Z,M=>(h #[122] M).bind (Ay i)
 |fl,M=>.ok fl M
def n4 (b:GS)(i:Nat)(h:GS):GS:=fun Z M=>(b Z M).bind (KJ i h)
def Kk (fa:Fa)(X:Cx)(g:GE):TE:=fun σ H Q=>∃μ Z M,bz fa X.K μ H σ Z/\RelM fa X.K μ H M/\jd (g Z M) #[18] #[317]
abbrev DX (fa:Fa)(X:Cx)(e:Expr)(g:GE):Prop:=PE X e (Kk fa X g)
section
variable {fa:Fa}{X:Cx}{a b:Expr}{ga gb:GE}{ta:GT}{pos p:Pos}{es:List Expr}{gs:GA}{n:Nat}
theorem x_call (f:Nat){x:Str}{call:Call}(C:∀f,jk fa X.prog X.w X.K X.mg X.base n f (call f))(hr:cx (n+4) X.A)(hex:X.ex=[])(hg:Gl X x)(hm:∀ad,fa f=some ad->X.mg x=some (.ref ad))(hs:DA fa X (a::es) gs)
 (hdb:#[6]=false) (he:notStar a=true) (hpl:es.all notStar=true):DX fa X #[94] (dB f call gs):=by
 intro pins s σ H Q I ⟨μ,Z,M,hE,hM,h⟩
 unfold dB at h
 cases eg:gs Z M with
 |err=>rw [eg] at h;exact h.elim
 |bad=>rw [eg] at h;exact h.elim
 | ok ds M1 =>
   rw [eg] at h
   have h:jd (call f ds M1) #[18] #[317]:=h
   rcases C f with hb|⟨ad,fd,ps,h1,h2,h3,h4,F⟩
   ·rw [hb] at h;exact h.elim
   ·have hl:ds.length=ps.length:=by
     by_cases hl:ds.length=ps.length
     ·exact hl
     ·rw [h4 ds M1 hl] at h;exact h.elim
    refine wpAny_Call_Name_kw (gq I hg (hm ad h1) ?_ hdb)
    refine OQ (h₀:=X.base) I.ok.mod.kin h2 (bc (hs pos pins s σ H #[189] I ⟨μ,Z,M,hE,hM,by rw [eg];exact fun vs H1 μ1 x1 m1 r1=>⟨μ1,x1,m1,r1⟩⟩) fun us s1 ⟨vs,H1,I1,r,μ1,x1,m1,r1⟩=>⟨I1.kIn,?_⟩) (bO he) (dQ hpl)
    have hsp:F5 fa X.K ps.length (call f) vs H1 Q fun Cv dx H'=>∃y M' μ' C' c p,Cv=.ref C'/\Ext μ1 H1 μ' H'/\RelM fa X.K μ' H' M'/\y=.exc c p/\fa (fq c)=some C'/\xQ H' c dx p/\XW fa X μ H y Z M':=by
     refine ⟨by rw [r1.length];exact hl,μ1,M1,ds,m1,r1,?_⟩
     cases ec:call f ds M1 with
     |ok d M2=>rw [ec] at h;exact bp.ext h x1
     |err y M2=>rw [ec] at h;exact fun C dx c p H' μ' y' m ex hc hn=>⟨_,M2,μ',C,c,p,rfl,y',m,ex,hc,hn,h⟩
     |bad=>rw [ec] at h;exact h.elim
    have hl2:us.length=ps.length:=by rw [<- r.length,r1.length];exact hl
    have hb:=h3 s1 us I1.kIn (by simpa using hl2)
    rw [Pc] at hb
    refine wpAny_call (codeAny_mono (F.run X.A X.stack s1 H1 ⟨us,[]⟩ us vs Q _ hr I1.env0 hb r hsp) fun r' s' hq=>?_)
    cases r' with
    | error e =>
      unfold CR at hq
      dsimp only at hq
      obtain ⟨a',C',dx,H',rfl,I',fl,y,M',μ',C2,c,p,ec,ye,m',ey,hc,hn,hw⟩:=zF I1 hex hq
      cases ec
      exact hw pins σ H' μ' s' a' C' dx c p I' (x1.trans ye) (#[217].ext ye) m' ey hc hn fl
    | ok fl =>
      cases fl with
      |ret u=>exact I1.after hq
      |next=>exact False.elim hq
      |brk=>exact False.elim hq
      |cont=>exact False.elim hq
theorem IQ {c:Expr}(hc:DT fa X c ta)(ha:DX fa X a ga)(hb:DX fa X b gb):DX fa X (.IfExp c a b pos) (xA ta ga gb):=
 bK (tX hc ha hb) fun σ H Q ⟨μ,Z,M,hE,hM,h⟩=>by
  unfold xA at h
  cases et:ta Z M with
  |err=>rw [et] at h;exact h.elim
  |bad=>rw [et] at h;exact h.elim
  | ok k M1 =>
    rw [et] at h
    refine ⟨μ,Z,M,hE,hM,?_⟩
    rw [et]
    intro H1 μ1 x1 m1
    have go:∀g:GE,jd (g Z M1) #[18] #[317]->Kk fa X g σ H1 Q:=fun g q=>by
     refine ⟨μ1,Z,M1,hE.ext x1,m1,?_⟩
     cases e:g Z M1 with
     |ok d M2=>rw [e] at q;exact bp.ext q x1
     |err y M2=>rw [e] at q;exact XW.ext q x1
     |bad=>rw [e] at q;exact q
    cases k with
    |true=>exact go ga h
    |false=>exact go gb h
theorem Jc (ha:DX fa X a ga)(hs:swapsWith a none pos.line X.env=pure false):DS fa X (.Expr a pos) (iH ga):=
 fH (m9 ha hs) fun D' σ H ⟨μ,Z,M,hE,hM,h⟩=>⟨μ,Z,M,hE,hM,by
  unfold iH at h
  cases e:ga Z M with
  |ok d M1=>rw [e] at h;exact fun v H1 μ1 x1 m1 r1=>h σ H1 μ1 x1 #[217] m1
  |err x M1=>rw [e] at h;exact h
  |bad=>rw [e] at h;exact h.elim⟩
theorem Gg {tg:Expr}{t:dv}(ha:DX fa X a ga)(hg:PG X tg (gT fa X.K t))(hs:swapsWithSole [tg] a pos.line X.env=pure false)(hw:swappedStores [tg] a X.env=pure none)(h1:#[306].map (·.2)=[assign tg X.env]) :
 DS fa X (.Assign [tg] a pos) (iW t ga):=
 fH (tS ha hg hs hw h1) fun D σ H ⟨μ,Z,M,hE,hM,h⟩=>⟨μ,Z,M,hE,hM,by
  unfold iW at h
  cases e:ga Z M with
  | ok d M1 =>
    rw [e] at h
    obtain ⟨ρ1,M2,e',q⟩:=aW h
    cases eb:cX t d Z with
    |none=>rw [eb] at e';cases e'
    | some ρ2 =>
      rw [eb] at e'
      cases e'
      exact fun v H1 μ1 x1 m1 r1=>⟨μ1,Z,_,d,ρ1,hE.ext x1,m1,r1,eb,fun σ1 hE2=>q σ1 H1 μ1 x1 hE2 m1⟩
  |err x M1=>rw [e] at h;exact h
  |bad=>rw [e] at h;exact h.elim⟩
theorem Ge (ha:DX fa X a ga):DS fa X (.Return (some a) pos) (wK ga):=
 fH (yX ha) fun D' σ H ⟨μ,Z,M,hE,hM,h⟩=>⟨μ,Z,M,hE,hM,by
  unfold wK at h
  cases e:ga Z M with
  |ok d M1=>rw [e] at h;exact h
  |err x M1=>rw [e] at h;exact h
  |bad=>rw [e] at h;exact h.elim⟩
end
abbrev mK:List Mq:=[.type "ValueError",.type "Exception",.type "BaseException",.type "object"]
theorem B1 {K:Mr}{h:Heap}{C:Addr}{bmB:List Mq}{newId:String}(X:K.In h)(q:PySem.W.excIn K C bmB newId=true) :
 ∃bm N nm q bs hdct sn sub ab col dd k0 k1 k2 k3 k5 mN,h.get? C=some #[240]/\h.Ns N mN/\mN "__init__"=none/\OwnTail h bmB bm:=by
 unfold PySem.W.excIn at q
 split at q
 ·rename_i dd cd sl ho
  split at q
  ·rename_i C' bm k0 k1 k2 k3 n k5 hm hs
   simp only [Ms,beq_iff_eq,Oo] at q
   obtain ⟨⟨⟨⟨⟨rfl,rfl⟩,hdel⟩,ht⟩,hok⟩,hni⟩:=q
   obtain ⟨nm,bs,mro,ns,qn,hd,sn,sub,ab,col,del⟩:=cd
   dsimp only at hm hdel hok hni
   subst hm hdel
   have hsl:sl=#[k0,k1,k2,k3,some (.builtin n),k5]:=by
    obtain ⟨l⟩:=sl
    simp only at hs
    rw [hs]
   subst hsl
   exact ⟨bm,ns,nm,qn,bs,hd,sn,sub,ab,col,dd,k0,k1,k2,k3,k5,_,X _ _ ho,.of_isNs (Pt X hok),PySem.W.nsMap_none_of_in X hok hni,PySem.W.tail_of_in X ht⟩
  ·cases q
 ·cases q
theorem zo {P:MP}{w:Nd}{H:Hp}{h:Heap}{a:Addr}{o:HO}(x:dg P w H h a o):∃ob,h.get? a=some ob:=by
 cases o with
 |lst xs=>obtain ⟨_,_,_,_,e⟩:=x;exact ⟨_,e⟩
 |tup xs=>obtain ⟨_,_,_,ob,e,_⟩:=x;exact ⟨_,e⟩
 |dK kvs=>obtain ⟨_,_,_,_,o,_,_,e,_⟩:=x;exact ⟨_,e⟩
 |dT kvs=>obtain ⟨_,_,_,_,o,_,_,e,_⟩:=x;exact ⟨_,e⟩
 |set S n=>obtain ⟨o,_,_,_,e,_⟩:=x;exact ⟨_,e⟩
 |ins C dx fs=>obtain ⟨_,_,_,e,_⟩:=x;exact ⟨_,e⟩
 |own y=>exact x
 |xd fs=>obtain ⟨_,⟨_,_,_,e,_⟩,_⟩:=x;exact ⟨_,e⟩
 |rng lo hi=>obtain ⟨_,_,_,e⟩:=x;exact ⟨_,e⟩
 |frz ob u=>obtain ⟨e,_⟩:=x;exact ⟨_,e⟩
 |tbl ps=>exact ⟨_,x⟩
 |met f y=>exact ⟨_,x⟩
 |ext φ=>obtain ⟨_,e,_⟩:=x;exact e
theorem lU {X:Cx}{pins:List #[15]}{σ:L2.St}{H:Hp}{s:Mx}(I:Inv X pins σ H s)(hex:X.ex=[]){e:Addr}(hn:s.heap.get? e=none):kN X e/\H e=none:=by
 refine ⟨⟨?_,fun p hp z=>?_⟩,?_⟩
 ·cases q:X.s₀.heap.get? e with
  |none=>rfl
  | some o =>
    obtain ⟨o',e'⟩:=I.base.there e o q (by rw [hex];simp)
    rw [hn] at e';cases e'
 ·have:=(I.pin p (N2 _ hp)).1
  rw [z,hn] at this;cases this
 ·cases q:H e with
  |none=>rfl
  | some u =>
    obtain ⟨ob,z⟩:=zo (I.hok e u q)
    rw [hn] at z;cases z
section
variable {fa:Fa}{X:Cx}{a b:Expr}{ga gb:GE}{ta:GT}{pos p:Pos}{es:List Expr}{gs:GA}{n:Nat}
theorem Eh (c:Nat){x:Str}{np cpos:Pos}(hx:∃C,X.mg x=some (.ref C)/\fa (fq c)=some C/\PySem.W.excIn X.K C mK "ValueError.__new__"=true)(hex:X.ex=[])(hg:Gl X x)(hc:X.calm=true)(hs:DA fa X (a::es) gs)
 (hdb:#[6]=false) (he:notStar a=true) (hpl:es.all notStar=true):DS fa X (.Raise (some (.Call (.Name x np) (a::es) [] cpos)) none pos) (jQ c gs):=by
 intro pins s σ H D' I ⟨μ,Z,M,hE,hM,h⟩
 obtain ⟨C,hmC,hfC,hin⟩:=hx
 obtain ⟨bm,N,nm,q,bs,hdct,sn,sub,ab,col,dd,k0,k1,k2,k3,k5,mN,hC,hN,hni,T⟩:=B1 I.ok.mod.kin hin
 unfold jQ at h
 cases eg:gs Z M with
 |err=>rw [eg] at h;exact h.elim
 |bad=>rw [eg] at h;exact h.elim
 | ok ds M1 =>
   rw [eg] at h
   dsimp only at h
   split at h
   ·next hz=>
    have h:XW fa X μ H (.exc c none) Z M1:=h
    refine wpAny_Raise_call_subT (nm:=nm) (q:=q) (N:=N) (bs:=bs) (hdct:=hdct) (sn:=sn) (sub:=sub) (ab:=ab) (col:=col) (dd:=dd) (k0:=k0) (k1:=k1) (k2:=k2) (k3:=k3) (k5:=k5) OR (T.hasType #[3]) #[176] (dQ (es:=a::es) (by simp [he,hpl])) hni (gq I hg hmC ⟨rfl,?_⟩ hdb)
    have ar:=bc (hs cpos pins s σ H #[189] I ⟨μ,Z,M,hE,hM,by rw [eg];exact fun vs H1 μ1 x1 m1 r1=>⟨μ1,x1,m1,r1⟩⟩) (Q':=fun us s2=>([]:List (Str×Mq))=[]/\us.length<=sizeLine/\s2.heap.get? C=some #[13]/\s2.heap.Ns N mN/\OwnTail s2.heap mK bm/\∀h' e,Heap.MadeExcOf s2.heap h' e (.ref C) us->X.xe (.ref e) {s2 with heap:=h'}) fun us s1 ⟨vs,H1,I1,r,μ1,x1,m1,r1⟩=>by
     refine ⟨rfl,?_,I1.bk _ _ hC,hN.keeps I1.bk,T.keeps I1.bk,fun h' e hm=>?_⟩
     ·rw [<- r.length,r1.length,<- dH];exact hz
     ·obtain ⟨t,ht,_,_⟩:=hm.there
      obtain ⟨n1,n2⟩:=lU I1 hex hm.new
      exact h pins σ H1 μ1 {s1 with heap:=h'} e C none c none (I1.kept (t':=s1.toks) hm.keeps) x1 #[217] m1 rfl hfC rfl ⟨n1,n2,_,_,ht,rfl,rfl,rfl,.inl rfl⟩
    rw [bO he] at ar ⊢
    exact PySem.Calls.evalArgs_plain ar
   ·exact h.elim
end
end LD
namespace LD
open PySem PySem.Spec PyProof.Rows L2
structure mS (fa:Fa) (K:Mr):Prop where
 g:∀c C,fa (fq c)=some C->lC K C=true/\PySem.W.mroIn K C (.type "ValueError")=some true/\PySem.W.isIn K (.ref C) C=true
 d:∀c C D,fa (fq c)=some C->fa 999=some D->PySem.W.isIn K (.ref C) D=true/\PySem.W.mroIn K C (.ref D)=some true/\PySem.W.mroIn K D #[106]=some true/\PySem.W.typeIn K (.ref D)=some #[173]
 n:∀c C c' C',fa (fq c)=some C->fa (fq c')=some C'->c'≠c->PySem.W.kin_not K C C'=true
section
variable {fa:Fa}{X:Cx}{pins:List #[15]}{σ:L2.St}{H:Hp}{s:Mx}{μ:Mu}
theorem qt (I:Inv X pins σ H s){c:Nat}{p:Option Int}{v:V}(r:Rep fa X.K μ H (.exc c p) v):∃a C ox od,v=.ref a/\fa (fq c)=some C/\N6 s.heap a ox C od:=by
 obtain ⟨a,C,dx,rfl,hf,hH,hn⟩:=r
 obtain ⟨⟨o,vs,h1,h2,h3,h4,h5⟩,_,_⟩:=I.hok a _ hH
 have hc:PySem.W.notCls o=true:=by unfold PySem.W.notCls;rw [h4]
 cases p with
 | none =>
   have hn:dx=none:=hn
   exact ⟨a,C,o,none,rfl,hf,h1,h2,hc,by rw [h3,hn];trivial⟩
 | some i =>
   obtain ⟨d,rfl,hd⟩:=hn
   obtain ⟨mA,⟨od,es,ep,e,_⟩,_⟩:=I.hok d _ hd
   exact ⟨a,C,o,some od,rfl,hf,h1,h2,hc,by rw [h3];exact e⟩
def oZ (fa:Fa)(K:Mr)(o:Option Nat)(w:V)(xs:List V)(H:Hp)(Q:VK):Prop:=∃μ c p v,xs=[v,w]/\Rep fa K μ H (.exc c p) v/\Q (.bl (match o with|some k=>k==c|none=>true)) H
theorem E6 (hc:mS fa X.K){k:Nat}{D:Addr}(hD:fa (fq k)=some D):di X #[58] (oZ fa X.K (some k) (.ref D)):=by
 intro pins s σ H xs us Q I r h
 obtain ⟨μ,c,p,v,rfl,hv,q⟩:=h
 obtain ⟨u,w,rfl,r1,r2⟩:=vals2 r
 obtain rfl:w=Value.ref D:=r2
 obtain ⟨a,C,ox,od,rfl,hf,IA⟩:=qt I hv
 obtain rfl:u=Value.ref a:=r1
 dsimp only at q
 by_cases hb:k=c
 ·subst hb
  rw [hD] at hf;cases hf
  rw [beq_self_eq_true] at q
  exact PySem.W.isi_call I.kIn (fun M=>IA.type) (hc.g k D hD).2.2 (by intro z;cases z) ⟨.bl true,H,I,rfl,q⟩
 ·rw [ND.mpr hb] at q
  exact BZ I.kIn IA (hc.g c C hf).1 (hc.n c C k D hf hD hb) ⟨.bl false,H,I.tok _,rfl,q⟩
theorem E8 (hc:mS fa X.K){D:Addr}(hD:fa 999=some D):di X #[58] (oZ fa X.K none (.ref D)):=by
 intro pins s σ H xs us Q I r h
 obtain ⟨μ,c,p,v,rfl,hv,q⟩:=h
 obtain ⟨u,w,rfl,r1,r2⟩:=vals2 r
 obtain rfl:w=Value.ref D:=r2
 obtain ⟨a,C,ox,od,rfl,hf,IA⟩:=qt I hv
 obtain rfl:u=Value.ref a:=r1
 exact PySem.W.isi_call I.kIn (fun M=>IA.type) (hc.d c C D hf hD).1 (by intro z;cases z) ⟨.bl true,H,I,rfl,q⟩
theorem E7 (hc:mS fa X.K):di X #[58] (oZ fa X.K none (.ty "ValueError")):=by
 intro pins s σ H xs us Q I r h
 obtain ⟨μ,c,p,v,rfl,hv,q⟩:=h
 obtain ⟨u,w,rfl,r1,r2⟩:=vals2 r
 obtain rfl:w=Value.type "ValueError":=r2
 obtain ⟨a,C,ox,od,rfl,hf,IA⟩:=qt I hv
 obtain rfl:u=Value.ref a:=r1
 exact Fc I.kIn IA #[14] (hc.g c C hf).2.1 ⟨.bl true,H,I,rfl,q⟩
end
section
variable {fa:Fa}{X:Cx}{a:Expr}{ga:GE}{pos p1 p2:Pos}{x:Str}
theorem qu {o:Option Nat}{w:V}{σ:L2.St}{H:Hp}{Q:VK}(h:tE fa X.K (cm o ga) σ H Q):tE fa X.K ga σ H fun v H1=>oZ fa X.K o w [v,w] H1 Q:=by
 obtain ⟨μ,Z,M,hE,hM,h⟩:=h
 exact t1 hE hM h fun x M1 v H1 μ1 x1 hE1 hM1 r1 h1=>by
  cases x with
  |exc c p=>exact ⟨μ1,c,p,v,rfl,r1,bf (v:=.bl _) hM1 #[243] rfl⟩
  |_=>exact h1.elim
theorem qf (k:Nat)(hc:mS fa X.K)(hx:∃D,X.mg x=some (.ref D)/\fa (fq k)=some D)(ha:DE fa X a ga)(hg:Gl X "isinstance")(hm:X.mg "isinstance"=none)(hgt:Gl X x)(hdb:#[6]=false)
 (he:starEach [a,.Name x p1] X.env=#[42]::starEach [.Name x p1] X.env):DE fa X #[126] (cm (some k) ga):=by
 obtain ⟨D,h1,h2⟩:=hx
 exact bK (iI (E6 (fa:=fa) hc h2) hg hm #[3] #[301] #[1] #[1] he (by rfl)) fun σ H Q h=>qu h
theorem Ep (hc:mS fa X.K)(hx:∃D,X.mg x=some (.ref D)/\fa 999=some D)(ha:DE fa X a ga)(hg:Gl X "isinstance")(hm:X.mg "isinstance"=none)(hgt:Gl X x)(hdb:#[6]=false)
 (he:starEach [a,.Name x p1] X.env=#[42]::starEach [.Name x p1] X.env):DE fa X #[126] (cm none ga):=by
 obtain ⟨D,h1,h2⟩:=hx
 exact bK (iI (E8 (fa:=fa) hc h2) hg hm #[3] #[301] #[1] #[1] he (by rfl)) fun σ H Q h=>qu h
theorem Eo (hc:mS fa X.K)(ha:DE fa X a ga)(hg:Gl X "isinstance")(hm:X.mg "isinstance"=none)(hgt:Gl X "ValueError")(hmt:X.mg "ValueError"=none)
 (he:starEach [a,.Name "ValueError" p1] X.env=#[42]::starEach [.Name "ValueError" p1] X.env):DE fa X (.Call (.Name "isinstance" p2) [a,.Name "ValueError" p1] [] pos) (cm none ga):=
 bK (iI (E7 (fa:=fa) hc) hg hm #[3] (b7 ha (b7 (vH hgt hmt #[3] (v:=.ty "ValueError") rfl) eA (by rfl)) he) #[1] #[1] he (by rfl)) fun σ H Q h=>qu h
end
theorem ve {prog:MP}{w:Nd}{A:Nr}{E:Mq->Mx->Prop}{s:Mx}{K:Mr}{x C D:Addr}{ox:Obj}{od:Option Obj}{Q:Bool->Mx->Prop}(X:K.In s.heap)(I:N6 s.heap x ox C od)
 (hD:PySem.W.mroIn K D #[106]=some true) (hT:PySem.W.typeIn K (.ref D)=some #[173]) (hs:PySem.W.mroIn K C (.ref D)=some true) (h:Q true s):wpAny #[8] A (excMatches (.ref x) (.ref D)) Q E s:=by
 obtain ⟨hh,g,d,t,os⟩:=s
 have LS:=Pm (M:=model prog w) X hs
 have LB:=Pm (M:=model prog w) X hD
 have LT:=PySem.W.looks_typeIn (M:=model prog w) X hT
 have f:=tc_notTuple
 obtain ⟨cd,hc,_⟩:=NQ.mp hD
 unfold PySem.W.clsIn at hc
 split at hc
 ·rename_i c' d' cd' sl' ho
  have hDo:=X _ _ ho
  have LI:OE #[8] hh (isType (.ref D)) true:=fun A' Q' E' s' k q=>by
   unfold isType loadHead
   exact tqa (wpAny_loadPart (k _ _ hDo) (tqb q))
  unfold excMatches
  refine tqa (show wpAny _ _ (isInstance (.ref D) (.type "tuple")) _ _ _ from tqa (LT.at (wpAny_of_eq f ?_)))
  simp only [N7,if_false]
  repeat (first|with_reducible refine tqa (LI.at ?_)|with_reducible refine LB.at ?_|with_reducible refine LS.at ?_|with_reducible refine wpAny_loadPart_at I.at_ ?_|wp_step)
  rw [I.cls]
  refine LS.at ?_
  repeat (first|exact h|wp_step)
 ·cases hc
theorem pK {M:Model}{A:Nr}{E:Mq->Mx->Prop}{New:Addr->Prop}{C a:Addr}{dx:Option Addr}{H:Hp}{s:Mx}{Q:Unit->Mx->Prop}(f:mf New C dx a s.heap H)(h:Q () s):wpAny M A (setFlight (.ref a) none) Q E s:=by
 obtain ⟨_,_,o,vs,h1,_,_,h4,tr⟩:=f
 unfold setFlight
 rcases tr with t|⟨T,oT,ts,t1,_,_,_,t5,t6,t7⟩
 ·refine tqa (tqf h1 h4 t ?_)
  rw [if_neg #[1]]
  exact tqb h
 ·refine tqa (tqf h1 h4 t1 ?_)
  rw [if_pos (show (Value.ref T != Value.none)=true from by simp)]
  refine wpAny_setField t5 t6 (Nj.mp t7).1 ?_
  have e:=Heap.update_setField_same s.heap T oT ts 3 .none t5 t6 t7
  show Q () {s with heap:=s.heap.update T (Obj.mapFields (·.setIfInBounds 3 .none))}
  rw [e];exact h
section
variable {X:Cx}{pins:List #[15]}{σ:L2.St}{H:Hp}{s:Mx}
theorem vU {M:Model}{A:Nr}{E:Mq->Mx->Prop}{i:Nat}{x:Str}{ps:Pos}{Q:Unit->Mx->Prop}(I:Inv X pins σ H s)(hN:X.N.Nodup)(hi:X.N[i]?=some x)(hk:X.env.scope.names.lookup x=some .local)
 (h:∀s',Inv X pins (σ.set i none) H s'->Q () s'):wpAny M A (do bindName X.env x .none;unbindBehindTheSuite X.env x ps) Q E s:=by
 obtain ⟨m,hn,hl⟩:=id I.loc
 have hcls:(X.env.scope.kind==.class||#[303])=false:=by rw [I.ok.kind];rfl
 refine wpAny_nameGoes_keeps hk hn hcls fun h' v hn' hs=>h _ ?_
 obtain ⟨oL,_,_,hoL,_⟩:=id hn
 have n0:∀b o,X.s₀.heap.get? b=some o->b≠X.env.locals:=fun b o e=>Nt #[242]
 refine ⟨I.ok,I.os,I.bare,⟨fun b o e n hb hx=>?_,fun b o e n hb hx=>?_,I.base.free,fun b o e hx=>?_,I.base.tups,I.base.frzs,I.base.tbls⟩,⟨_,hn',fun j y v' e1 e2 e3=>?_⟩,fun y c e=>?_,I.free,I.freeC,fun p hp=>?_,fun b ob e=>?_,by simpa using I.len⟩
 ·exact (hs.2 b (n0 b o e)).trans #[157]
 ·obtain ⟨sl,e1⟩:=I.base.slot b o e n hb hx
  exact ⟨sl,(hs.2 b (n0 b o e)).trans e1⟩
 ·obtain ⟨o',e1⟩:=I.base.there b o e hx
  exact ⟨o',(hs.2 b (n0 b o e)).trans e1⟩
 ·by_cases hj:j=i
  ·subst hj
   by_cases hlt:j<σ.length
   ·rw [Nv hlt] at e2;cases e2
   ·rw [NY (by simpa using hlt)] at e2;cases e2
  ·rw [MY (NM hj)] at e2
   obtain ⟨u',r',q⟩:=hl j y v' e1 e2 e3
   refine ⟨u',r',?_⟩
   rcases q with ⟨k,e⟩|⟨k,c,e,z⟩
   ·refine .inl ⟨k,?_⟩
    have:y≠x:=fun e=>hj (oh hN e1 (e ▸ hi))
    simp [this,e]
   ·exact .inr ⟨k,c,e,z.sameBut hs (I.cne y c e)⟩
 ·obtain ⟨w',z⟩:=I.cell y c e
  exact ⟨w',z.sameBut hs (I.cne y c e)⟩
 ·obtain ⟨e,n,ne,nf,d⟩:=I.pin p hp
  exact ⟨(hs.2 p.1 ne).trans e,n,ne,nf,d⟩
 ·refine (I.hok b ob e).stay (fun c w' hc q=>(hs.2 c ?_).trans q) (fun _ q=>q) fun _ _ q=>q
  rintro rfl
  rcases hc with hc|hc
  ·rw [<- hc,I.free] at e;cases e
  ·rw [I.free] at hc;cases hc
abbrev ku (X:Cx)(pn:List #[15])(E:Mq->Mx->Prop):Cx:={X with pn:=pn,xe:=E}
abbrev pH (X:Cx)(v:Mq)(E:Mq->Mx->Prop):Cx:={X with A:=X.A.mark (some v),calm:=false,xe:=E}
theorem rG (I:Inv X pins σ H s)(E:Mq->Mx->Prop):Inv (ku X (X.pn++pins) E) [] σ H s:=
 ⟨⟨I.ok.mod,I.ok.kind,I.ok.glob,I.ok.blt,I.ok.above,I.ok.inj,I.ok.has,I.ok.cab,I.ok.hd,I.ok.frames,I.ok.stk,I.ok.exf,I.ok.bs,I.ok.bsz,I.ok.noex,I.ok.exfs,I.ok.funs,I.ok.frf⟩,I.os,I.bare,I.base,I.loc,I.cell,I.free,I.freeC,fun p hp=>I.pin p (by simpa using hp),I.hok,I.len⟩
theorem d7 {E:Mq->Mx->Prop}{pins':List #[15]}(I:Inv (ku X (X.pn++pins) E) pins' σ H s):Inv X pins σ H s:=
 ⟨⟨I.ok.mod,I.ok.kind,I.ok.glob,I.ok.blt,I.ok.above,I.ok.inj,I.ok.has,I.ok.cab,I.ok.hd,I.ok.frames,I.ok.stk,I.ok.exf,I.ok.bs,I.ok.bsz,I.ok.noex,I.ok.exfs,I.ok.funs,I.ok.frf⟩,I.os,I.bare,I.base,I.loc,I.cell,I.free,I.freeC,fun p hp=>I.pin p (N2 _ hp),I.hok,I.len⟩
theorem jf (I:Inv X pins σ H s)(v:Mq)(E:Mq->Mx->Prop):Inv (pH X v E) pins σ H s:=
 ⟨⟨I.ok.mod,I.ok.kind,I.ok.glob,I.ok.blt,I.ok.above,I.ok.inj,I.ok.has,I.ok.cab,#[20],I.ok.frames,I.ok.stk,I.ok.exf,I.ok.bs,I.ok.bsz,I.ok.noex,I.ok.exfs,I.ok.funs,I.ok.frf⟩,I.os,I.bare,I.base,I.loc,I.cell,I.free,I.freeC,I.pin,I.hok,I.len⟩
theorem gW {v:Mq}{E:Mq->Mx->Prop}(hh:X.calm=true->X.A.handled=none)(I:Inv (pH X v E) pins σ H s):Inv X pins σ H s:=
 ⟨⟨I.ok.mod,I.ok.kind,I.ok.glob,I.ok.blt,I.ok.above,I.ok.inj,I.ok.has,I.ok.cab,hh,I.ok.frames,I.ok.stk,I.ok.exf,I.ok.bs,I.ok.bsz,I.ok.noex,I.ok.exfs,I.ok.funs,I.ok.frf⟩,I.os,I.bare,I.base,I.loc,I.cell,I.free,I.freeC,I.pin,I.hok,I.len⟩
end
section
variable {fa:Fa}{X:Cx}{pos np hp:Pos}{x nm:Str}{i:Nat}{body suite:List Stmt}{b0:Stmt}{gB gH:GS}
theorem bz.unset {K:Mr}{μ:Mu}{H:Hp}{σ:L2.St}{Z:Env}(h:bz fa K μ H σ Z)(i:Nat):bz fa K μ H (σ.set i none) (Z.set i none):=by
 refine ⟨by simp [h.len],fun j d e=>?_⟩
 by_cases hj:j=i
 ·subst hj
  by_cases hl:j<Z.length
  ·rw [Nv hl] at e;cases e
  ·rw [NY (by simpa using hl)] at e;cases e
 ·rw [MY (NM hj)] at e
  obtain ⟨v,h1,h2⟩:=h.at' j d e
  exact ⟨v,by rw [MY (NM hj)];exact h1,h2⟩
theorem Jb (hc:mS fa X.K)(hx:∃D,X.mg x=some (.ref D)/\fa 999=some D)(hex:X.ex=[])(hst:X.stack=X.env::X.outer)(hfr:X.env.frame=some X.env.locals)(hN:X.N.Nodup)(hi:X.N[i]?=some nm)(hl:X.env.scope.names.lookup nm=some .local)
 (hg:Gl X x) (hdb:#[6]=false) (hb:∀pn E,kJ fa (ku X pn E) body gB) (hh:∀v E,kJ fa (pH X v E) (b0::suite) gH) :
 DS fa X (.Try body [.ExceptHandler (some (.Name x np)) (some nm) (b0::suite) hp] [] [] pos) (n4 gB i gH):=by
 intro pins s σ H D' I ⟨μ,Z,M,hE,hM,h⟩
 obtain ⟨D,hmD,hfD⟩:=hx
 obtain ⟨fl,M1,e,q⟩:=aW h
 refine wpAny_Try_except (wpAny_mono (hb (X.pn++pins) (fun e s₁=>wpAny #[2] X.A (noteFrame e X.env) (fun _ s₂=>wpAny #[2] X.A (setFlight e none) (fun _ s₃=>wpAny #[2] X.A (handleBy e X.env [.ExceptHandler (some (.Name x np)) (some nm) (b0::suite) hp]) (SP X pins D') X.xe s₃) X.xe s₂) X.xe s₁) [] s σ H D' (rG I _) ⟨μ,Z,M,hE,hM,?_⟩) (fun f s1 z=>?_) fun _ _ z=>z)
 ·rw [e]
  cases fl with
  |next ρ'=>exact q
  |ret d=>exact q
  | exc y ρ1 =>
    intro pins' σ' H' μ' s' a C dx c p I1 ye hE1 hM1 ey hcC hn fl
    have I1:=I1.pins_of (pins':=[]) (fun p hp=>nomatch hp)
    have hall:∀p∈X.pn++pins,p.1≠a:=fl.1.2
    refine qj (P:=X.prog) (w:=X.w) (base:=X.base) (New:=kN (ku X (X.pn++pins) _)) (outer:=X.outer) (by rw [<- hst];exact I1.ok.frames) (by rw [<- hst];exact I1.stack) hfr fl (fun b z=>(lU I1 hex (Oc z)).1) I1.hok (by rw [<- hst];exact I1.stkFree) fun h' ch hch u hok fl2=>?_
    have I2:Inv X pins σ' H' {s' with heap:=h'}:=ur (d7 I1) #[286] (by rw [hst];exact u) hok
    have hcD:=hc.d c C D hcC hfD
    obtain ⟨nw,ha,o,vs,h1,h2,h3,h4,tr⟩:=id fl2
    have hxat:wg C dx a h':=⟨o,vs,h1,h2,h3,h4,by
     rcases tr with t|⟨T,oT,ts,t,_⟩
     ·exact (Nj.mp t).1
     ·exact (Nj.mp t).1⟩
    have hnc:PySem.W.notCls o=true:=by unfold PySem.W.notCls;rw [h4]
    refine wpAny_handleBy_cons (codeAny_handlers_test (gq (jf I2 (.ref a) X.xe) hg hmD ?_ hdb)) (by intro z;cases z)
    have IA:∃od,N6 h' a o C od:=by
     cases p with
     | none =>
       have hn:dx=none:=hn
       exact ⟨none,h1,h2,hnc,by rw [h3,hn];trivial⟩
     | some k =>
       obtain ⟨d,rfl,hd⟩:=hn
       obtain ⟨mA,⟨od,es,ep,ed,_⟩,_⟩:=hok d _ hd
       exact ⟨some od,h1,h2,hnc,by rw [h3];exact ed⟩
    obtain ⟨od,IA⟩:=IA
    refine ve I2.kIn IA hcD.2.2.1 hcD.2.2.2 hcD.2.1 ?_
    refine codeAny_handlers_suite_as (pK fl2 ?_)
    have I3:Inv X pins σ' #[226] {s' with heap:=h'}:=rE I2 hex ha nw.1 ⟨o,vs,h1,h4⟩ hall ⟨hxat,⟨o,h1⟩,fun g1 g2 ⟨o,vs,k1,k2⟩ kk=>⟨o,vs,kk o k1,k2⟩⟩
    have xa:Ext μ' H' μ' #[226]:=Ext.alloc hM1 ha
    have rp:Rep fa X.K μ' #[226] y (.ref a):=by
     rw [ey]
     refine ⟨a,C,dx,rfl,hcC,bV,?_⟩
     cases p with
     |none=>exact hn
     |some k=>exact let ⟨d,z1,z2⟩:=hn;⟨d,z1,by rw [aO (bg z2 ha)];exact z2⟩
    refine tq I3 hN hi (.inl hl) (v:=.ref a) rfl (fun s4 I4=>?_) (.inr hl)
    have q:ai ((gH (ρ1.set i (some y)) M1).bind (Ay i)) #[290]:=q
    obtain ⟨fl3,M2,e3,q3⟩:=aW q
    refine wpAny_mono (hh (.ref a) _ pins s4 (σ'.set i (some (.ref a))) #[226] {nx:=fun σ2 H2=>D'.nx (σ2.set i none) H2,rt:=D'.rt} (jf I4 (.ref a) _) ⟨μ',_,M1,(hE1.ext xa).set rp,hM1.alloc ha,?_⟩) (fun f s5 z=>?_) fun _ _ z=>z
    ·rw [e3]
     cases fl3 with
     |next ρ2=>exact fun σ2 H2 μ2 x2 hE2 hM2=>q3 (σ2.set i none) H2 μ2 ((ye.trans xa).trans x2) (hE2.unset i) hM2
     |ret d=>exact bp.ext q3 (ye.trans xa)
     |exc=>exact q3.elim
    ·dsimp only
     cases f with
     | next =>
       obtain ⟨σ5,H5,I5,z⟩:=z
       exact vU (gW I2.ok.hd I5) hN hi hl fun s6 I6=>⟨_,H5,I6,z⟩
     | ret u =>
       obtain ⟨v,σ5,H5,I5,r5,z⟩:=z
       exact vU (gW I2.ok.hd I5) hN hi hl fun s6 I6=>⟨v,_,H5,I6,r5,z⟩
     |brk=>obtain ⟨_,_,_,z⟩:=z;exact z.elim
     |cont=>obtain ⟨_,_,_,z⟩:=z;exact z.elim
 ·cases f with
  |next=>obtain ⟨σ5,H5,I5,z⟩:=z;exact wpAny_execs_nil ⟨σ5,H5,d7 I5,z⟩
  |ret u=>obtain ⟨v,σ5,H5,I5,r5,z⟩:=z;exact ⟨v,σ5,H5,d7 I5,r5,z⟩
  |brk=>obtain ⟨σ5,H5,I5,z⟩:=z;exact ⟨σ5,H5,d7 I5,z⟩
  |cont=>obtain ⟨σ5,H5,I5,z⟩:=z;exact ⟨σ5,H5,d7 I5,z⟩
end
def FP (K:Mr)(cl:List (Nat×Addr))(D:Addr):Bool:=PySem.W.mroIn K D #[106]==some true&&PySem.W.typeIn K (.ref D)==some #[173] &&
 cl.all fun q=>lC K q.2&&PySem.W.mroIn K q.2 (.type "ValueError")==some true&&PySem.W.isIn K (.ref q.2) q.2&&PySem.W.isIn K (.ref q.2) D&&PySem.W.mroIn K q.2 (.ref D)==some true&&cl.all fun r=>r.1==q.1||PySem.W.kin_not K q.2 r.2
def vX (l cl:List (Nat×Addr))(D:Addr):Fa:=fun i=>if i<999 then l.lookup i else if i=999 then some D else cl.lookup (i-1000)
theorem lookup_mem:∀{l:List (Nat×Addr)}{c:Nat}{C:Addr},l.lookup c=some C->(c,C)∈l
 |[],_,_,h=>by cases h
 | (a, b) :: r, c, C, h => by
   rw [Nn] at h
   split at h
   ·next e=>cases h;rw [eq_of_beq e];exact MM
   ·exact ME _ (lookup_mem h)
theorem jI {l cl:List (Nat×Addr)}{D:Addr}{c:Nat}{C:Addr}(h:vX l cl D (fq c)=some C):(c,C)∈cl:=by
 unfold vX fq at h
 rw [if_neg #[0],if_neg #[0],Nat.add_sub_cancel_left] at h
 exact lookup_mem h
theorem FO {K:Mr}{l cl:List (Nat×Addr)}{D:Addr}(h:FP K cl D=true):mS (vX l cl D) K:=by
 unfold FP at h
 simp only [Ms,beq_iff_eq,MC,Oj] at h
 obtain ⟨⟨h1,h2⟩,h3⟩:=h
 refine ⟨fun c C e=>?_,fun c C D' e e'=>?_,fun c C c' C' e e' n=>?_⟩
 ·obtain ⟨⟨⟨⟨⟨a1,a2⟩,a3⟩,a4⟩,a5⟩,a6⟩:=h3 _ (jI e)
  exact ⟨a1,a2,a3⟩
 ·obtain ⟨⟨⟨⟨⟨a1,a2⟩,a3⟩,a4⟩,a5⟩,a6⟩:=h3 _ (jI e)
  have e':some D=some D':=e'
  cases e'
  exact ⟨a4,a5,h1,h2⟩
 ·obtain ⟨⟨⟨⟨⟨a1,a2⟩,a3⟩,a4⟩,a5⟩,a6⟩:=h3 _ (jI e)
  exact (a6 _ (jI e')).elim (fun z=>absurd z n) id
end LD
namespace LD
open PySem PySem.Spec PyProof.Rows L2 PySem.SeqAt
def oR (M:Mem)(x:D):Option (List Bool):=(fS M x).bind boolsOf
def xC (a:GE):GE:=fun Z M=>(a Z M).bind fun x M=>match oR M x with
 |some bs=>.ok (.int (bs.count true)) M
 |none=>.bad
def xB (a:GE):GE:=fun Z M=>(a Z M).bind fun x M=>match oR M x with
 |some bs=>if true∈bs then .ok (.int (bs.idxOf true)) M else .bad
 |none=>.bad
def pE:Mq->Bool
 |.bool b=>b
 |_=>false
section
variable {fa:Fa}{X:Cx}
theorem eqT {A:Nr}{s:Mx}{us:List Mq}{bs:List Bool}(h:us=bs.map Value.bool):∀y,y∈us.toArray->EqAt A s y #[156] (pE y):=fun y hy=>by
 have hy:y∈us:=by simpa using hy
 rw [h] at hy
 obtain ⟨b,_,rfl⟩:=Nu.mp hy
 have e:=EqAt.bool_bool (A:=A) (s:=s) b true
 have q:(b==true)=pE (.bool b):=by cases b<;>rfl
 rw [<- q];exact e
theorem LU {bs:List Bool}:(bs.map Value.bool).countP pE=bs.count true:=by
 induction bs with
 |nil=>rfl
 |cons b r ih=>cases b<;>simp [List.countP_cons,pE,ih]
theorem rO:∀{us:List Mq}{bs:List Bool},PyProof.Rows.LSm.BoolsAre us bs->us=bs.map Value.bool:=by
 intro us bs h
 induction h with
 |nil=>rfl
 |cons _ _ ih=>simp [ih]
def Li (fa:Fa)(K:Mr)(x:V)(vs:List V)(H:Hp)(Q:VK):Prop:=∃μ ds bs p ws,x=.ref p/\vs=[.bl true]/\c9 K H p ws/\aT fa K μ H ds ws/\boolsOf ds=some bs/\Q (.int (bs.count true)) H
def Jj (fa:Fa)(K:Mr)(x:V)(vs:List V)(H:Hp)(Q:VK):Prop:=∃μ ds bs p ws,x=.ref p/\vs=[.bl true]/\c9 K H p ws/\aT fa K μ H ds ws/\boolsOf ds=some bs/\true∈bs/\Q (.int (bs.idxOf true)) H
theorem Hq:IE X "list.count" (Li fa X.K):=by
 intro pins s σ H x vs v us Q I rx rv h
 obtain ⟨μ,ds,bs,p,ws,rfl,rfl,hq,rl,eb,q⟩:=h
 cases rx
 obtain ⟨u,rfl,ru⟩:=vals1 rv
 obtain rfl:u=Value.bool true:=ru
 obtain ⟨its,rv,⟨o,n,e1,e2,e3,e4⟩,hz⟩:=I.list hq
 have hb:=rO (mq eb rl rv)
 obtain ⟨oc,od,oda,osl⟩:=o
 obtain rfl:oc=.type "list":=e2
 obtain rfl:oda=.seq its.toArray n:=e4
 refine call_meets PySem.F.slot_list_count ⟨_,e1,rfl⟩ PySem.F.entry_list_count (PySem.F.args_list_count_2 _ _) (PySem.SeqAt.list_countAt p its.toArray n od osl #[156] pE) ⟨e1,eqT hb,?_⟩
 have hcnt:its.toArray.toList.countP pE=bs.count true:=by rw [hb,List.toList_toArray];exact LU
 exact ⟨.int (bs.count true),H,I.tok _,⟨s.toks,by rw [hcnt]⟩,q⟩
theorem Ho:IE X "list.index" (Jj fa X.K):=by
 intro pins s σ H x vs v us Q I rx rv h
 obtain ⟨μ,ds,bs,p,ws,rfl,rfl,hq,rl,eb,hm,q⟩:=h
 cases rx
 obtain ⟨u,rfl,ru⟩:=vals1 rv
 obtain rfl:u=Value.bool true:=ru
 obtain ⟨its,rv,⟨o,n,e1,e2,e3,e4⟩,hz⟩:=I.list hq
 have hb:=rO (mq eb rl rv)
 obtain ⟨oc,od,oda,osl⟩:=o
 obtain rfl:oc=.type "list":=e2
 obtain rfl:oda=.seq its.toArray n:=e4
 have hl:bs.idxOf true<bs.length:=List.idxOf_lt_length_of_mem hm
 have hl2:its.length=bs.length:=by rw [hb];simp
 have hz2:its.length<=sizeLine:=by rw [<- rv.length];exact hz
 have hs:((bs.idxOf true:Nat):Int)<2^63-1:=by
  have:sizeLine<2^62:=by decide
  omega
 have at':∀m (hm:m<its.toArray.size),pE its.toArray[m]=bs[m]'(by simp at hm;omega):=fun m hm=>by subst hb;simp [pE]
 refine call_meets PySem.F.slot_list_index ⟨_,e1,rfl⟩ PySem.F.entry_list_index (PySem.F.args_list_index_2 _ _) (PySem.SeqAt.list_indexAt p its.toArray n od osl #[156] pE (bs.idxOf true) #[7] hs (by rw [at'];simp) fun m hm h=>?_) ⟨e1,eqT hb,?_⟩
 ·rw [at']
  have:=List.not_of_lt_findIdx (p:=(·==true)) (xs:=bs) (i:=m) h
  simpa using this
 ·exact ⟨.int (bs.idxOf true),H,I.tok _,⟨_,rfl⟩,q⟩
variable {a:Expr}{ga:GE}{apos cpos kp:Pos}{j:Nat}
theorem Gr (ha:DE fa X a ga)(hbase:attributeBase a "count" X.env #[281]=eval a X.env)(hline:#[274]=true):DE fa X (.Call (.Attribute a "count" apos) [.Constant #[156] j kp] [] cpos) (xC ga):=
 bK (wQ OX PySem.F.slot_list_count PySem.F.type_list_count (Hq (fa:=fa)) ha (b7 wR eA (by rfl)) hbase (by rfl) hline (by rfl) (by rfl)) fun σ H Q ⟨μ,Z,M,hE,hM,h⟩=>t1 hE hM h fun x M1 v H1 μ1 x1 hE1 hM1 r1 h1=>by
  cases e3:oR M1 x with
  |none=>rw [e3] at h1;exact h1.elim
  |some bs=>
   rw [e3] at h1
   obtain ⟨ds,e,e2⟩:=NQ.mp e3
   obtain ⟨p,ws,rfl,hq,rl⟩:=bW hM1 r1 e
   exact ⟨.inl ⟨rfl,ws,hq⟩,μ1,ds,bs,p,ws,rfl,rfl,hq,rl,e2,bf (v:=.int _) hM1 #[243] rfl⟩
theorem Gm (ha:DE fa X a ga)(hbase:attributeBase a "index" X.env #[281]=eval a X.env)(hline:#[274]=true):DE fa X (.Call (.Attribute a "index" apos) [.Constant #[156] j kp] [] cpos) (xB ga):=
 bK (wQ OX PySem.F.slot_list_index PySem.F.type_list_index (Ho (fa:=fa)) ha (b7 wR eA (by rfl)) hbase (by rfl) hline (by rfl) (by rfl)) fun σ H Q ⟨μ,Z,M,hE,hM,h⟩=>t1 hE hM h fun x M1 v H1 μ1 x1 hE1 hM1 r1 h1=>by
  cases e3:oR M1 x with
  |none=>rw [e3] at h1;exact h1.elim
  |some bs=>
   rw [e3] at h1
   obtain ⟨ds,e,e2⟩:=NQ.mp e3
   have h1:ai (if true∈bs then .ok (.int (bs.idxOf true)) M1 else .bad) #[18]:=h1
   split at h1
   ·next hm=>
    obtain ⟨p,ws,rfl,hq,rl⟩:=bW hM1 r1 e
    exact ⟨.inl ⟨rfl,ws,hq⟩,μ1,ds,bs,p,ws,rfl,rfl,hq,rl,e2,hm,bf (v:=.int _) hM1 #[243] rfl⟩
   ·exact h1.elim
end
end LD
namespace LD
open PySem PySem.Spec PySem.Calls PyProof.Rows
section
variable {prog:MP}{w:Nd}{A:Nr}{E:Mq->Mx->Prop}{h:Heap}{g:Array GenState}{d:Drawn}{t:Nat}{os:NJ}
variable {nm q:Str}{C N:Addr}{bs bm:List Mq}{hdct:Bool}{sn:List Str}{sub:List Mq}{ab:Bool}{col:Option Bool}{dd:Option Addr}{k0 k1 k2 k3 k5:Option Mq}
theorem B0 {e:Addr}{oe:Obj}{vs:Array Mq}{u:Mq}{Q:Mq->Mx->Prop}(hC:h.get? C=some #[13])(T:OwnTail h mK bm)
 (he:h.get? e=some oe) (hcls:oe.cls=.ref C) (hd:oe.data=.fields vs) {t0:Addr} (h0:vs[0]?=some (.ref t0))
 (hq:∀h' tp,(∀b o,b≠e->h.get? b=some o->h'.get? b=some o)->h'.get? e=some (oe.mapFields (·.setIfInBounds 0 (.ref tp)))->Q .none ⟨h',g,d,t,os⟩) :
 wpAny #[8] A (call #[102] [.ref e,u]) Q E ⟨h,g,d,t,os⟩:=by
 refine wpAny_call (codeAny_call_builtin PySem.F.excBase_ValueError.init.plain PySem.F.excBase_ValueError.initEntry (wpAny_check_init_subT OR T hC he hcls ?_))
 wp_walk
 have he2:(h.push {cls:=.type "tuple",data:=.seq #[u]}).get? e=some oe:=Mp _ he
 rw [hd]
 refine tqb ?_
 rw [h0]
 refine tqb ?_
 refine tqa (wpAny_setField he2 hd (Nj.mp h0).1 ?_)
 wp_walk
 refine hq _ h.objs.size (fun b o hb e'=>?_) ?_
 ·rw [NC _ _ (NM hb)];exact Mp _ e'
 ·exact N1 _ he2 (Ov (NR hd _))
end
def lM:List Mq->Bool
 |.ref _::r=>lM r
 |l=>l==mK
theorem tQ (self:Mq):∀{l:List Mq},lM l=true->refuseLoop self "__setattr__" l=pure ()
 |[],e=>absurd e #[1]
 | a :: r, e => by
   cases a with
   |ref c=>rw [refuseLoop_ref];exact tQ self e
   | _ =>
     have q:=eq_of_beq (show (_::r==mK)=true from e)
     rw [q];exact PySem.F.store_ValueError.passes self
def sC (K:Mr)(C:Addr):Bool:=(PySem.W.clsIn K C).any (fun cd=>lM cd.mro)&&PySem.W.mroIn K C (.type "object")==some true
theorem Jr {prog:MP}{w:Nd}{A:Nr}{R:Result->Mx->Prop}{s:Mx}{K:Mr}{x C:Addr}{ox:Obj}{od:Option Obj}{name:Str}{tk:Tok}{v:Mq}(X:K.In s.heap)(J:N6 s.heap x ox C od)(hp:sC K C=true)(ht:PySem.W.takerIn K C name=some none)
 (h:∀b,wpAny #[8] A.in1 (Builtin.ObjectAttr.storeInOwnDict (.ref x) (.ref C) (.str name tk) name v b) (fun fin s'=>match fin with|.done f=>R (.ok f) s'|.again c'=>c'.quiet=true/\codeAny #[8] A c' R s') (fun e s'=>R (.error e) s') s) :
 codeAny #[8] A (.call #[194] ⟨[.ref x,.str name tk,v],[]⟩) R s:=by
 unfold sC at hp
 rw [Ms,beq_iff_eq] at hp
 obtain ⟨cd,hc,ho⟩:=PySem.W.any_some hp.1
 have G:=PySem.F.store_ValueError
 have ho:lM cd.mro=true:=ho
 have e0:OE #[8] s.heap (isInstance (.ref x) (.type "object")) true:=J.type.andThen (Pm X hp.2)
 obtain ⟨at',ha,hr⟩:=NQ.mp ht
 have e1:OE #[8] s.heap (mroOf (.ref C)) cd.mro:=(PySem.W.looks_clsIn X hc).andThen .now
 have e2:OE #[8] s.heap (Builtin.ObjectAttr.storeTaker? at') none:=by
  cases at' with
  |none=>exact .now
  | some a =>
    obtain ⟨b,hb,hn⟩:=MZ.mp hr
    cases b with
    |true=>cases hn
    |false=>exact (PySem.W.looks_takesIn X hb).andThen .now
 refine codeAny_call_builtin PySem.F.store_object.slot.plain G.entry (@PySem.W.check_slot #[8] _ _ s "object.__setattr__" "object" "__setattr__" (.ref x) [.str name tk,v] [] _ G.kind G.split e0 (G.args (.ref x) (.str name tk) v) ?_)
 rw [PySem.W.osa_eq]
 refine tqa ?_
 rw [refuse_eq]
 refine tqa (J.type.here (tqa (e1.here ?_)))
 rw [tQ _ ho]
 exact tqb (tqa (J.type.here (tqa ((PySem.W.looks_findIn X ha).here (tqa (e2.here (h _)))))))
theorem E9 {prog:MP}{w:Nd}{A:Nr}{E:Mq->Mx->Prop}{s:Mx}{K:Mr}{x C:Addr}{ox:Obj}{name:Str}{v:Mq}{vs:Array Mq}{Q:Unit->Mx->Prop}(X:K.In s.heap)(J:N6 s.heap x ox C none)
 (hs:PySem.W.findIn K (.ref C) "__setattr__"=some (some #[194])) (hp:sC K C=true) (ht:PySem.W.takerIn K C name=some none) (hh:PySem.W.hasDictIn K C=true) (hd:ox.data=.fields vs)
 (h:∀h' d,s.heap.objs.size<=d->h'.Ns1 d (fun y=>if y=name then some v else none)->h'.get? x=some {ox with dict:=some d}->(∀b o,b≠x->s.heap.get? b=some o->h'.get? b=some o)->Q () {s with heap:=h',toks:=s.toks+2}) :
 wpAny #[8] A (setAttr (.ref x) name v) Q E s:=by
 refine PySem.W.set_plain X J hs (Jr (s:={s with toks:=s.toks+1}) X J hp ht fun b=>?_)
 obtain ⟨cd,hc,hd'⟩:=PySem.W.any_some hh
 have hx:=J.at_
 obtain ⟨oc,odi,oda,osl⟩:=ox
 obtain rfl:oc=.ref C:=J.cls
 obtain rfl:oda=.fields vs:=hd
 have hdi:odi=none:=by
  have:=J.dict
  cases odi with
  |none=>rfl
  |some d=>exact this.elim
 subst hdi
 refine tqa (tqb (tqa (tqa (wpAny_loadPart hx (tqa (PySem.W.Looks.here (s:={s with toks:=s.toks+1}) (PySem.W.looks_clsIn X hc) ?_))))))
 rw [hd']
 show wpAny _ _ (alloc {cls:=.type "dict",data:=.dict #[]} >>= fun d=>update x (fun o=>{o with dict:=some d}) >>= fun _=>(pure (some d):Sem (Option Addr))) _ _ _
 refine tqa (wpAny_alloc ?_)
 have hx2:#[82].get? x=some ⟨.ref C,none,.fields vs,osl⟩:=Mp _ hx
 refine tqa (wpAny_update hx2 (tqb ?_))
 have hdx:s.heap.objs.size≠x:=NI (MJ hx)
 have e1:#[82].get? s.heap.objs.size=some {cls:=.type "dict",data:=.dict #[]}:=MG s.heap rfl
 have e2:(#[82].update x #[180]).get? s.heap.objs.size=some {cls:=.type "dict",data:=.dict #[]}:=(NC _ _ (NM hdx)).trans e1
 have e3:(#[82].update x #[180]).Ns s.heap.objs.size (fun _=>none):=⟨_,#[],_,e2,rfl,(fun e he=>absurd he (by simp)),fun _=>rfl⟩
 have e4:=N1 #[180] hx2 rfl
 refine tqa (tqb (tqa ?_))
 refine wpAny_nsSet1 (Heap.Ns1.of_empty e3) fun h' hn2 hs2=>?_
 obtain ⟨oD,esD,epD,hoD,hdD,hcD⟩:=hn2.count (PySem.Within.cons name v PySem.Within.nil)
 refine tqa (wpAny_lookBehind hoD (by rw [hdD];exact pastItsLine_dict (MF hcD (by show 1<=sizeLine+1;omega))) ?_)
 refine tqb (h _ s.heap.objs.size (My _) hn2 ((hs2.2 _ (NM hdx)).trans e4) fun b o hb e=>?_)
 rw [hs2.2 b (Nt (MJ e)),NC _ _ (NM hb)]
 exact Mp _ e
end LD
namespace LD
open PySem PySem.Spec PyProof.Rows L2
def fit (z:Str)(i:Int)(y:Str):Prop:=i.natAbs.log2<1920/\(z++(toString i:Str)).length<=sizeLine/\#[297].length<=sizeLine
section
variable {X:Cx}{a:Expr}{ta:TE}{pos p1 p2 p3:Pos}{j j2:Nat}{z y:Str}
def Kj (z y:Str)(ta:TE):TE:=fun σ H Q=>z.length<=sizeLine/\ta σ H fun v H1=>∃i,v=.int i/\fit z i y/\Q (.str #[297]) H1
theorem rY (z:Str):Str.empty++z=z:=by
 cases z with
 |mk c=>show Str.mk (#[]++c)=_;simp
theorem xO (z:Str):z++Str.empty=z:=by
 cases z with
 |mk c=>show Str.mk (c++#[])=_;simp
theorem Jp (ha:PE X a ta):PE X #[133] (Kj z y ta):=by
 intro pins s σ H Q I ⟨hz,h⟩
 refine JoinedStr_many (joinParts_cons (O0 ?_))
 show (Str.empty++z).length<=sizeLine/\_
 rw [rY]
 refine ⟨hz,joinParts_cons #[103]⟩
 subst ev
 obtain ⟨t,rfl⟩:=r1
 refine formatField_int_small f1 ⟨f2,joinParts_cons (O0 ⟨f3,joinParts_nil ?_ f3⟩)⟩
 exact ⟨.str _,H1,I1.tok _,⟨_,rfl⟩,q⟩
theorem Jq (ha:PE X a ta):PE X (.JoinedStr [.Constant (.str z) j p1,.FormattedValue a (-1) none p2] pos) (Kj z Str.empty ta):=by
 intro pins s σ H Q I ⟨hz,h⟩
 refine JoinedStr_many (joinParts_cons (O0 ?_))
 show (Str.empty++z).length<=sizeLine/\_
 rw [rY]
 refine ⟨hz,joinParts_cons #[103]⟩
 subst ev
 obtain ⟨t,rfl⟩:=r1
 refine formatField_int_small f1 ⟨f2,joinParts_nil ?_ f2⟩
 have e:z++(toString i:Str)++Str.empty=z++(toString i:Str):=by
  exact xO _
 rw [e] at q
 exact ⟨.str _,H1,I1.tok _,⟨_,rfl⟩,q⟩
end
def fu (C:Addr)(dx:Option Addr)(a:Addr)(h:Heap):Prop:=∃o vs t0,h.get? a=some o/\o.cls=.ref C/\o.dict=dx/\o.data=.fields vs/\vs[0]?=some (.ref t0)/\vs[1]?=some .none
def j4 (K:Mr)(C:Addr)(fI:Addr):Bool:=match K.lookup C with
 | some ⟨.type "type", _, .cls cd, sl⟩ => (match cd.mro, sl.toList with
   |.ref C'::bm,[_,_,_,_,some (.builtin n),_]=>C'==C&&n=="ValueError.__new__"&&!cd.hasDel&&PySem.W.tailIn K mK bm&&PySem.W.nsOkIn K cd.ns&&PySem.W.nsIn K cd.ns "__init__"==some (some (.ref fI))
   |_,_=>false)
 |_=>false
theorem wY {K:Mr}{h:Heap}{N:Addr}{x:Str}{v:Mq}{mg:Str->Option Mq}(X:K.In h)(G:h.Ns N mg)(e:PySem.W.nsIn K N x=some (some v)):mg x=some v:=by
 obtain ⟨o,es,ep,ho,hd,_,hf⟩:=G
 unfold PySem.W.nsIn at e
 split at e
 ·rename_i c d es' n' sl q
  have:=X _ _ q
  rw [ho] at this
  cases this
  cases hd
  split at e
  ·rename_i en he
   cases e
   rw [<- hf]
   unfold nsFind findBy
   rw [<- Array.find?_toList,he]
   rfl
  ·split at e<;>cases e
 ·cases e
theorem mG {K:Mr}{h:Heap}{C fI:Addr}(X:K.In h)(q:j4 K C fI=true) :
 ∃bm N nm q bs hdct sn sub ab col dd k0 k1 k2 k3 k5 mN,h.get? C=some #[13]/\h.Ns N mN/\mN "__init__"=some (.ref fI)/\OwnTail h mK bm:=by
 unfold j4 at q
 split at q
 ·rename_i dd cd sl ho
  split at q
  ·rename_i C' bm k0 k1 k2 k3 n k5 hm hs
   simp only [Ms,beq_iff_eq,Oo] at q
   obtain ⟨⟨⟨⟨⟨rfl,rfl⟩,hdel⟩,ht⟩,hok⟩,hni⟩:=q
   obtain ⟨nm,bs,mro,ns,qn,hd,sn,sub,ab,col,del⟩:=cd
   dsimp only at hm hdel hok hni
   subst hm hdel
   have hsl:sl=#[k0,k1,k2,k3,some #[191],k5]:=by
    obtain ⟨l⟩:=sl
    simp only at hs
    rw [hs]
   subst hsl
   exact ⟨bm,ns,nm,qn,bs,hd,sn,sub,ab,col,dd,k0,k1,k2,k3,k5,_,X _ _ ho,.of_isNs (Pt X hok),wY X (.of_isNs (Pt X hok)) hni,PySem.W.tail_of_in X ht⟩
  ·cases q
 ·cases q
theorem AH {H:Hp}{a:Addr}{o:HO}(h:H a=some o):upd H a o=H:=by
 funext b
 unfold upd
 split
 ·next e=>rw [e,h]
 ·rfl
section
variable {X:Cx}{a b:Expr}{ta tb:TE}{apos cpos p1 pos:Pos}{x:Str}{D:Addr}
def K0 (K:Mr)(ta tb:TE):TE:=fun σ H Q=>ta σ H fun v H1=>tb σ H1 fun u H2=>∃e C fI,v=.ref e/\H2 e=some #[220]/\j4 K C fI=true/\Q .non H2
theorem pU {P:MP}{w:Nd}{H:Hp}{h:Heap}{C e:Addr}{dx:Option Addr}(x:fu C dx e h):dg P w H h e (.ext (fu C dx e)):=by
 refine ⟨x,let ⟨o,_,_,e,_⟩:=x;⟨o,e⟩,fun g1 g2 ⟨o,vs,t0,k1,k2⟩ kk=>⟨o,vs,t0,kk o k1,k2⟩⟩
theorem G1 {pl:Sem Bool}(hD:X.mg x=some (.ref D))(hg:Gl X x)(h1:PySem.W.readsIn X.K D #[173]=true)(h2:PySem.W.findCls X.K (.ref D) #[173] "__init__"=some (.val #[102]))
 (h3:PySem.W.specialIn X.K (.ref D) "__getattribute__"=some #[221]) (ha:PE X a ta) (hb:PE X b tb) (he:notStar a=true) (he2:notStar b=true) (hdb:#[6]=false)
 (ht:eval #[278] X.env=(do
  let ov <- eval (.Name x p1) X.env
  standAt apos.atName
  let (f,first) <- holding [ov] (getMethod ov "__init__" pl)
  callWith cpos f first (backTo cpos (starEach [a,b] X.env)) (backToKw cpos (keywordEach [] X.env)))) :
 PE X #[278] (K0 X.K ta tb):=by
 intro pins s σ H Q I h
 refine PySem.W.methodCall_KW (pl:=pl) (gq I hg hD ?_ hdb) ht
 refine PySem.W.method_cls I.kIn h3 (PySem.W.cls_value I.kIn h1 h2 rfl ?_)
 refine Calls.callWith_builtin (dQ (es:=[a,b]) (by simp [he,he2])) ?_
 have ar:=bc ((b7 ha (b7 hb eA (bO he2)) (bO he)) cpos pins {s with toks:=s.toks+1} σ H (fun vs H2=>match vs with|[v,u]=>∃e C fI,v=.ref e/\H2 e=some #[220]/\j4 X.K C fI=true/\Q .non H2|_=>False) (I.tok _) h) (Q':=fun us s2=>wpAny #[2] X.A (call #[102] ([]++us) []) #[27] X.xe s2) fun us s1 ⟨vs,H1,I1,r,hq⟩=>by
  match vs,r,hq with
  |[],_,hq=>exact hq.elim
  |[_],_,hq=>exact hq.elim
  |_::_::_::_,_,hq=>exact hq.elim
  | [v, u], r, ⟨e, C, fI, ev, hH, hx, q⟩ =>
    subst ev
    obtain ⟨w1,w2,rfl,r1,r2⟩:=vals2 r
    obtain rfl:w1=Value.ref e:=r1
    obtain ⟨⟨o,vs,t0,k1,k2,k3,k4,k5,k6⟩,_,_⟩:=I1.hok e _ hH
    obtain ⟨bm,N,nm,qq,bs,hdct,sn,sub,ab,col,dd,c0,c1,c2,c3,c5,mN,hC,hN,hni,T⟩:=mG I1.kIn hx
    obtain ⟨hp,gg,dr,tk,os⟩:=s1
    refine B0 hC T k1 k2 k4 k5 fun h' tp kk ke=>?_
    have nw:fu C none e h':=⟨_,_,tp,ke,by rw [O7];exact k2,by rw [mH];exact k3,NR k4 _,by simp [(Nj.mp k5).1],by rw [Array.getElem?_setIfInBounds_ne #[1]];exact k6⟩
    have I2:=I1.write (x:=e) (e:=e) (o:=.ext (fu C none e)) (h':=h') (t':=tk) (by rw [hH];exact True.intro) #[131] (fun b u hb z=>kk b u hb z) ⟨_,ke⟩ (pU nw)
    rw [AH hH] at I2
    exact ⟨.non,H1,I2,rfl,q⟩
 rw [bO he] at ar ⊢
 exact PySem.Calls.evalArgs_plain ar
end
def setIn (K:Mr)(C:Addr)(fld:Str):Bool:=PySem.W.findIn K (.ref C) "__setattr__"==some (some #[194])&&sC K C&&PySem.W.takerIn K C fld==some none&&PySem.W.hasDictIn K C
section
variable {X:Cx}{o value:Expr}{to tv:TE}{p' pos:Pos}{fld:Str}
def IV (K:Mr)(tv to:TE)(fld:Str):TS:=fun D σ H=>tv σ H fun y H1=>to σ H1 fun x H2=>∃e C i,x=.ref e/\y=.int i/\H2 e=some #[220]/\setIn K C fld=true/\∀d,H2 d=none->d≠e->D.nx σ (upd #[318] e #[54])
theorem EB (ho:PE X o to)(hv:PE X value tv)(hs:swapsWith value (some (.Attribute o fld p')) pos.line X.env=pure false):PS X (.Assign [.Attribute o fld p'] value pos) (IV X.K tv to fld):=by
 intro pins s σ H D I h
 refine plainObj_wpAny_Assign_Attribute (bc (hv pins s σ H _ I h) fun u s1 ⟨y,H1,I1,ry,q⟩=>bc (ho pins s1 σ H1 _ I1 q) fun ov s2 ⟨x,H2,I2,rx,e,C,i,ex,ey,hH,hset,q2⟩=>?_) hs
 subst ex ey
 obtain rfl:ov=Value.ref e:=rx
 obtain ⟨t,rfl⟩:=ry
 simp only [setIn,Ms,beq_iff_eq] at hset
 obtain ⟨⟨⟨g1,g2⟩,g3⟩,g4⟩:=hset
 obtain ⟨⟨ob,vs,t0,k1,k2,k3,k4,k5,k6⟩,_,_⟩:=I2.hok e _ hH
 have IA:N6 s2.heap e ob C none:=⟨k1,k2,by unfold PySem.W.notCls;rw [k4],by rw [k3];trivial⟩
 refine E9 I2.kIn IA g1 g2 g3 g4 k4 fun h' d hd hns hx' kk=>?_
 have hd0:H2 d=none:=I2.hok.fresh hd
 have hde:d≠e:=fun z=>by rw [z,hH] at hd0;cases hd0
 have lt:∀b o,s2.heap.get? b=some o->b≠d:=fun b o q z=>absurd (MJ q) (by rw [z];exact Nat.not_lt.mpr hd)
 have ne:∀b,H2 b=none->b≠e:=fun b q z=>by rw [z,hH] at q;cases q
 have up:∀b,b≠d->b≠e->upd #[318] e #[54] b=H2 b:=fun b z1 z2=>by rw [aO z2,aO z1]
 have nd:∀b u,H2 b=some u->b≠d:=fun b u q=>bg q hd0
 refine ⟨σ,_,I2.un (h':=h') (t':=s2.toks+2) (H':=upd #[318] e #[54]) ⟨fun b o q n _ _=>kk b o (ne b n) q,fun b o q n _ _=>⟨o.slots,kk b o (ne b n) q⟩,fun b o q n _=>?_,fun b o q _=>?_,fun b xs q=>?_,fun b o u q=>?_,fun b ps q=>⟨#[],?_⟩⟩ fun b u q=>?_,q2 d hd0 hde⟩
 ·rw [up b (lt b o q) (ne b n)];exact n
 ·by_cases z:b=e
  ·exact ⟨_,by rw [z];exact hx'⟩
  ·exact ⟨o,kk b o z q⟩
 ·rw [up b (nd b _ q) (fun z=>by rw [z,hH] at q;cases q)];exact q
 ·rw [up b (nd b _ q) (fun z=>by rw [z,hH] at q;cases q)];exact q
 ·rw [up b (nd b _ q) (fun z=>by rw [z,hH] at q;cases q)];simpa using q
 ·by_cases z:b=e
  ·subst z
   rw [bV] at q;cases q
   exact pU ⟨_,vs,t0,hx',k2,rfl,k4,k5,k6⟩
  ·by_cases z2:b=d
   ·subst z2
    rw [aO hde,bV] at q;cases q
    refine ⟨_,hns,fun f=>?_⟩
    by_cases hf:f=fld
    ·subst hf
     simp only [Nn,beq_self_eq_true,if_true]
     exact ⟨t,rfl⟩
    ·rw [if_neg hf]
     have:([(fld,V.int i)]:List (Str×V)).lookup f=none:=by simp [Nn,ND.mpr hf]
     rw [this];trivial
   ·rw [up b z2 z] at q
    refine (I2.hok b u q).stay (fun c v hc w=>kk c v ?_ w) (fun c w=>?_) fun c xs w=>?_
    ·rcases hc with hc|hc
     ·rw [hc];exact z
     ·intro y;rw [y,hH] at hc;cases hc
    ·rw [up c (nd c _ w) (fun y=>by rw [y,hH] at w;cases w)];exact w
    ·rw [up c (nd c _ w) (fun y=>by rw [y,hH] at w;cases w)];exact w
end
end LD
namespace LD
open PySem PySem.Spec PyProof.Rows
section
variable {prog:MP}{w:Nd}{A:Nr}{E:Mq->Mx->Prop}{h:Heap}{g:Array GenState}{d:Drawn}{t:Nat}{os:NJ}
variable {nm q:Str}{C N:Addr}{bs bm:List Mq}{hdct:Bool}{sn:List Str}{sub:List Mq}{ab:Bool}{col:Option Bool}{dd:Option Addr}{k0 k1 k2 k3 k5:Option Mq}
theorem r9 {mN:Str->Option Mq}{rest:List Mq}{fI:Addr}{oI:Obj}{Q:Fin->Mx->Prop}
 (hC:h.get? C=some #[13]) (T:OwnTail h mK bm) (hn:h.Ns N mN) (hi:mN "__init__"=some (.ref fI)) (hfI:h.get? fI=some oI) (hfc:oI.cls=.type "function")
 (hq:∀h' e,Heap.MadeExcOf h h' e (.ref C) rest->wpAny #[8] A (call (.ref fI) (.ref e::rest)) (fun r s'=>r=.none/\Q (.done (.ret (.ref e))) s') E ⟨h',g,d,t,os⟩) (hrest:rest.length<=sizeLine) :
 wpAny #[8] A (Builtin.«type.__call__» ⟨.ref C::rest,[]⟩) Q E ⟨h,g,d,t,os⟩:=by
 have F:=OR
 repeat (first|with_reducible refine wpAny_loadPart_at hC ?_|with_reducible refine wpAny_madeBy_exc hC ?_|wp_step)
 refine codeAny_call_builtin_code (Code.quiet_builtin _ F.quiet) (wpAny_check_new_subT F T hC ?_)
 refine codeAny_exc_new_subT F T hC ?_ hrest
 show wpAny _ _ _ _ _ _
 have kp:∀b o,h.get? b=some o->#[77].get? b=some o:=fun b o hb=>Mp _ (Mp _ hb)
 have hC₁:=kp _ _ hC
 have hfI₁:=kp _ _ hfI
 have hn₁:=hn.keeps kp
 have T₁:=T.keeps kp
 have hget:#[77].get? (h.objs.size+1)=some {cls:=.ref C,data:=.fields #[.ref h.objs.size,.none,.none,.none,.bool false,.none]}:=by heap_get
 have hcC:(Value.ref C::bm).contains (.ref C)=true:=by simp
 unfold isInstance
 repeat (first|with_reducible refine wpAny_loadPart_at hget ?_|(with_reducible refine wpAny_isSubtype_exc hC₁ ?_;rw [hcC])|wp_step)
 show wpAny _ _ (typeLookup (.ref C) _) _ _ _
 refine wpAny_typeLookup_tail hC₁ hn₁ T₁ F.mroIs F.init.lookup ?_
 rw [hi]
 refine tqo (tqa ?_)
 unfold bindSpecial
 refine tqa (wpAny_typeOf (T:="function") ⟨_,hfI₁,hfc⟩ ?_)
 rw [if_pos #[1]]
 refine tqb (tqa (wpAny_mono (hq _ (h.objs.size+1) ⟨kp,Oc (Nat.le_succ _),h.objs.size,hget,Oc (My _),?_⟩) (fun r s' hr=>?_) fun _ _ x=>x))
 ·exact Mp _ (Heap.get?_push_at rfl rfl)
 ·obtain ⟨rfl,hQ⟩:=hr
  wp_walk
  exact hQ
theorem Af {mN:Str->Option Mq}{rest:List Mq}{fI:Addr}{oI:Obj}{Q:Mq->Mx->Prop}
 (hC:h.get? C=some #[13]) (T:OwnTail h mK bm) (hn:h.Ns N mN) (hi:mN "__init__"=some (.ref fI)) (hfI:h.get? fI=some oI) (hfc:oI.cls=.type "function")
 (hq:∀h' e,Heap.MadeExcOf h h' e (.ref C) rest->wpAny #[8] (A.under (.builtin "type.__call__" ⟨.ref C::rest,[]⟩)) (call (.ref fI) (.ref e::rest)) (fun r s'=>r=.none/\Q (.ref e) s') E ⟨h',g,d,t,os⟩) (hrest:rest.length<=sizeLine) :
 wpAny #[8] A (call (.ref C) rest) Q E ⟨h,g,d,t,os⟩:=by
 have f1:=tc_lookup
 have f2:=tc_bind (.ref C)
 have hT:(⟨h,g,d,t,os⟩:Mx).TypeIs (.ref C) "type":=⟨_,hC,rfl⟩
 refine wpAny_call (codeAny_of_tree ?_)
 show wpAny _ _ (callAny (.ref C) _) _ _ _
 repeat (any_goals (first|assumption|with_reducible refine wpAny_loadPart_at hC ?_|wp_step))
 refine ⟨rfl,?_⟩
 refine codeAny_call_builtin_at (Code.quiet_builtin _ #[3]) entry_typeCall (wpAny_check_type_call_sub hC (r9 hC T hn hi hfI hfc (fun h' e hm=>?_) hrest))
 exact hq h' e hm
end
end LD
namespace LD
open PySem PySem.Spec PyProof.Rows L2
def Dx (x m:Str)(a b:Expr)(p1 apos cpos:Pos)(env:Np):Prop:=∃pl,eval (.Call (.Attribute (.Name x p1) m apos) [a,b] [] cpos) env=(do
 let ov <- eval (.Name x p1) env
 standAt apos.atName
 let (f,first) <- holding [ov] (getMethod ov m pl)
 callWith cpos f first (backTo cpos (starEach [a,b] env)) (backToKw cpos (keywordEach [] env)))
def Km (C:Addr)(fld:Str):Sp:=fun vs H Q _=>∃e i,vs=[.ref e,.int i]/\H e=some #[220]/\i.natAbs<2^64/\∀d,H d=none->d≠e->Q .non (upd (upd H d (.xd [(fld,.int i)])) e #[54])
theorem len_app (a b:Str):(a++b).length=a.length+b.length:=by
 show (Str.append a b).length=_
 unfold Str.append Str.length
 simp
theorem zO {z y:Str}{i:Int}(hz:z.length<=1000)(hy:y.length<=1000)(hi:i.natAbs<2^64):fit z i y:=by
 have h1:i.natAbs.log2<1920:=by
  by_cases h0:i.natAbs=0
  ·rw [h0];decide
  ·exact MQ ((Nat.log2_lt h0).mpr hi) #[0]
 have h2:((toString i:Str)).length<=1921:=PyProof.Rows.int_text_len_1921 h1
 have hs:sizeLine=16777216:=dH.symm
 refine ⟨h1,?_,?_⟩
 ·rw [len_app];omega
 ·rw [len_app,len_app];omega
section
variable {P:MP}{w:Nd}{K:Mr}{mg:Str->Option Mq}{base:Heap}{qual y fld z:Str}{st:Stmt}{f C D fI:Addr}{fd:OB}{p1 p2 p3 p4 p5 p6 p7 p8 p9 p10 p11 p12 p13:Pos}{j:Nat}
theorem HG (F:r8 K "__init__" qual st f fd)(S:g9 ["self",y] ["self",y] (aX st))
 (hb:dw st=[.Expr #[57] p9,.Assign [.Attribute (.Name "self" p10) fld p11] (.Name y p12) p13])
 (hev:∀L cd,Dx "DeedError" "__init__" (.Name "self" p3) #[183] p1 p2 p8 (envOfC qual (aX st) L f cd))
 (hz:z.length<=1000) (hyd:(y==("__debug__":Str))=false) (hyc:(y==("__classdict__":Str))=false) (v0:(aX st).names.lookup ("self":Str)=some .local) (v1:(aX st).names.lookup y=some .local)
 (hg:∀L cd,(envOfC qual (aX st) L f cd).kindOf "DeedError"=some .globalImplicit) (hD:mg "DeedError"=some (.ref D)) (h1:PySem.W.readsIn K D #[173]=true) (h2:PySem.W.findCls K (.ref D) #[173] "__init__"=some (.val #[102]))
 (h3:PySem.W.specialIn K (.ref D) "__getattribute__"=some #[221]) (hC:j4 K C fI=true) (hset:setIn K C fld=true):kO P w K mg base (gD P w) 1 f fd ["self",y] (Km C fld):=by
 refine qx F S (fun vs H Q E ⟨e,i,ev,_⟩=>by rw [ev];rfl) fun cdv A outer s H vs Q E hr ⟨e,i,ev,hH,hi,q⟩=>?_
 subst ev
 rw [hb]
 have V0:rZ #[43].env.scope "self":=.inl v0
 have V1:rZ #[43].env.scope y:=.inl v1
 have a0:∀p,PE #[43] (.Name "self" p) (A8 0):=fun p=>pd (i:=0) rfl V0
 have a1:∀p,PE #[43] (.Name y p) (A8 1):=fun p=>pd (i:=1) rfl V1 hyd hyc
 obtain ⟨pl,hev⟩:=hev s.heap.objs.size cdv
 refine ⟨_,oa (m9 (G1 (pl:=pl) hD (hg _ _) h1 h2 h3 (a0 p3) (Jq (a1 p5)) rfl rfl rfl hev) rfl) (oa (EB (a0 p10) (a1 p12) rfl) vC),?_⟩
 refine ⟨.ref e,rfl,MF hz (by rw [<- dH];decide),.int i,rfl,i,rfl,zO hz #[1] hi,e,C,fI,rfl,hH,hC,?_⟩
 exact ⟨.int i,rfl,.ref e,rfl,e,C,i,rfl,rfl,hH,hset,fun d hd hde=>q d hd hde⟩
end
end LD
namespace LD
open PySem PySem.Spec PyProof.Rows L2
def lz (fa:Fa)(P:MP)(w:Nd)(K:Mr)(mg:Str->Option Mq)(base:Heap)(c:Nat)(x:Str):Prop:=
 ∃C fI fd y oI,mg x=some (.ref C)/\fa (fq c)=some C/\j4 K C fI=true/\PySem.W.keepIn K (.ref C)=true/\K.lookup fI=some oI/\oI.cls=.type "function"/\Binds K fd ["self",y] []/\kO P w K mg base (gD P w) 1 fI fd ["self",y] (Km C (fO c))
section
variable {X:Cx}{pins:List #[15]}{σ:L2.St}{H H0:Hp}{s:Mx}{fa:Fa}
theorem vd {a:Addr}{φ:Heap->Prop}(I:Inv X pins σ H s)(ha:H a=some (.ext φ))(hH:∀b,b≠a->H0 b=H b)(hz:H0 a=none):Inv X pins σ H0 s:=by
 have nn:∀b,H b=none->b≠a:=fun b q z=>by rw [z,ha] at q;cases q
 have no:∀b u,H b=some u->(∀φ,u≠.ext φ)->H0 b=some u:=fun b u q n=>by
  rw [hH b (fun z=>by rw [z,ha] at q;cases q;exact n _ rfl)];exact q
 refine ⟨I.ok,I.os,I.bare,⟨I.base.keep,I.base.slot,fun b o e n hx=>?_,I.base.there,fun b xs e=>?_,fun b o u e=>?_,fun b ps e=>?_⟩,I.loc,I.cell,?_,fun x c e=>?_,fun p hp'=>?_,fun b u e=>?_,I.len⟩
 ·have q:=I.base.free b o e n hx
  rw [hH b (nn b q)];exact q
 ·exact no _ _ (I.base.tups b xs e) #[34]
 ·exact no _ _ (I.base.frzs b o u e) #[34]
 ·obtain ⟨m,q⟩:=I.base.tbls b ps e
  exact ⟨m,no _ _ q #[34]⟩
 ·rw [hH _ (nn _ I.free)];exact I.free
 ·rw [hH _ (nn _ (I.freeC x c e))];exact I.freeC x c e
 ·obtain ⟨e,n,r⟩:=I.pin p hp'
  exact ⟨e,by rw [hH _ (nn _ n)];exact n,r⟩
 ·by_cases hb:b=a
  ·rw [hb,hz] at e;cases e
  ·rw [hH b hb] at e
   exact (I.hok b u e).stay (fun c v _ q=>q) (fun c q=>no _ _ q #[34]) fun c xs q=>no _ _ q #[34]
theorem Hr {c:Nat}{x:Str}{C:Addr}{i:Int}{t:Tok}{Q:Mq->Mx->Prop}(J:lz fa X.prog X.w X.K X.mg X.base c x)(hr:cx 2 X.A)(hex:X.ex=[])(I:Inv X pins σ H s)(hC:X.mg x=some (.ref C))(hi:i.natAbs<2^64)
 (h:∀e d s',fa (fq c)=some C->kN X e->H e=none->H d=none->d≠e->Inv X pins σ (upd (upd H d #[85]) e #[54]) s'->Q (.ref e) s'):wpAny #[2] X.A (call (.ref C) [.int i t]) Q X.xe s:=by
 obtain ⟨C',fI,fd,y,oI,m1,hf,hin,hk,hfI,hfc,hb,F⟩:=J
 rw [hC] at m1
 cases m1
 obtain ⟨bm,N,nm,q,bs,hdct,sn,sub,ab,col,dd,k0,k1,k2,k3,k5,mN,hCo,hN,hni,T⟩:=mG I.kIn hin
 obtain ⟨hp,g,dr,tk,os⟩:=s
 refine Af hCo T hN hni (I.kIn _ _ hfI) hfc (fun h' e hm=>?_) (by rw [<- dH];exact Nl rfl)
 obtain ⟨tp,ht,_,_⟩:=hm.there
 obtain ⟨n1,n2⟩:=lU I hex hm.new
 have I1:=I.kept (t':=tk) hm.keeps
 have I2:Inv X pins σ (upd H e #[220]) ⟨h',g,dr,tk,os⟩:=rE I1 hex n2 n1.1 ⟨_,_,ht,rfl⟩ (fun p hp z=>by
  have:=(I.pin p hp).1
  rw [z,hm.new] at this;cases this) (pU ⟨_,_,tp,ht,rfl,rfl,rfl,rfl,rfl⟩)
 have hb':=hb ⟨h',g,dr,tk,os⟩ [.ref e,.int i t] I2.kIn rfl
 rw [Pc] at hb'
 refine wpAny_call (codeAny_mono (F.run _ X.stack ⟨h',g,dr,tk,os⟩ (upd H e #[220]) ⟨[.ref e,.int i t],[]⟩ [.ref e,.int i t] [.ref e,.int i] (fun v H'=>v=.non/\∃d,H d=none/\d≠e/\H'=upd (upd H d #[85]) e #[54]) (fun _ _ _=>False) (hr.make C [.int i t] []) (I2.env0.make C [.int i t] []) hb' (.cons rfl (.cons ⟨t,rfl⟩ .nil)) ?_) fun r s' hq'=>?_)
 ·refine ⟨e,i,rfl,bV,hi,fun d hd hde=>⟨rfl,d,by rw [aO hde] at hd;exact hd,hde,?_⟩⟩
  funext b
  unfold upd
  split
  ·rfl
  ·split
   ·rfl
   ·rfl
 ·cases r with
  | error e' =>
    obtain ⟨_,_,_,_,_,_,_,_,_,_,z⟩:=hq'
    exact z.elim
  | ok fl =>
    cases fl with
    | ret u =>
      obtain ⟨v,H',I3,rv,ev,d,hd,hde,eH⟩:=I2.after hq'
      subst ev eH
      exact ⟨rv,h e d s' hf n1 n2 hd hde I3⟩
    |next=>exact False.elim hq'
    |brk=>exact False.elim hq'
    |cont=>exact False.elim hq'
end
def gMkI (c:Nat)(a:GE):GE:=fun Z M=>(a Z M).bind fun d M=>match d with
 |.int i=>if i.natAbs<2^64 then .ok (.exc c (some i)) M else .bad
 |_=>.bad
def gU (c:Nat)(a:GE):GS:=fun Z M=>match a Z M with
 |.ok (.int i) M=>if i.natAbs<2^64 then .ok (.exc (.exc c (some i)) Z) M else .bad
 |_=>.bad
def jZ (f:Str)(a:GE):GE:=fun Z M=>(a Z M).bind fun d M=>match d with
 |.exc c (some i)=>if fO c=f then .ok (.int i) M else .bad
 |_=>.bad
theorem wN {M:Model}{A:Nr}{E:Mq->Mx->Prop}{env:Np}{nm q:Str}{C N:Addr}{bs bm:List Mq}{hdct:Bool}{sn:List Str}{sub:List Mq}{ab:Bool}{col:Option Bool}{dd:Option Addr}{k0 k1 k2 k3 k5:Option Mq}{newId:String}
 {s:Mx}{x:Sem Mq}{Q:Flow->Mx->Prop} (hbase:bm.contains #[106]=true) (hh:A.handled=none)
 (h:wpAny M A x (fun v s₁=>∃e o vs,v=.ref e/\s₁.heap.get? C=some #[240]/\s₁.heap.get? e=some o/\o.cls=.ref C/\o.data=.fields vs/\vs[1]?=some .none/\E (.ref e) s₁) E s) :
 wpAny M A (raiseStmt env (some x) none) Q E s:=by
 have hcB:(Value.ref C::bm).contains #[106]=true:=by rw [List.contains_cons,hbase,Bool.or_true]
 unfold raiseStmt
 refine tqa (wpAny_mono h (fun v s₁ h₁=>?_) fun _ _ x=>x)
 obtain ⟨e,⟨cl,od,da,sl⟩,vs,rfl,hC,he,hc,hd,h1,hE⟩:=h₁
 obtain rfl:cl=.ref C:=hc
 obtain rfl:da=.fields vs:=hd
 obtain ⟨hp,g,d,tk,os⟩:=s₁
 repeat (first|with_reducible refine wpAny_loadPart_at he ?_|with_reducible refine wpAny_loadPart_at hC ?_|(with_reducible refine wpAny_isSubtype_exc hC ?_;rw [hcB])|(with_reducible refine tqf he rfl h1 ?_)|wp_step)
 exact wpAny_raiseNew_none hh hE
section
variable {fa:Fa}{X:Cx}{a b:Expr}{ga gb:GE}{ta:GT}{pos p np cpos:Pos}{es:List Expr}{gs:GA}{n:Nat}{x:Str}
theorem B2 (c:Nat){pins:List #[15]}{σ:L2.St}{H:Hp}{s:Mx}{Q:Mq->Mx->Prop}(J:lz fa X.prog X.w X.K X.mg X.base c x)(hr:cx 2 X.A)(hex:X.ex=[])(hg:Gl X x)(ha:DE fa X a ga)(hdb:#[6]=false)(he:notStar a=true)(I:Inv X pins σ H s)
 (h:∃μ Z M,bz fa X.K μ H σ Z/\RelM fa X.K μ H M/\ai (ga Z M) fun d M'=>∃i,d=.int i/\i.natAbs<2^64/\∀H1 μ1 e d C s',Ext μ H μ1 H1->bz fa X.K μ1 H1 σ Z->RelM fa X.K μ1 H1 M'->X.mg x=some (.ref C)->fa (fq c)=some C->kN X e->H1 e=none->H1 d=none->d≠e->Inv X pins σ (upd (upd H1 d #[85]) e #[54]) s'->Q (.ref e) s') :
 wpAny #[2] X.A (eval (.Call (.Name x np) [a] [] cpos) X.env) Q X.xe s:=by
 obtain ⟨μ,Z,M,hE,hM,h⟩:=h
 obtain ⟨C,fI,fd,y,oI,m1,hf,hin,hk,r⟩:=id J
 refine wpAny_Call_Name_kw (gq I hg m1 ?_ hdb)
 refine OQ (h₀:=X.base) I.ok.mod.kin hk (bc (b7 ha eA (bO he) cpos pins s σ H (fun vs H1=>∃μ1 M1 i,Ext μ H μ1 H1/\RelM fa X.K μ1 H1 M1/\vs=[.int i]/\i.natAbs<2^64/\∀H1 μ1 e d C s',Ext μ H μ1 H1->bz fa X.K μ1 H1 σ Z->RelM fa X.K μ1 H1 M1->X.mg x=some (.ref C)->fa (fq c)=some C->kN X e->H1 e=none->H1 d=none->d≠e->Inv X pins σ (upd (upd H1 d #[85]) e #[54]) s'->Q (.ref e) s') I ⟨μ,Z,M,hE,hM,aG h fun d M' ⟨i,ed,hi,k⟩ v H1 μ1 x1 m1 r1=>by
  subst ed
  obtain rfl:v=.int i:=r1
  exact ⟨μ1,M',i,x1,m1,rfl,hi,k⟩⟩) fun us s1 ⟨vs,H1,I1,r,μ1,M1,i,x1,mm,ev,hi,k⟩=>⟨I1.kIn,?_⟩) (bO he) (dQ (es:=[]) rfl)
 subst ev
 cases r with
 | cons r1 r2 =>
   cases r2
   obtain ⟨t,rfl⟩:=r1
   exact Hr J hr hex I1 m1 hi fun e d s' hfa n1 n2 hd hde I3=>k H1 μ1 e d C s' x1 #[217] mm m1 hfa n1 n2 hd hde I3
theorem Bq (c:Nat)(J:lz fa X.prog X.w X.K X.mg X.base c x)(hr:cx 2 X.A)(hex:X.ex=[])(hg:Gl X x)(hc:X.calm=true)(ha:DE fa X a ga)(hdb:#[6]=false)(he:notStar a=true):DS fa X (.Raise (some (.Call (.Name x np) [a] [] cpos)) none pos) (gU c ga):=by
 intro pins s σ H D' I ⟨μ,Z,M,hE,hM,h⟩
 obtain ⟨C,fI,fd,y,oI,m1,hf,hin,hk,r⟩:=id J
 obtain ⟨bm,N,nm,q,bs,hdct,sn,sub,ab,col,dd,k0,k1,k2,k3,k5,mN,hCo,hN,hni,T⟩:=mG I.ok.mod.kin hin
 rw [arm_exec_Raise]
 simp only [evalOpt,Option.map]
 refine tqa (wpAny_standAt (wN (C:=C) (nm:=nm) (q:=q) (N:=N) (bs:=bs) (bm:=bm) (hdct:=hdct) (sn:=sn) (sub:=sub) (ab:=ab) (col:=col) (dd:=dd) (k0:=k0) (k1:=k1) (k2:=k2) (k3:=k3) (k5:=k5) (newId:="ValueError.__new__") (T.hasType #[3]) #[176] (tqa (wpAny_mono (B2 (Q:=fun v s₁=>∃e o vs,v=.ref e/\s₁.heap.get? C=some #[13]/\s₁.heap.get? e=some o/\o.cls=.ref C/\o.data=.fields vs/\vs[1]?=some .none/\X.xe (.ref e) s₁) c J hr hex hg ha hdb he I ?_) (fun v s₃ h₃=>tqa (wpAny_standAt (tqb h₃))) fun _ _ x=>x))))
 refine ⟨μ,Z,M,hE,hM,?_⟩
 unfold gU at h
 cases eg:ga Z M with
 |err=>rw [eg] at h;exact h.elim
 |bad=>rw [eg] at h;exact h.elim
 | ok x0 M1 =>
   rw [eg] at h
   cases x0 with
   | int i =>
     dsimp only at h
     split at h
     ·next hi=>
      have h:XW fa X μ H (.exc c (some i)) Z M1:=h
      refine ⟨i,rfl,hi,fun H1 μ1 e d C' s' x1 hE1 hM1 hm hf nw he hd hde I3=>?_⟩
      rw [m1] at hm
      cases hm
      have ne:upd (upd H1 d #[85]) e #[54] e=some #[54]:=bV
      obtain ⟨⟨o,vs,t0,g1,g2,g3,g4,g5,g6⟩,_,_⟩:=I3.hok e _ ne
      have he':upd H1 d #[85] e=none:=by rw [aO (NM hde)];exact he
      have I4:Inv X pins σ (upd H1 d #[85]) s':=vd I3 ne (fun b hb=>(aO hb).symm) he'
      have hMd:RelM fa X.K μ1 (upd H1 d #[85]) M1:=hM1.alloc hd
      have xd:=Ext.alloc (o:=.xd [(fO c,.int i)]) hM1 hd
      exact ⟨e,o,vs,rfl,I3.bk _ _ hCo,g1,g2,g4,g6,h pins σ _ μ1 s' e C (some d) c (some i) I4 (x1.trans xd) (hE1.ext xd) hMd rfl hf ⟨d,rfl,bV⟩ ⟨nw,he',o,vs,g1,g2,g3,g4,.inl g6⟩⟩
     ·exact h.elim
   |_=>exact h.elim
def we (fa:Fa)(K:Mr)(f:Str):Prop:=∀c C,fa (fq c)=some C->fO c=f->PySem.W.hasDictIn K C=true/\PySem.W.findIn K (.ref C) f=some none
theorem Eu (f:Str)(hc:mS fa X.K)(hf:we fa X.K f)(ha:DE fa X a ga)(hb:attributeBase a f X.env #[281]=eval a X.env):DE fa X (.Attribute a f pos) (jZ f ga):=by
 intro pins s σ H Q I ⟨μ,Z,M,hE,hM,h⟩
 obtain ⟨x0,M1,eg,h⟩:=aW h
 refine FH hb (bc (ha pins s σ H (fun v H1=>∃μ1,Ext μ H μ1 H1/\RelM fa X.K μ1 H1 M1/\Rep fa X.K μ1 H1 x0 v) I ⟨μ,Z,M,hE,hM,by rw [eg];exact fun v H1 μ1 x1 m1 r1=>⟨μ1,x1,m1,r1⟩⟩) fun u s1 ⟨v,H1,I1,rv,μ1,x1,m1,r1⟩=>?_)
 cases x0 with
 | exc c p =>
   cases p with
   |none=>exact h.elim
   | some i =>
     dsimp only at h
     split at h
     ·next ef=>
      obtain ⟨e,C,dx,rfl,hfa,hH,d,rfl,hd⟩:=r1
      obtain rfl:u=Value.ref e:=rv
      obtain ⟨⟨o,vs,h1,h2,h3,h4,h5⟩,_,_⟩:=I1.hok e _ hH
      obtain ⟨mA,hns,hl⟩:=I1.hok d _ hd
      obtain ⟨od,hod,look⟩:=rC hns
      have IA:N6 s1.heap e o C (some od):=⟨h1,h2,by unfold PySem.W.notCls;rw [h4],by rw [h3];exact hod⟩
      have hlf:=hl f
      rw [ef] at hlf
      simp only [Nn,beq_self_eq_true] at hlf
      obtain ⟨u,hu,ru⟩:=qN.some_of hlf
      obtain ⟨t,rfl⟩:=ru
      obtain ⟨f1,f2⟩:=hf c C hfa ef
      unfold getAttr
      refine tqa (wpAny_mkText (vY (s:={s1 with toks:=s1.toks+1}) (r:=.value (.int i t)) I1.kIn IA (hc.g c C hfa).1 (PySem.W.findObj_own f1 f2 rfl (by rw [look f,hu])) ?_))
      exact PySem.W.handed_on rfl ⟨.int i,H1,I1.tok _,⟨t,rfl⟩,h (.int i) H1 μ1 x1 m1 rfl⟩
     ·exact h.elim
 |_=>exact h.elim
end
end LD
namespace LD
open PySem PySem.Spec PyProof.Rows L2
def inC (s:Stmt):Stmt:=match s with
 |.ClassDef _ _ _ (b::_) _ _ _ _ _ _ _=>b
 |_=>s
def HL (z y:Str)(a:GE):GE:=fun Z M=>(a Z M).bind fun d M=>match d with
 |.int i=>if z.length<=1000/\y.length<=1000/\i.natAbs<2^64 then .ok (.str #[297]) M else .bad
 |_=>.bad
theorem Ld {fa:Fa}{X:Cx}{a:Expr}{ga:GE}{pos p1 p2 p3:Pos}{j j2:Nat}{z y:Str}(ha:DE fa X a ga):DE fa X #[133] (HL z y ga):=
 bK (Jp ha) fun σ H Q ⟨μ,Z,M,hE,hM,h⟩=>by
  obtain ⟨x0,M1,eg,h1⟩:=aW h
  cases x0 with
  | int i =>
    have h1:ai (if z.length<=1000/\y.length<=1000/\i.natAbs<2^64 then .ok (.str #[297]) M1 else .bad) #[18]:=h1
    split at h1
    ·next hm=>
     refine ⟨MF hm.1 (by rw [<- dH];decide),μ,Z,M,hE,hM,?_⟩
     rw [eg]
     intro v H1 μ1 x1 m1 r1
     obtain rfl:v=.int i:=r1
     exact ⟨i,rfl,zO hm.1 hm.2.1 hm.2.2,h1 (.str _) H1 μ1 x1 m1 rfl⟩
    ·exact h1.elim
  |_=>exact h1.elim
def HH (K:Mr)(C D fI:Addr)(fld:Str):Bool:=j4 K C fI&&PySem.W.keepIn K (.ref C)&&PySem.W.readsIn K D #[173]&&(PySem.W.specialIn K (.ref D) "__getattribute__"==some #[221])&&setIn K C fld&&PySem.W.keepIn K (.ref fI)
theorem uv {fa:Fa}{w:Nd}{K:Mr}{mg:Str->Option Mq}{h:Heap}{c:Nat}{x qual y z pm:Str}{st:Stmt}{C D fI cd:Addr}{t:Tok}{p1 p2 p3 p4 p5 p6 p7 p8 p9 p10 p11 p12 p13:Pos}{j:Nat}(X:K.In h)(G:h.Ns mainGlobals mg)
 (a:PySem.W.nsIn K mainGlobals x=some (some (.ref C))) (aD:PySem.W.nsIn K mainGlobals "DeedError"=some (some (.ref D))) (hf:fa (fq c)=some C) (b:HH K C D fI (fO c)=true) (h2:PySem.W.findCls K (.ref D) #[173] "__init__"=some (.val #[102]))
 (l:K.lookup fI=some ⟨.type "function",none,.func (PySem.W.fnOf "__init__" qual (gr st) (dw st) (aX st) .none .none .none (.str pm t) none (.ref cd) .none),#[]⟩) (e:PySem.W.codeIn K (.ref cd) qual=true) (S:g9 ["self",y] ["self",y] (aX st))
 (hb:dw st=[.Expr #[57] p9,.Assign [.Attribute (.Name "self" p10) (fO c) p11] (.Name y p12) p13])
 (hev:∀L cd,Dx "DeedError" "__init__" (.Name "self" p3) #[183] p1 p2 p8 (envOfC qual (aX st) L fI cd))
 (hz:z.length<=1000) (hyd:(y==("__debug__":Str))=false) (hyc:(y==("__classdict__":Str))=false) (v0:(aX st).names.lookup ("self":Str)=some .local) (v1:(aX st).names.lookup y=some .local)
 (hg:∀L cd,(envOfC qual (aX st) L fI cd).kindOf "DeedError"=some .globalImplicit)
 (hbd:∀(kV doc pm:Mq) (an:Option Addr) (cdv ct u1 u2:Mq),bindArgs #[200] ⟨[u1,u2],[]⟩=pure ((["self",y]:List Str).zip [u1,u2])) (P:MP) (base:Heap):lz fa P w K mg base c x:=by
 simp only [HH,Ms,beq_iff_eq] at b
 obtain ⟨⟨⟨⟨⟨b1,b2⟩,b3⟩,b4⟩,b5⟩,b6⟩:=b
 have F:=zM l e b6
 exact ⟨C,fI,_,y,_,N0 X G a,hf,b1,b2,l,rfl,F.binds fun kV doc pm an cdv ct us hl=>Kf (p:=fun us=>bindArgs #[200] ⟨us,[]⟩=pure ((["self",y]:List Str).zip us)) (hbd kV doc pm an cdv ct) us hl,
  HG F S hb hev hz hyd hyc v0 v1 hg (N0 X G aD) b3 h2 b4 b1 b5⟩
def FN (K:Mr)(cl:List (Nat×Addr))(f:Str):Bool:=cl.all fun q=>!(fO q.1==f)||(PySem.W.hasDictIn K q.2&&PySem.W.findIn K (.ref q.2) f==some none)
theorem yb {K:Mr}{l cl:List (Nat×Addr)}{D:Addr}{f:Str}(h:FN K cl f=true):we (vX l cl D) K f:=fun c C e ef=>by
 unfold FN at h
 have:=(MC.mp h) _ (jI e)
 simp only [ef,beq_self_eq_true,OM,Bool.false_or,Ms,beq_iff_eq] at this
 exact this
end LD
namespace LD
open PySem PySem.Spec PyProof.Rows L2
mutual
theorem vf:∀d:D,(toPy d).hasDict=false
 |.non=>rfl
 |.bl _=>rfl
 |.int _=>rfl
 |.str _=>rfl
 |.tup ds=>by show PyData.hasDict (.tuple (bF ds))=false;rw [PyData.hasDict];exact nX ds
 |.lst ds=>by show PyData.hasDict (.list (bF ds))=false;rw [PyData.hasDict];exact nX ds
 |.frz _=>rfl
 |.cell _=>rfl
 |.fn _=>rfl
 |.exc _ _=>rfl
theorem nX:∀ds:List D,PyData.hasDictAll (bF ds)=false
 |[]=>rfl
 |d::r=>by show PyData.hasDictAll (toPy d::bF r)=false;rw [PyData.hasDictAll,vf d,nX r];rfl
end
def hU (M:Mem)(x:D):Str:=(toPy (cy 64 M x)).shown
def m8 (M:Mem)(x:D):Bool:=aA 64 (cy 64 M x)&&((toPy (cy 64 M x)).showable&&decide ((hU M x).length<=sizeLine))
def CP:List D->Mem->Res D
 |[x],M=>if m8 M x=true then .ok (.str (hU M x)) M else .bad
 |_,_=>.bad
def iq (s:GA):GE:=fun Z M=>(s Z M).bind fun ds M=>CP ds M
def Jh (fa:Fa)(K:Mr):List V->Hp->VK->Prop:=fun vs H Q=>∃μ M ds,RelM fa K μ H M/\aT fa K μ H ds vs/\ai (CP ds M) #[216]
section
variable {fa:Fa}{X:Cx}{a:Expr}{es:List Expr}{gs:GA}{p pos:Pos}{n:Nat}
theorem HM (hr:cx (n+4) X.A):di X (.builtin "repr") (Jh fa X.K):=by
 intro pins s σ H xs us Q I r h
 obtain ⟨μ,M,ds,hM,rl,h⟩:=h
 match ds,rl,h with
 |[],_,h=>exact h.elim
 |_::_::_,_,h=>exact h.elim
 | [d], rl, h =>
   obtain ⟨v,rfl,hv⟩:=oY rl
   obtain ⟨u,rfl,ru⟩:=vals1 r
   have h:ai (if m8 M d=true then .ok (.str (hU M d)) M else .bad) #[18]:=h
   split at h
   ·next hs=>
    unfold m8 at hs
    rw [Ms,Ms] at hs
    obtain ⟨hp,hw,hl⟩:=hs
    have hl:=of_decide_eq_true hl
    obtain ⟨as,R⟩:=iU I hM 64 64 d v u hp hv ru
    have dep:=(mX 64 _ hp).2
    have un:=hr.un
    have fin:∀(h':Heap) (t:Tok) (tk:Nat),(∀(b:Addr) (o:Obj),s.heap.get? b=some o->h'.get? b=some o)->EP X pins σ Q (.str (hU M d) t) {s with heap:=h',toks:=tk}:=fun h' t tk k=>⟨.str (hU M d),H,I.kept k,⟨t,rfl⟩,bf (v:=.str _) hM h rfl⟩
    unfold hU at fin hl
    have nd:=vf (cy 64 M d)
    generalize toPy (cy 64 M d)=py at R hw dep hl fin nd
    cases R with
    |none=>exact P.repr_of_none (fin _ _ _ fun _ _ e=>e)
    |bool b=>exact P.repr_of_bool (by rw [PyData.shown] at fin;exact fin _ _ _ fun _ _ e=>e)
    |int i t=>exact P.repr_of_int (by rw [PyData.showable] at hw;exact of_decide_eq_true hw) (fin _ _ _ fun _ _ e=>e)
    |str x t=>exact P.repr_of_str (fin _ _ _ fun _ _ e=>e) hl
    |list e1 e2 e3 e4=>exact repr_of_reads' (.list e1 e2 e3 e4) hw (fun z=>by rw [nd] at z;cases z) hr.gd #[0] (fun _ _ e=>e) (fun h' t tk k=>fin h' t tk k) hl
    |tuple e1 e2 e3 e4=>exact repr_of_reads' (.tuple e1 e2 e3 e4) hw (fun z=>by rw [nd] at z;cases z) hr.gd #[0] (fun _ _ e=>e) (fun h' t tk k=>fin h' t tk k) hl
    |dict e1 e2 e3 e4 e5=>cases nd
   ·exact h.elim
theorem Gk (hr:cx (n+4) X.A)(hg:Gl X "repr")(hm:X.mg "repr"=none)(hs:DA fa X (a::es) gs)(he:notStar a=true)(hpl:es.all notStar=true) :
 DE fa X (.Call (.Name "repr" p) (a::es) [] pos) (iq gs):=
 bK (iI (HM (fa:=fa) hr) hg hm #[3] hs #[1] #[1] (bO he) (dQ hpl)) fun σ H Q ⟨μ,Z,M,hE,hM,h⟩=>tj hE hM h fun ds M1 vs H1 μ1 x1 hE1 hM1 r1 h1=>⟨μ1,M1,ds,hM1,r1,ki h1 x1⟩
end
end LD
namespace LD
open PySem PySem.Spec PyProof.Rows L2
section
variable {prog:MP}{w:Nd}{A:Nr}{E:Mq->Mx->Prop}{s:Mx}
theorem nK {t sl:Addr}{items:Array Mq}{k:Tok}{Q:Mq->Mx->Prop}(ht:IsTup s.heap t items)(hs:s.heap.IsSliceOf sl .none .none (.int 1 k))
 (h:Q (.ref t) s):wpAny #[8] A (getItem (.ref t) (.ref sl)) Q E s:=by
 obtain ⟨os,hos,hcs,hds⟩:=id hs
 have hTs:s.TypeIs (.ref sl) "slice":=⟨os,hos,hcs⟩
 unfold getItem
 try with_reducible refine tqo ?_
 first|refine tqa (tqb ?_)|skip
 refine tqa #[129]
 refine tqa (wpAny_callSpecial?_slot (name:=Str.ofString "__getitem__") ht.typeIs Na
  #[40])
 show wpAny _ _ #[197] _ _ s
 refine tqa (tupleItemsOf_ ht ?_)
 refine tqa (wpAny_typeOf hTs ?_)
 rw [if_pos #[1]]
 unfold Builtin.Slice.sliceApplied Builtin.Slice.sliceFields
 refine tqa (tqa (tqa (tqf hos hds (x:=.none) rfl (tqa (tqf hos hds (x:=.none) rfl (tqa (tqf hos hds (x:=.int 1 k) rfl (tqb ?_))))))))
 refine tqa (slicePart_int ?_)
 show wpAny _ _ (if ((1:Int)==0)=true then _ else _) _ _ s
 rw [if_neg #[1]]
 refine tqa #[337]
 have ea:Builtin.Slice.sliceAdjust none none 1 (items.size:Int)=(0,(items.size:Int)):=by simp [Builtin.Slice.sliceAdjust]
 have ep:Builtin.Slice.slicePlaces 0 (items.size:Int) 1=items.size:=by
  unfold Builtin.Slice.slicePlaces
  rw [if_pos #[1]]
  split
  ·simp
  ·omega
 show wpAny _ _ (match Builtin.Slice.sliceAdjust none none 1 (items.size:Int) with|(lo,hi)=>pure (lo,(1:Int),Builtin.Slice.slicePlaces lo hi 1)) _ _ s
 rw [ea]
 show wpAny _ _ (pure ((0:Int),(1:Int),Builtin.Slice.slicePlaces (0:Int) (items.size:Int) 1)) _ _ s
 rw [ep]
 refine tqb ?_
 show wpAny _ _ (if ((0:Int)==0&&(1:Int)==1&&items.size==items.size)=true then _ else _) _ _ s
 rw [if_pos (by simp)]
 refine tqa (m:=Builtin.Tuple.tupleIsExact (.ref t)) (tqa (wpAny_typeOf ht.typeIs (tqb ?_)))
 show wpAny _ _ (if (true:Bool)=true then _ else _) _ _ s
 rw [if_pos rfl]
 exact tqa (wpAny_rule #[78])
end
section
variable {fa:Fa}{X:Cx}{a st:Expr}{ga gs:GE}{pos p2:Pos}
def qv (a st:GE):GE:=fun Z M=>(a Z M).bind fun x M=>(st Z M).bind fun y M=>match x,y with
 |.tup xs,.int i=>if i=1 then .ok (.tup xs) M else if i=-1 then .ok #[292] M else .bad
 |_,_=>.bad
def Le (K:Mr):V->V->Hp->VK->Prop:=fun x y H Q=>∃a xs,x=.ref a/\dO K H a xs/\((y=.int 1/\Q (.ref a) H)\/(y=.int (-1)/\∀p,H p=none->Q (.ref p) (upd H p #[292])))
theorem GU {ta:TE}(ha:PE X a ta){ts:TE}(hst:PE X st ts) :
 PE X (.Subscript a #[110] pos) (fun σ H Q=>ta σ H fun x H1=>ts σ H1 fun y H2=>Le X.K x y H2 Q):=by
 intro pins s σ H Q I h
 refine Subscript_ #[63]
 refine wpAny_Slice ?_
 rw [evalPart_none]
 refine tqb ?_
 refine tqb ?_
 rw [evalPart_some]
 refine bc (hst pins s1 σ H1 _ I1 q1) fun vu s3 ⟨y,H3,I3,r3,b,xs,ex,hx,q⟩=>?_
 subst ex
 cases r1
 have I4:Inv X pins σ H3 {s3 with heap:=s3.heap.push {cls:=.type "slice",data:=.fields #[.none,.none,vu]}}:=I3.kept (t':=s3.toks) fun b ob q=>Mp _ q
 have hsl:(s3.heap.push {cls:=.type "slice",data:=.fields #[.none,.none,vu]}).IsSliceOf s3.heap.objs.size .none .none vu:=Heap.IsSliceOf.new ..
 obtain ⟨its,r,ht,hz⟩:=I4.tuple hx
 have hlen:=r.length
 have hg:wpAny #[2] X.A (getItem (.ref b) #[204]) #[27] X.xe {s3 with heap:=s3.heap.push {cls:=.type "slice",data:=.fields #[.none,.none,vu]}}:=by
  rcases q with ⟨ey,q⟩|⟨ey,q⟩
  ·subst ey
   obtain ⟨k,rfl⟩:=r3
   exact nK ht hsl ⟨.ref b,H3,I4,rfl,q⟩
  ·subst ey
   obtain ⟨k,rfl⟩:=r3
   refine ju ht hsl ?_ (by rw [MB,<- hlen];exact hz)
   refine ⟨.ref _,_,I4.laid (t':=s3.toks) (o:=.tup xs.reverse) #[158] (My _) ?_,rfl,q _ (I4.hok.fresh (My _))⟩
   exact ⟨by simpa using hz,_,lE r,IsTup.new _ _⟩
 show wpAny #[2] X.A (subscriptTail a #[110] (.ref b) #[204]) #[27] X.xe {s3 with heap:=s3.heap.push {cls:=.type "slice",data:=.fields #[.none,.none,vu]}}
 exact tail_any (ops:=[.ref b,.ref s3.heap.objs.size]) ht.typeIs Na.lookup hg (by with_unfolding_all rfl)
theorem Jf (ha:DE fa X a ga)(hs:DE fa X st gs):DE fa X (.Subscript a #[110] pos) (qv ga gs):=
 bK (GU ha hs) fun σ H Q ⟨μ,Z,M,hE,hM,h⟩=>t2 hE hM h fun x y M2 v u H2 μ2 x2 hE2 hM2 r1 r2 h2=>by
  cases x with
  | tup ds =>
    cases y with
    | int i =>
      obtain ⟨b,vs,rfl,hs,hr⟩:=id r1
      obtain rfl:u=.int i:=r2
      refine ⟨b,vs,rfl,hs,?_⟩
      have h2:ai (if i=1 then Res.ok (.tup ds) M2 else if i=-1 then .ok (.tup ds.reverse) M2 else .bad) #[18]:=h2
      by_cases e1:i=1
      ·rw [if_pos e1] at h2
       exact .inl ⟨by rw [e1],bf hM2 (bp.ext h2 x2) r1⟩
      ·rw [if_neg e1] at h2
       by_cases e2:i=-1
       ·rw [if_pos e2] at h2
        exact .inr ⟨by rw [e2],gL hM2 hr.reverse (bp.ext h2 x2)⟩
       ·rw [if_neg e2] at h2
        exact h2.elim
    |_=>exact h2.elim
  |_=>exact h2.elim
end
end LD
namespace LD
open PySem PySem.Spec PyProof.Rows L2
def kQ (k1 k2:Nat)(h:GS):Fl->Mem->Res Fl
 | .exc x Z, M => match x with
   |.exc c _=>if c=k1\/c=k2 then (h Z M).bind fun fl M=>match fl with|.exc _ _=>.bad|fl=>.ok fl M else .bad
   |_=>.bad
 |fl,M=>.ok fl M
def mn (b:GS)(k1 k2:Nat)(h:GS):GS:=fun Z M=>(b Z M).bind (kQ k1 k2 h)
def wj (fa:Fa)(K:Mr)(mg:Str->Option Mq)(x1 x2:Str)(k1 k2:Nat):Prop:=∃D1 D2,mg x1=some (.ref D1)/\mg x2=some (.ref D2)/\∀c C,c=k1\/c=k2->fa (fq c)=some C->PySem.W.exmAny K (.ref C) [.ref D1,.ref D2]=some true
section
variable {fa:Fa}{X:Cx}{pos np np' tp hp:Pos}{x1 x2:Str}{k1 k2 k:Nat}{body suite:List Stmt}{b0:Stmt}{gB gH:GS}
theorem Ei (h2:wj fa X.K X.mg x1 x2 k1 k2)(hex:X.ex=[])(hst:X.stack=X.env::X.outer)(hfr:X.env.frame=some X.env.locals)
 (hg:Gl X x1) (hg':Gl X x2) (hdb:(x1==("__debug__":Str))=false) (hdb':(x2==("__debug__":Str))=false) (hb:∀pn E,kJ fa (ku X pn E) body gB) (hh:∀v E,kJ fa (pH X v E) (b0::suite) gH) :
 DS fa X (.Try body [.ExceptHandler (some (.Tuple [.Name x1 np,.Name x2 np'] k tp)) none (b0::suite) hp] [] [] pos) (mn gB k1 k2 gH):=by
 intro pins s σ H D' I ⟨μ,Z,M,hE,hM,h⟩
 obtain ⟨D1,D2,m1,m2,hm⟩:=h2
 obtain ⟨fl,M1,e,q⟩:=aW h
 refine wpAny_Try_except (wpAny_mono (hb (X.pn++pins) (fun e s₁=>wpAny #[2] X.A (noteFrame e X.env) (fun _ s₂=>wpAny #[2] X.A (setFlight e none) (fun _ s₃=>wpAny #[2] X.A (handleBy e X.env [.ExceptHandler (some (.Tuple [.Name x1 np,.Name x2 np'] k tp)) none (b0::suite) hp]) (SP X pins D') X.xe s₃) X.xe s₂) X.xe s₁) [] s σ H D' (rG I _) ⟨μ,Z,M,hE,hM,?_⟩) (fun f s1 z=>?_) fun _ _ z=>z)
 ·rw [e]
  cases fl with
  |next ρ'=>exact q
  |ret d=>exact q
  | exc y ρ1 =>
    intro pins' σ' H' μ' s' a C dx c p I1 ye hE1 hM1 ey hcC hn fl
    have I1:=I1.pins_of (pins':=[]) (fun p hp=>nomatch hp)
    refine qj (P:=X.prog) (w:=X.w) (base:=X.base) (New:=kN (ku X (X.pn++pins) _)) (outer:=X.outer) (by rw [<- hst];exact I1.ok.frames) (by rw [<- hst];exact I1.stack) hfr fl (fun b z=>(lU I1 hex (Oc z)).1) I1.hok (by rw [<- hst];exact I1.stkFree) fun h' ch hch u hok fl2=>?_
    have I2:Inv X pins σ' H' {s' with heap:=h'}:=ur (d7 I1) #[286] (by rw [hst];exact u) hok
    obtain ⟨nw,ha,o,vs,h1,h2,h3,h4,tr⟩:=id fl2
    have hnc:PySem.W.notCls o=true:=by unfold PySem.W.notCls;rw [h4]
    subst ey
    have q:ai (kQ k1 k2 gH (.exc (.exc c p) ρ1) M1) #[290]:=q
    have hck:c=k1\/c=k2:=by
     by_cases z:c=k1\/c=k2
     ·exact z
     ·unfold kQ at q
      dsimp only at q
      rw [if_neg z] at q
      exact q.elim
    unfold kQ at q
    dsimp only at q
    rw [if_pos hck] at q
    obtain ⟨fl3,M2,e3,q3⟩:=aW q
    have IA:∃od,N6 h' a o C od:=by
     cases p with
     | none =>
       have hn:dx=none:=hn
       exact ⟨none,h1,h2,hnc,by rw [h3,hn];trivial⟩
     | some k =>
       obtain ⟨d,rfl,hd⟩:=hn
       obtain ⟨mA,⟨od,es,ep,ed,_⟩,_⟩:=hok d _ hd
       exact ⟨some od,h1,h2,hnc,by rw [h3];exact ed⟩
    obtain ⟨od,IA⟩:=IA
    refine wpAny_handleBy_cons (codeAny_handlers_test (wpAny_Tuple_spliced ?_)) (by intro z;cases z)
    refine OZ (gq (jf I2 (.ref a) X.xe) hg m1 ?_ hdb)
    refine OZ (gq (jf I2 (.ref a) X.xe) hg' m2 ?_ hdb')
    refine Calls.spliced_nil ⟨by show 2<=sizeLine;decide,?_⟩
    have hf:H' h'.objs.size=none:=I2.hok.fresh (My _)
    have kp:∀b u,h'.get? b=some u->#[69].get? b=some u:=fun b u e=>Mp _ e
    have ep:#[69].get? h'.objs.size=some {cls:=.type "tuple",data:=.seq [Value.ref D1,Value.ref D2].toArray}:=MG _ rfl
    have I3:Inv X pins σ' #[88] {s' with heap:=h'.push {cls:=.type "tuple",data:=.seq [Value.ref D1,Value.ref D2].toArray}}:=I2.laid (t':=s'.toks) kp (My _) ⟨by show 2<=sizeLine;decide,[.ref D1,.ref D2],.cons rfl (.cons rfl .nil),⟨_,ep,rfl,_,rfl⟩⟩
    have LT:OE #[2] h' (typeOf (.ref a)) (.ref C):=IA.type
    refine (PySem.W.exm_tup2 (M:=model X.prog X.w) I3.kIn (LT.keeps kp) ep (hm c C hck hcC)).at ?_
    have xa:Ext μ' H' μ' #[88]:=Ext.alloc hM1 hf
    have na:a≠h'.objs.size:=fun z=>absurd (MJ h1) #[244]
    have fl3':mf (kN (ku X (X.pn++pins) X.xe)) C dx a #[69] #[88]:=by
     refine ⟨nw,by rw [aO na];exact ha,o,vs,kp _ _ h1,h2,h3,h4,?_⟩
     rcases tr with t|⟨T,oT,ts,t1,t2,t3,t4,t5,t6,t7⟩
     ·exact .inl t
     ·exact .inr ⟨T,oT,ts,t1,t2,t3,by rw [aO (fun z=>absurd (MJ t5) #[244])];exact t4,kp _ _ t5,t6,t7⟩
    refine codeAny_handlers_suite (pK fl3' ?_)
    refine wpAny_mono (hh (.ref a) _ pins _ σ' #[88] D' (jf I3 (.ref a) _) ⟨μ',_,M1,hE1.ext xa,hM1.alloc hf,?_⟩) (fun f s5 z=>?_) fun _ _ z=>z
    ·rw [e3]
     cases fl3 with
     |next ρ2=>exact fun σ2 H2 μ2 x2 hE2 hM2=>q3 σ2 H2 μ2 ((ye.trans xa).trans x2) hE2 hM2
     |ret d=>exact bp.ext q3 (ye.trans xa)
     |exc=>exact q3.elim
    ·dsimp only
     cases f with
     | next =>
       obtain ⟨σ5,H5,I5,z⟩:=z
       exact ⟨_,H5,gW I2.ok.hd I5,z⟩
     | ret u =>
       obtain ⟨v,σ5,H5,I5,r5,z⟩:=z
       exact ⟨v,_,H5,gW I2.ok.hd I5,r5,z⟩
     |brk=>obtain ⟨_,H5,I5,z⟩:=z;exact ⟨_,H5,gW I2.ok.hd I5,z⟩
     |cont=>obtain ⟨_,H5,I5,z⟩:=z;exact ⟨_,H5,gW I2.ok.hd I5,z⟩
 ·cases f with
  |next=>obtain ⟨σ5,H5,I5,z⟩:=z;exact wpAny_execs_nil ⟨σ5,H5,d7 I5,z⟩
  |ret u=>obtain ⟨v,σ5,H5,I5,r5,z⟩:=z;exact ⟨v,σ5,H5,d7 I5,r5,z⟩
  |brk=>obtain ⟨σ5,H5,I5,z⟩:=z;exact ⟨σ5,H5,d7 I5,z⟩
  |cont=>obtain ⟨σ5,H5,I5,z⟩:=z;exact ⟨σ5,H5,d7 I5,z⟩
end
def KN (K:Mr)(cl:List (Nat×Addr))(D1 D2:Addr)(k1 k2:Nat):Bool:=cl.all fun q=>!(q.1==k1||q.1==k2)||PySem.W.exmAny K (.ref q.2) [.ref D1,.ref D2]==some true
theorem FY {K:Mr}{l cl:List (Nat×Addr)}{D D1 D2:Addr}{mg:Str->Option Mq}{x1 x2:Str}{k1 k2:Nat}(m1:mg x1=some (.ref D1))(m2:mg x2=some (.ref D2))(h:KN K cl D1 D2 k1 k2=true):wj (vX l cl D) K mg x1 x2 k1 k2:=by
 refine ⟨D1,D2,m1,m2,fun c C hc e=>?_⟩
 have:=MC.mp h _ (jI e)
 rw [Oj] at this
 rcases this with z|z
 ·have e1:(c==k1||c==k2)=true:=by simpa using hc
  have z:(!(c==k1||c==k2))=true:=z
  rw [e1] at z
  cases z
 ·exact eq_of_beq z
end LD
namespace LD
open PySem PySem.Spec PyProof.Rows L2
inductive En where
 |fn (i:Nat) (r:Bool)|int (i:Int)|dct (fs:List (Str×Nat))|xc (k:Nat)|xi (k:Nat)|xk (k:Nat)|de|bl
structure Ds (fa:Fa) (P:MP) (w:Nd) (K:Mr) (mg:Str->Option Mq) (base:Heap) (T:List (Str×En)):Prop where
 fn:∀{x:Str}{i:Nat}{r:Bool},T.lookup x=some (.fn i r)->∀ad,fa i=some ad->mg x=some (.ref ad)
 int:∀{x:Str}{i:Int},T.lookup x=some (.int i)->∃t,mg x=some (.int i t)
 dct:∀{x:Str}{fs:List (Str×Nat)},T.lookup x=some (.dct fs)->∃ad kvs,mg x=some (.ref ad)/\gv K w.params ad kvs/\fh fa kvs fs
 xc:∀{x:Str}{k:Nat},T.lookup x=some (.xc k)->∃C,mg x=some (.ref C)/\fa (fq k)=some C/\PySem.W.excIn K C mK "ValueError.__new__"=true/\PySem.W.keepIn K (.ref C)=true
 xi:∀{x:Str}{k:Nat},T.lookup x=some (.xi k)->lz fa P w K mg base k x/\∃D,mg x=some (.ref D)/\fa (fq k)=some D
 xk:∀{x:Str}{k:Nat},T.lookup x=some (.xk k)->∃D,mg x=some (.ref D)/\fa (fq k)=some D
 de:∀{x:Str},T.lookup x=some .de->∃D,mg x=some (.ref D)/\fa 999=some D
 bl:∀{x:Str},T.lookup x=some .bl->mg x=none
 xcs:mS fa K
structure G where
 T:List (Str×En)
 tw:List (Str×Str×Nat×Nat)
 xf:List Str
 cel:List (Nat×Nat×Nat)
 txt:List (Nat×Nat×Nat)
 c:Call
 N:List Str
 sc:Scope
 lv:Nat
structure eX (fa:Fa) (n:Nat) (g:G) (X:Cx):Prop where
 N:X.N=g.N
 nd:g.N.Nodup
 sc:X.env.scope=g.sc
 T:Ds fa X.prog X.w X.K X.mg X.base g.T
 tw:∀q∈g.tw,wj fa X.K X.mg q.1 q.2.1 q.2.2.1 q.2.2.2
 xf:∀f∈g.xf,we fa X.K f
 fn:g.lv≠1->∀x,X.fn x=true
 calm:0<g.lv->X.calm=true
 C:0<g.lv->∀f,jk fa X.prog X.w X.K X.mg X.base n f (g.c f)
 hr:0<g.lv->cx (n+4) X.A
 top:2<=g.lv->X.ex=[]/\X.stack=X.env::X.outer/\X.env.frame=some X.env.locals/\X.env.scope.kind=.function
 po:g.lv=2->PassesOwn #[2] X.A X.env X.xe
structure Rc where
 e:G->Expr->Option GE
 t:G->Expr->Option GT
 x:G->Expr->Option GE
 w:G->Expr->Expr->Option GW
 s:G->Stmt->Option GS
abbrev fL:=Rc->G->Expr->Option GE
abbrev IB:=Rc->G->Expr->Option GT
abbrev u5:=Rc->G->Expr->Expr->Option GW
abbrev nU:=Rc->G->Stmt->Option GS
structure j6 (fa:Fa) (n:Nat) (R:Rc):Prop where
 e:∀{g:G}{X:Cx}{a:Expr}{ga:GE},eX fa n g X->R.e g a=some ga->DE fa X a ga
 t:∀{g:G}{X:Cx}{a:Expr}{ga:GT},eX fa n g X->R.t g a=some ga->DT fa X a ga
 x:∀{g:G}{X:Cx}{a:Expr}{ga:GE},eX fa n g X->R.x g a=some ga->DX fa X a ga
 w:∀{g:G}{X:Cx}{t a:Expr}{ga:GW},eX fa n g X->R.w g t a=some ga->DI fa X t a ga
 s:∀{g:G}{X:Cx}{a:Stmt}{ga:GS},eX fa n g X->R.s g a=some ga->DS fa X a ga
def SE (r:fL):Prop:=∀{fa:Fa}{n:Nat}{R:Rc},j6 fa n R->∀{g:G}{X:Cx},eX fa n g X->∀{a:Expr}{ga:GE},r R g a=some ga->DE fa X a ga
def ST (r:IB):Prop:=∀{fa:Fa}{n:Nat}{R:Rc},j6 fa n R->∀{g:G}{X:Cx},eX fa n g X->∀{a:Expr}{ga:GT},r R g a=some ga->DT fa X a ga
def SX (r:fL):Prop:=∀{fa:Fa}{n:Nat}{R:Rc},j6 fa n R->∀{g:G}{X:Cx},eX fa n g X->∀{a:Expr}{ga:GE},r R g a=some ga->DX fa X a ga
def SW (r:u5):Prop:=∀{fa:Fa}{n:Nat}{R:Rc},j6 fa n R->∀{g:G}{X:Cx},eX fa n g X->∀{t a:Expr}{ga:GW},r R g t a=some ga->DI fa X t a ga
def SS (r:nU):Prop:=∀{fa:Fa}{n:Nat}{R:Rc},j6 fa n R->∀{g:G}{X:Cx},eX fa n g X->∀{a:Stmt}{ga:GS},r R g a=some ga->DS fa X a ga
structure Rs where
 e:List fL
 t:List IB
 x:List fL
 w:List u5
 s:List nU
def It (rs:Rs):Nat->Rc
 |0=>⟨fun _ _=>none,fun _ _=>none,fun _ _=>none,fun _ _ _=>none,fun _ _=>none⟩
 |n+1=>⟨fun g a=>rs.e.findSome? fun r=>r (It rs n) g a,fun g a=>rs.t.findSome? fun r=>r (It rs n) g a,fun g a=>rs.x.findSome? fun r=>r (It rs n) g a,fun g t a=>rs.w.findSome? fun r=>r (It rs n) g t a,fun g a=>rs.s.findSome? fun r=>r (It rs n) g a⟩
def AllP {α:Type}(p:α->Prop):List α->Prop
 |[]=>True
 |a::l=>p a/\AllP p l
theorem AllP.mem {α:Type}{p:α->Prop}:∀{l:List α},AllP p l->∀a∈l,p a
 |_::_,h,a,m=>(Mz.mp m).elim (fun e=>e ▸ h.1) (AllP.mem h.2 a)
structure Cu (rs:Rs):Prop where
 e:AllP SE rs.e
 t:AllP ST rs.t
 x:AllP SX rs.x
 w:AllP SW rs.w
 s:AllP SS rs.s
theorem Dw {fa:Fa}{n:Nat}{rs:Rs}(h:Cu rs):∀k,j6 fa n (It rs k)
 |0=>⟨#[34],#[34],#[34],#[34],#[34]⟩
 | k + 1 => by
   have ih:=Dw (n:=n) (fa:=fa) h k
   refine ⟨fun o z=>?_,fun o z=>?_,fun o z=>?_,fun o z=>?_,fun o z=>?_⟩
   ·obtain ⟨r,m,e⟩:=NU z;exact h.e.mem r m ih o e
   ·obtain ⟨r,m,e⟩:=NU z;exact h.t.mem r m ih o e
   ·obtain ⟨r,m,e⟩:=NU z;exact h.x.mem r m ih o e
   ·obtain ⟨r,m,e⟩:=NU z;exact h.w.mem r m ih o e
   ·obtain ⟨r,m,e⟩:=NU z;exact h.s.mem r m ih o e
theorem ob {α β:Type}{a:Option α}{f:α->Option β}{r:β}(h:a.bind f=some r):∃x,a=some x/\f x=some r:=NQ.mp h
theorem oi {α:Type}{c:Prop}[Decidable c]{a:Option α}{r:α}(h:(if c then a else none)=some r):c/\a=some r:=by
 split at h
 ·exact ⟨by assumption,h⟩
 ·cases h
def KC:Str:="__debug__"
def jt (g:G)(x:Str):Bool:=g.sc.names.lookup x==some .globalImplicit&&!(x==KC)
def vr (g:G)(x:Str):Option Nat:=if (g.sc.names.lookup x==some .local||g.sc.names.lookup x==some .cell||g.sc.names.lookup x==some .free)&&!(x==KC)&&!#[169] then g.N.findIdx? (·==x) else none
section
variable {fa:Fa}{n:Nat}{g:G}{X:Cx}{R:Rc}(o:eX fa n g X)
include o
theorem dj {x:Str}(h:jt g x=true):Gl X x/\#[6]=false:=by
 unfold jt at h
 rw [Ms,Oo] at h
 exact ⟨by show X.env.scope.names.lookup x=_;rw [o.sc];exact eq_of_beq h.1,h.2⟩
theorem sI {x:Str}{i:Nat}(h:g.N.findIdx? (·==x)=some i):X.N[i]?=some x:=by
 obtain ⟨hi,h1,_⟩:=Px.mp h
 rw [o.N,NA hi,eq_of_beq h1]
theorem CA {x:Str}{i:Nat}(h:vr g x=some i):X.N[i]?=some x/\rZ X.env.scope x/\#[6]=false/\#[169]=false:=by
 obtain ⟨c,h⟩:=oi h
 simp only [Ms,Oj,Oo] at c
 refine ⟨sI o h,?_,c.1.2,c.2⟩
 unfold rZ
 rw [o.sc]
 rcases c.1.1 with (z|z)|z
 ·exact .inl (eq_of_beq z)
 ·exact .inr (.inl (eq_of_beq z))
 ·exact .inr (.inr (eq_of_beq z))
omit o
theorem eX.rm (o:eX fa n g X)(h:0<g.lv):Rm X:=Ej (o.hr h)
end
def cA (f:Expr->Option GE):List Expr->Option GA
 |[]=>some ah
 |a::r=>if notStar a=true then (f a).bind fun x=>(cA f r).bind fun y=>some (aa x y) else none
theorem kA {fa:Fa}{X:Cx}{f:Expr->Option GE}(hf:∀{a:Expr}{ga:GE},f a=some ga->DE fa X a ga):∀{es:List Expr}{gs:GA},cA f es=some gs->DA fa X es gs/\es.all notStar=true
 |[],_,h=>by cases h;exact ⟨Ii,rfl⟩
 | a :: r, _, h => by
   obtain ⟨c,h⟩:=oi h
   obtain ⟨x,hx,h⟩:=ob h
   obtain ⟨y,hy,h⟩:=ob h
   cases h
   obtain ⟨h1,h2⟩:=kA hf hy
   exact ⟨Fx (hf hx) h1 (bO c),by rw [NB,c,h2];rfl⟩
def u3 (f:Expr->Option GE)(k:GE->GE->GE):List Expr->Option GE
 |[]=>none
 |[a]=>f a
 |a::b::r=>(f a).bind fun x=>(u3 f k (b::r)).bind fun y=>some (k x y)
theorem wd {fa:Fa}{X:Cx}{pos:Pos}{f:Expr->Option GE}(hf:∀{a:Expr}{ga:GE},f a=some ga->DE fa X a ga):∀{es:List Expr}{ge:GE},u3 f dX es=some ge->DE fa X (.BoolOp .And es pos) ge
 |[a],_,h=>Dk (hf h)
 | a :: b :: r, _, h => by
   obtain ⟨x,hx,h⟩:=ob h
   obtain ⟨y,hy,h⟩:=ob h
   cases h
   exact J4 (hf hx) (wd hf hy)
theorem Ak {fa:Fa}{X:Cx}{pos:Pos}{f:Expr->Option GE}(hf:∀{a:Expr}{ga:GE},f a=some ga->DE fa X a ga):∀{es:List Expr}{ge:GE},u3 f KA es=some ge->DE fa X (.BoolOp .Or es pos) ge
 |[a],_,h=>Dk (hf h)
 | a :: b :: r, _, h => by
   obtain ⟨x,hx,h⟩:=ob h
   obtain ⟨y,hy,h⟩:=ob h
   cases h
   exact LQ (hf hx) (Ak hf hy)
def tf (f:Expr->Option GT)(k:GT->GT->GT):List Expr->Option GT
 |[]=>none
 |[a]=>f a
 |a::b::r=>(f a).bind fun x=>(tf f k (b::r)).bind fun y=>some (k x y)
theorem vk {fa:Fa}{X:Cx}{pos:Pos}{f:Expr->Option GT}(hf:∀{a:Expr}{ga:GT},f a=some ga->DT fa X a ga):∀{es:List Expr}{ge:GT},tf f gO es=some ge->DW fa X (.BoolOp .And es pos) ge
 |[a],_,h=>Ff (hf h)
 | a :: b :: r, _, h => by
   obtain ⟨x,hx,h⟩:=ob h
   obtain ⟨y,hy,h⟩:=ob h
   cases h
   exact HW (hf hx) (vk hf hy)
theorem yx {fa:Fa}{X:Cx}{pos:Pos}{f:Expr->Option GT}(hf:∀{a:Expr}{ga:GT},f a=some ga->DT fa X a ga):∀{es:List Expr}{ge:GT},tf f eh es=some ge->DW fa X (.BoolOp .Or es pos) ge
 |[a],_,h=>HV (hf h)
 | a :: b :: r, _, h => by
   obtain ⟨x,hx,h⟩:=ob h
   obtain ⟨y,hy,h⟩:=ob h
   cases h
   exact JO (hf hx) (yx hf hy)
def wu:fL:=fun _ g e=>match e with
 | .Name x _ => match vr g x with
   |some i=>some (ae i)
   |none=>if jt g x=true then (match g.T.lookup x with|some (.int i)=>some (gC (.int i))|_=>none) else none
 |_=>none
theorem AM:SE wu:=by
 intro fa n R rc g X o a ga h
 unfold wu at h
 split at h
 ·split at h
  ·next e=>cases h;obtain ⟨a,b,c,d⟩:=CA o e;exact JR a b c d
  ·obtain ⟨c,h⟩:=oi h
   obtain ⟨hg,hd⟩:=dj o c
   split at h
   ·next e=>cases h;exact Er hg (o.T.int e) hd
   ·cases h
 ·cases h
def sU:fL:=fun _ _ e=>match e with
 |.Constant (.int i) _ _=>some (gC (.int i))
 |.Constant (.bool i) _ _=>some (gC (.bl i))
 |.Constant (.str i) _ _=>some (gC (.str i))
 |.Constant .none _ _=>some (gC .non)
 |_=>none
theorem yp:SE sU:=by
 intro fa n R rc g X o a ga h
 unfold sU at h
 split at h
 ·cases h;exact J0
 ·cases h;exact Im
 ·cases h;exact JT
 ·cases h;exact JW
 ·cases h
def G.cl (g:G)(p:Pos):Bool:=g.cel.contains (p.line,p.col,p.endCol)
def G.tx (g:G)(p:Pos):Bool:=g.txt.contains (p.line,p.col,p.endCol)
def Dq:Operator->Option lA
 |.Add=>some .add|.Sub=>some .sub|.Mult=>some .mul|.FloorDiv=>some .fdiv|.Mod=>some .mod|.Pow=>some .pow|_=>none
theorem Cp {q:Operator}{b:lA}(h:Dq q=some b):q=binOp b:=by cases q<;>cases h<;>rfl
def iZ:CmpOp->j7
 |.Eq=>.eq|.NotEq=>.ne|.Lt=>.lt|.LtE=>.le|.Gt=>.gt|.GtE=>.ge|.Is=>.isN|.IsNot=>.notN|.In=>.isin|.NotIn=>.notin
theorem dS (q:CmpOp):fU (iZ q)=q:=by cases q<;>rfl
def AL:fL:=fun R g e=>match e with
 |.BinOp a q b p=>(Dq q).bind fun q=>(R.e g a).bind fun x=>(R.e g b).bind fun y=>some (au (g.cl p) q x y)
 |.UnaryOp .USub a _=>(R.e g a).bind fun x=>some (fz x)
 |.UnaryOp .Not a _=>(R.e g a).bind fun x=>some (HJ x)
 |.BoolOp .And es _=>u3 (R.e g) dX es
 |.BoolOp .Or es _=>u3 (R.e g) KA es
 |.IfExp c a b _=>(R.t g c).bind fun t=>(R.e g a).bind fun x=>(R.e g b).bind fun y=>some (fR t x y)
 |.Tuple es _ _=>(cA (R.e g) es).bind fun s=>some (bL s)
 |.List es p=>(cA (R.e g) es).bind fun s=>some (aP (g.cl p) s)
 |_=>none
theorem DQ:SE AL:=by
 intro fa n R rc g X o a ga h
 unfold AL at h
 split at h
 ·obtain ⟨q,hq,h⟩:=ob h;obtain ⟨x,hx,h⟩:=ob h;obtain ⟨y,hy,h⟩:=ob h;cases h
  rw [Cp hq];exact J3 _ _ #[92] #[155]
 ·obtain ⟨x,hx,h⟩:=ob h;cases h;exact JX #[92]
 ·obtain ⟨x,hx,h⟩:=ob h;cases h;exact JV #[92]
 ·exact wd (rc.e o) h
 ·exact Ak (rc.e o) h
 ·obtain ⟨t,ht,h⟩:=ob h;obtain ⟨x,hx,h⟩:=ob h;obtain ⟨y,hy,h⟩:=ob h;cases h
  exact JZ (rc.t o ht) #[92] #[155]
 ·obtain ⟨s,hs,h⟩:=ob h;cases h;exact JS (kA (rc.e o) hs).1
 ·obtain ⟨s,hs,h⟩:=ob h;cases h;exact JY _ (kA (rc.e o) hs).1
 ·cases h
def Ci (g:G)(x:Str):Option (List (Str×Nat)):=if jt g x=true then (match g.T.lookup x with|some (.dct fs)=>some fs|_=>none) else none
theorem uI {fa:Fa}{n:Nat}{g:G}{X:Cx}(o:eX fa n g X){x:Str}{fs:List (Str×Nat)}(h:Ci g x=some fs):(∃ad kvs,X.mg x=some (.ref ad)/\gv X.K X.w.params ad kvs/\fh fa kvs fs)/\Gl X x/\#[6]=false:=by
 obtain ⟨c,h⟩:=oi h
 split at h
 ·next e=>cases h;exact ⟨o.T.dct e,dj o c⟩
 ·cases h
def uS (R:Rc)(g:G):Expr->Option GE
 | .Compare a [.NotIn] [.Name x p] _ => match Ci g x with
   |some fs=>(R.e g a).bind fun y=>some (jx fs y)
   |none=>if 0<g.lv then (R.e g a).bind fun y=>(R.e g (.Name x p)).bind fun z=>some (aL .notin y z) else none
 |.Compare a [q] [b] _=>if 0<g.lv/\behindInMarks q b=false then (R.e g a).bind fun y=>(R.e g b).bind fun z=>some (aL (iZ q) y z) else none
 |.Compare a [q,r] [b,c] _=>if 0<g.lv/\behindInMarks r c=false then (R.e g a).bind fun y=>(R.e g b).bind fun z=>(R.e g c).bind fun u=>some (lX (iZ q) (iZ r) y z u) else none
 |_=>none
def AU:fL:=uS
theorem DY:SE AU:=by
 intro fa n R rc g X o a ga h
 unfold AU uS at h
 split at h
 ·split at h
  ·next e=>obtain ⟨y,hy,h⟩:=ob h;cases h;obtain ⟨d,e1,e2⟩:=uI o e;exact Es d e1 e2 #[155] rfl
  ·obtain ⟨c,h⟩:=oi h
   obtain ⟨y,hy,h⟩:=ob h;obtain ⟨z,hz,h⟩:=ob h;cases h
   exact Dl (o.rm c) .notin #[155] (rc.e o hz) rfl
 ·obtain ⟨c,h⟩:=oi h
  obtain ⟨y,hy,h⟩:=ob h;obtain ⟨z,hz,h⟩:=ob h;cases h
  have:=Dl (o.rm c.1) (iZ _) #[155] (rc.e o hz) (by rw [dS];exact c.2) (pos:=‹_›)
  rw [dS] at this;exact this
 ·rename_i q r _ _ p
  obtain ⟨c,h⟩:=oi h
  obtain ⟨y,hy,h⟩:=ob h;obtain ⟨z,hz,h⟩:=ob h;obtain ⟨u,hu,h⟩:=ob h;cases h
  have:=J2 (o.rm c.1) (iZ q) (iZ r) #[155] (rc.e o hz) (rc.e o hu) (by rw [dS,dS];exact c.2) (pos:=p)
  rw [dS,dS] at this;exact this
 ·cases h
def vT:IB:=fun R g e=>match e with
 |.Compare a [.IsNot] [.Constant #[156] j p] _=>(R.e g a).bind fun x=>some (aw (xy x (gC #[170])))
 |.Compare ..=>(uS R g e).bind fun x=>some (aw x)
 |.BoolOp .And es _=>tf (R.t g) gO es
 |.BoolOp .Or es _=>tf (R.t g) eh es
 |.UnaryOp .Not a _=>(R.t g a).bind fun x=>some (bE x)
 |.IfExp ..=>none
 |e=>(R.e g e).bind fun x=>some (aw x)
theorem DM {fa:Fa}{n:Nat}{R:Rc}(rc:j6 fa n R){g:G}{X:Cx}(o:eX fa n g X){a:Expr}{ga:GE}(h:uS R g a=some ga):DT fa X a (aw ga):=by
 unfold uS at h
 split at h
 ·split at h
  ·next e=>obtain ⟨y,hy,h⟩:=ob h;cases h;obtain ⟨d,e1,e2⟩:=uI o e;exact Ey d e1 e2 #[155] rfl
  ·obtain ⟨c,h⟩:=oi h
   obtain ⟨y,hy,h⟩:=ob h;obtain ⟨z,hz,h⟩:=ob h;cases h
   exact zR (o.rm c) .notin #[155] (rc.e o hz) rfl
 ·obtain ⟨c,h⟩:=oi h
  obtain ⟨y,hy,h⟩:=ob h;obtain ⟨z,hz,h⟩:=ob h;cases h
  have:=zR (o.rm c.1) (iZ _) #[155] (rc.e o hz) (by rw [dS];exact c.2) (pos:=‹_›)
  rw [dS] at this;exact this
 ·rename_i q r _ _ p
  obtain ⟨c,h⟩:=oi h
  obtain ⟨y,hy,h⟩:=ob h;obtain ⟨z,hz,h⟩:=ob h;obtain ⟨u,hu,h⟩:=ob h;cases h
  have:=HY (o.rm c.1) (iZ q) (iZ r) #[155] (rc.e o hz) (rc.e o hu) (by rw [dS,dS];exact c.2) (pos:=p)
  rw [dS,dS] at this;exact this
 ·cases h
theorem IS:ST vT:=by
 intro fa n R rc g X o a ga h
 unfold vT at h
 split at h
 ·obtain ⟨x,hx,h⟩:=ob h;cases h;exact GC #[92] Im rfl
 ·obtain ⟨x,hx,h⟩:=ob h;cases h;exact DM rc o hx
 ·exact PW.pt (vk (rc.t o) h)
 ·exact PW.pt (yx (rc.t o) h)
 ·obtain ⟨x,hx,h⟩:=ob h;cases h;exact HX (rc.t o hx)
 ·cases h
 ·next h1 h2 h3 h4 h5 h6=>
  obtain ⟨x,hx,h⟩:=ob h;cases h
  refine B9 #[92] fun _=>?_
  cases a<;>first|rfl|skip
  ·next q _ _=>cases q with
   |And=>exact absurd rfl (h3 _ _)
   |Or=>exact absurd rfl (h4 _ _)
  ·next q _ _=>cases q<;>first|rfl|exact absurd rfl (h5 _ _)
  ·exact absurd rfl (h6 _ _ _ _)
  ·exact absurd rfl (h2 _ _ _ _)
end LD
namespace LD
open PySem PySem.Spec PyProof.Rows L2
def ue:Expr->Bool
 |.Slice ..=>false
 |_=>true
theorem tV {b:Expr}(h:ue b=true):lp b:=by
 intro x i
 cases b<;>first|rfl|cases h
def cO (f:Expr->Option GE):Option Expr->Option GE
 |none=>some (gC .non)
 |some a=>f a
theorem sL {fa:Fa}{X:Cx}{f:Expr->Option GE}(hf:∀{a:Expr}{ga:GE},f a=some ga->DE fa X a ga){q:Option Expr}{ge:GE}(h:cO f q=some ge):DO fa X q q.isSome ge:=by
 cases q with
 |none=>cases h;exact Fn
 |some a=>exact Fm (hf h)
def AI:fL:=fun R g e=>match e with
 | .Subscript (.Name x p) b q => match Ci g x with
   |some fs=>if ue b=true then (R.e g b).bind fun y=>some (lW fs y) else none
   |none=>none
 |_=>none
theorem DN:SE AI:=by
 intro fa n R rc g X o a ga h
 unfold AI at h
 split at h
 ·split at h
  ·next e=>
   obtain ⟨c,h⟩:=oi h;obtain ⟨y,hy,h⟩:=ob h;cases h
   obtain ⟨d,e1,e2⟩:=uI o e
   exact Et d e1 e2 #[155] (tV c)
  ·cases h
 ·cases h
def AQ:fL:=fun R g e=>match e with
 |.Subscript a (.Slice none none (some (.UnaryOp .USub (.Constant (.int 1) _ _) _)) _) p=>(R.e g a).bind fun x=>some (ow (g.cl p) x)
 |.Subscript a (.Slice lo hi none _) p=>(R.e g a).bind fun x=>(cO (R.e g) lo).bind fun y=>(cO (R.e g) hi).bind fun z=>some (if g.tx p=true then nr lo.isSome hi.isSome x y z else cv (g.cl p) lo.isSome hi.isSome x y z)
 |.Subscript a (.Slice ..) p=>none
 |.Subscript a b p=>(R.e g a).bind fun x=>(R.e g b).bind fun y=>some (aF x y)
 |_=>none
theorem DU:SE AQ:=by
 intro fa n R rc g X o a ga h
 unfold AQ at h
 split at h
 ·obtain ⟨x,hx,h⟩:=ob h;cases h;exact Jg _ #[92]
 ·obtain ⟨x,hx,h⟩:=ob h;obtain ⟨y,hy,h⟩:=ob h;obtain ⟨z,hz,h⟩:=ob h;cases h
  split
  ·exact Gj _ _ #[92] (sL (rc.e o) hy) (sL (rc.e o) hz)
  ·exact JU _ _ _ #[92] (sL (rc.e o) hy) (sL (rc.e o) hz)
 ·cases h
 ·next b _ _ _ h3 => obtain ⟨x, hx, h⟩ := ob h; obtain ⟨y, hy, h⟩ := ob h; cases h
                     refine J1 #[92] #[155] (tV ?_)
                     cases b<;>first|rfl|exact absurd rfl (h3 _ _ _ _)
 ·cases h
def AJ:fL:=fun R g e=>match e with
 |.Subscript a (.Slice none none (some b) _) _=>(R.e g a).bind fun x=>(R.e g b).bind fun y=>some (qv x y)
 |_=>none
theorem DP:SE AJ:=by
 intro fa n R rc g X o a ga h
 unfold AJ at h
 split at h
 ·obtain ⟨x,hx,h⟩:=ob h;obtain ⟨y,hy,h⟩:=ob h;cases h;exact Jf #[92] #[155]
 ·cases h
def lx (g:G)(x:Str):Option Nat:=if (g.sc.names.lookup x==some .local||(g.sc.names.lookup x==some .cell&&g.lv != 1))=true then g.N.findIdx? (·==x) else none
def Ht (g:G):List Expr->Option #[174]
 |[]=>some []
 |.Name x _::r=>(lx g x).bind fun i=>(Ht g r).bind fun l=>some (i::l)
 |_=>none
def cG (g:G):Expr->Option dv
 |.Name x _=>(lx g x).bind fun i=>some (.one i)
 |.Tuple es _ _=>if 0<g.lv then (Ht g es).bind fun l=>some (.tup l) else none
 |_=>none
section
variable {fa:Fa}{n:Nat}{g:G}{X:Cx}{R:Rc}(o:eX fa n g X)
include o
theorem CZ {x:Str}{i:Nat}(h:lx g x=some i):X.N[i]?=some x/\L2.Loc X.env.scope x/\(X.fn x=true\/X.env.scope.names.lookup x=some .local):=by
 obtain ⟨c,h⟩:=oi h
 rw [Oj,Ms] at c
 refine ⟨sI o h,?_,?_⟩
 ·unfold L2.Loc;rw [o.sc]
  rcases c with z|z
  ·exact .inl (eq_of_beq z)
  ·exact .inr (eq_of_beq z.1)
 ·rcases c with z|z
  ·right;rw [o.sc];exact eq_of_beq z
  ·exact .inl (o.fn (by simpa using z.2) x)
theorem zv:∀{es:List Expr}{l:List Nat},Ht g es=some l->kI X l es
 |[],_,h=>by cases h;exact .nil
 | .Name x _ :: r, _, h => by
   obtain ⟨i,hi,h⟩:=ob h;obtain ⟨l,hl,h⟩:=ob h;cases h
   obtain ⟨a,b,c⟩:=CZ o hi
   exact .cons a b c (zv hl)
theorem l5 {t:Expr}{tt:dv}(h:cG g t=some tt):PG X t (gT fa X.K tt):=by
 unfold cG at h
 split at h
 ·obtain ⟨i,hi,h⟩:=ob h;cases h
  obtain ⟨a,b,c⟩:=CZ o hi
  exact Fu (o.N ▸ o.nd) a b c
 ·obtain ⟨c,h⟩:=oi h;obtain ⟨l,hl,h⟩:=ob h;cases h
  exact Ig (o.calm c) (o.N ▸ o.nd) (zv o hl)
 ·cases h
end
def cB (nm:Str)(R:Rc)(g:G)(e:Expr):Option (List Expr×GA):=match e with
 |.Call (.Name x _) (a::es) [] _=>if x=nm/\jt g x=true/\(match g.T.lookup x with|some .bl=>true|_=>false)=true/\0<g.lv then #[287].bind fun gs=>some (a::es,gs) else none
 |_=>none
theorem nG {g:G}{x:Str}(h:(match g.T.lookup x with|some .bl=>true|_=>false)=true):g.T.lookup x=some .bl:=by
 split at h
 ·assumption
 ·cases h
theorem pR {fa:Fa}{n:Nat}{R:Rc}{nm:Str}(rc:j6 fa n R){g:G}{X:Cx}(o:eX fa n g X){e:Expr}{as:List Expr}{gs:GA}(h:cB nm R g e=some (as,gs)):∃p pos a es,as=a::es/\e=.Call (.Name nm p) (a::es) [] pos/\Gl X nm/\X.mg nm=none/\0<g.lv/\DA fa X (a::es) gs/\notStar a=true/\es.all notStar=true:=by
 unfold cB at h
 split at h
 ·obtain ⟨⟨e0,c1,c2,c3⟩,k⟩:=oi h;clear h;subst e0;have h:=k
  obtain ⟨gs,hgs,h⟩:=ob h;cases h
  obtain ⟨d,ns⟩:=kA (rc.e o) hgs
  rw [NB,Ms] at ns
  exact ⟨_,_,_,_,rfl,rfl,(dj o c1).1,o.T.bl (nG c2),c3,d,ns.1,ns.2⟩
 ·cases h
def FT:fL:=fun R g e=>(cB "len" R g e).bind fun q=>some (a8 .len q.2)
theorem DR:SE FT:=fun {fa n R} rc {g X} o {a ga} h=>by
 obtain ⟨⟨as,gs⟩,hq,h⟩:=ob h;cases h
 obtain ⟨_,_,_,_,_,rfl,hg,hm,_,d,n1,n2⟩:=pR rc o hq
 exact Dm .len JJ hg hm PySem.boot_len d #[1] #[1] (bO n1) (dQ n2)
def FW:fL:=fun R g e=>(cB "all" R g e).bind fun q=>some (a8 .all q.2)
theorem DZ:SE FW:=fun {fa n R} rc {g X} o {a ga} h=>by
 obtain ⟨⟨as,gs⟩,hq,h⟩:=ob h;cases h
 obtain ⟨_,_,_,_,_,rfl,hg,hm,lv,d,n1,n2⟩:=pR rc o hq
 exact Dm .all (JK (o.calm lv)) hg hm #[3] d #[1] #[1] (bO n1) (dQ n2)
def CB:fL:=fun R g e=>(cB "repr" R g e).bind fun q=>some (iq q.2)
theorem AK:SE CB:=fun {fa n R} rc {g X} o {a ga} h=>by
 obtain ⟨⟨as,gs⟩,hq,h⟩:=ob h;cases h
 obtain ⟨_,_,_,_,_,rfl,hg,hm,lv,d,n1,n2⟩:=pR rc o hq
 exact Gk (o.hr lv) hg hm d n1 n2
def yk:fL:=fun R g e=>(cB "tuple" R g e).bind fun q=>some (a8 .tuple q.2)
theorem yj:SE yk:=fun {fa n R} rc {g X} o {a ga} h=>by
 obtain ⟨⟨as,gs⟩,hq,h⟩:=ob h;cases h
 obtain ⟨_,_,_,_,_,rfl,hg,hm,_,d,n1,n2⟩:=pR rc o hq
 exact zV .tuple E5 hg hm #[3] d #[1] #[1] (bO n1) (dQ n2)
def CC:fL:=fun R g e=>(cB "list" R g e).bind fun q=>some (a8 (.list (g.cl e.pos)) q.2)
theorem AN:SE CC:=fun {fa n R} rc {g X} o {a ga} h=>by
 obtain ⟨⟨as,gs⟩,hq,h⟩:=ob h;cases h
 obtain ⟨_,_,_,_,_,rfl,hg,hm,_,d,n1,n2⟩:=pR rc o hq
 exact zV (.list _) (HN _) hg hm #[3] d #[1] #[1] (bO n1) (dQ n2)
def cR (R:Rc)(g:G)(nm:Str):Expr->Option (Expr×GE)
 |.Call (.Name x _) [a] [] _=>if x=nm/\jt g x=true/\(match g.T.lookup x with|some .bl=>true|_=>false)=true/\0<g.lv/\notStar a=true then (R.e g a).bind fun y=>some (a,y) else none
 |_=>none
theorem xM {fa:Fa}{n:Nat}{R:Rc}{nm:Str}(rc:j6 fa n R){g:G}{X:Cx}(o:eX fa n g X){e a:Expr}{ga:GE}(h:cR R g nm e=some (a,ga)):∃p pos,e=.Call (.Name nm p) [a] [] pos/\Gl X nm/\X.mg nm=none/\0<g.lv/\DE fa X a ga/\starEach [a] X.env=[#[42]]:=by
 unfold cR at h
 split at h
 ·obtain ⟨⟨e0,c1,c2,c3,c4⟩,k⟩:=oi h;clear h;subst e0;have h:=k
  obtain ⟨y,hy,h⟩:=ob h;cases h
  exact ⟨_,_,rfl,(dj o c1).1,o.T.bl (nG c2),c3,rc.e o hy,bO c4⟩
 ·cases h
def sT:fL:=fun R g e=>match e with
 |.Call (.Name x _) [b] [] p=>if x="list"/\jt g x=true/\(match g.T.lookup x with|some .bl=>true|_=>false)=true then (cR R g "range" b).bind fun q=>some (mD (g.cl p) q.2) else none
 |_=>none
theorem ym:SE sT:=fun {fa n R} rc {g X} o {a ga} h=>by
 unfold sT at h
 split at h
 ·obtain ⟨⟨e0,c1,c2⟩,k⟩:=oi h;clear h;subst e0;have h:=k
  obtain ⟨⟨b,y⟩,hq,h⟩:=ob h;cases h
  obtain ⟨_,_,rfl,hg,hm,lv,d,hs⟩:=xM rc o hq
  exact Em _ (o.calm lv) d (dj o c1).1 (o.T.bl (nG c2)) hg hm hs rfl
 ·cases h
def AY (x:Str):Option Ty:=if x="int" then some .int else if x="bool" then some .bool else if x="str" then some .str else if x="tuple" then some .tuple else if x="list" then some .list else none
theorem D3 {x:Str}{t:Ty}(h:AY x=some t):bootBuiltins x=some (.type (tyName t))/\(∀c,t≠.own c)/\x≠"__name__"/\#[6]=false:=by
 unfold AY at h
 split at h
 ·subst x;cases h;exact ⟨by decide +kernel,#[34],by decide,by decide⟩
 split at h
 ·subst x;cases h;exact ⟨by decide +kernel,#[34],by decide,by decide⟩
 split at h
 ·subst x;cases h;exact ⟨by decide +kernel,#[34],by decide,by decide⟩
 split at h
 ·subst x;cases h;exact ⟨by decide +kernel,#[34],by decide,by decide⟩
 split at h
 ·subst x;cases h;exact ⟨by decide +kernel,#[34],by decide,by decide⟩
 ·cases h
def cI (R:Rc)(g:G):Expr->Option (Str×GE)
 |.Call (.Name y _) [a,.Name x _] [] _=>if y="isinstance"/\jt g y=true/\(match g.T.lookup y with|some .bl=>true|_=>false)=true/\jt g x=true/\notStar a=true then (R.e g a).bind fun z=>some (x,z) else none
 |_=>none
theorem Dn {fa:Fa}{n:Nat}{R:Rc}(rc:j6 fa n R){g:G}{X:Cx}(o:eX fa n g X){e:Expr}{x:Str}{ga:GE}(h:cI R g e=some (x,ga)):∃p q a pos,e=.Call (.Name "isinstance" p) [a,.Name x q] [] pos/\Gl X "isinstance"/\X.mg "isinstance"=none/\Gl X x/\#[6]=false/\DE fa X a ga/\starEach [a,.Name x q] X.env=#[42]::starEach [.Name x q] X.env:=by
 unfold cI at h
 split at h
 ·obtain ⟨⟨e0,c1,c2,c3,c4⟩,k⟩:=oi h;clear h;subst e0;have h:=k
  obtain ⟨z,hz,h⟩:=ob h;cases h
  exact ⟨_,_,_,_,rfl,(dj o c1).1,o.T.bl (nG c2),(dj o c3).1,(dj o c3).2,rc.e o hz,bO c4⟩
 ·cases h
def CD:fL:=fun R g e=>(cI R g e).bind fun q=>if (match g.T.lookup q.1 with|some .bl=>true|_=>false)=true then (AY q.1).bind fun t=>some (bQ t q.2) else none
theorem AO:SE CD:=fun {fa n R} rc {g X} o {a ga} h=>by
 obtain ⟨⟨x,z⟩,hq,h⟩:=ob h
 obtain ⟨c,h⟩:=oi h
 obtain ⟨t,ht,h⟩:=ob h;cases h
 obtain ⟨_,_,_,_,rfl,hg,hm,hx,hd,d,hs⟩:=Dn rc o hq
 obtain ⟨b1,b2,b3,b4⟩:=D3 ht
 exact Ij t b2 d hg hm #[3] hx (o.T.bl (nG c)) b1 b3 b4 hs
def yo:fL:=fun R g e=>(cI R g e).bind fun q=>match g.T.lookup q.1 with
 |some (.xc k)=>some (cm (some k) q.2)
 |some (.xi k)=>some (cm (some k) q.2)
 |some (.xk k)=>some (cm (some k) q.2)
 |some .de=>some (cm none q.2)
 |some .bl=>if q.1="ValueError" then some (cm none q.2) else none
 |_=>none
theorem yn:SE yo:=fun {fa n R} rc {g X} o {a ga} h=>by
 obtain ⟨⟨x,z⟩,hq,k⟩:=ob h;clear h
 obtain ⟨_,_,_,_,rfl,hg,hm,hx,hd,d,hs⟩:=Dn rc o hq
 split at k
 ·next e=>cases k;obtain ⟨C,h1,h2,_⟩:=o.T.xc e;exact qf _ o.T.xcs ⟨C,h1,h2⟩ d hg hm hx hd hs
 ·next e=>cases k;exact qf _ o.T.xcs (o.T.xi e).2 d hg hm hx hd hs
 ·next e=>cases k;exact qf _ o.T.xcs (o.T.xk e) d hg hm hx hd hs
 ·next e=>cases k;exact Ep o.T.xcs (o.T.de e) d hg hm hx hd hs
 ·next e=>
  obtain ⟨c,h⟩:=oi k;cases h
  have c:x="ValueError":=c
  subst c
  exact Eo o.T.xcs d hg hm hx (o.T.bl e) hs
 ·cases k
def wx:fL:=fun R g e=>match e with
 | .Call (.Name x _) (a :: es) [] _ => if 0 < g.lv then (match vr g x with
   |some i=>#[287].bind fun gs=>some (mE i g.c gs)
   | none => if jt g x = true then (match g.T.lookup x with
     |some (.fn i _)=>#[287].bind fun gs=>some (aq i g.c gs)
     |_=>none) else none) else none
 |_=>none
theorem AV:SE wx:=fun {fa n R} rc {g X} o {a ga} h=>by
 unfold wx at h
 split at h
 ·obtain ⟨lv,h⟩:=oi h
  split at h
  ·next e=>
   obtain ⟨gs,hgs,h⟩:=ob h;cases h
   obtain ⟨d,ns⟩:=kA (rc.e o) hgs
   rw [NB,Ms] at ns
   obtain ⟨a,b,c1,c2⟩:=CA o e
   exact Fy (o.C lv) (o.hr lv) a b d c1 c2 (bO ns.1) (dQ ns.2)
  ·obtain ⟨c,h⟩:=oi h
   split at h
   ·next e=>
    obtain ⟨gs,hgs,h⟩:=ob h;cases h
    obtain ⟨d,ns⟩:=kA (rc.e o) hgs
    rw [NB,Ms] at ns
    exact Il (o.C lv _) (o.hr lv) (dj o c).1 (o.T.fn e) d (dj o c).2 (bO ns.1) (dQ ns.2)
   ·cases h
 ·cases h
def wo:fL:=fun R g e=>match e with
 |.Call (.Name x _) (a::es) [] _=>if 2<=g.lv/\jt g x=true then (match g.T.lookup x with
  |some (.fn i true)=>#[287].bind fun gs=>some (dB i g.c gs)
  |_=>none) else none
 |.IfExp c a b _=>(R.x g a).bind fun x=>(R.x g b).bind fun y=>(R.t g c).bind fun t=>some (xA t x y)
 |_=>none
theorem Aw:SX wo:=fun {fa n R} rc {g X} o {a ga} h=>by
 unfold wo at h
 split at h
 ·obtain ⟨⟨lv,c⟩,h⟩:=oi h
  split at h
  ·next e=>
   obtain ⟨gs,hgs,h⟩:=ob h;cases h
   obtain ⟨d,ns⟩:=kA (rc.e o) hgs
   rw [NB,Ms] at ns
   exact x_call _ (o.C #[0]) (o.hr #[0]) (o.top lv).1 (dj o c).1 (o.T.fn e) d (dj o c).2 ns.1 ns.2
  ·cases h
 ·obtain ⟨x,hx,h⟩:=ob h;obtain ⟨y,hy,h⟩:=ob h;obtain ⟨t,ht,h⟩:=ob h;cases h
  exact IQ (rc.t o ht) (rc.x o hx) (rc.x o hy)
 ·cases h
theorem Gi {n:Nat}{A:Nr}(h:cx (n+4) A):cx 2 A:=h.mono #[0]
def ni:Expr->Bool
 |.Call ..=>false
 |_=>true
theorem iN {a:Expr}{m:Str}{env:Np}{w:Sem Mq}(h:ni a=true):attributeBase a m env w=w:=by
 cases a<;>first|rfl|cases h
def AS:fL:=fun R g e=>match e with
 |.Call (.Attribute a m ap) [.Constant #[156] _ _] [] p=>if ni a=true/\ap.endLine=p.line then (if m="count" then (R.e g a).bind fun x=>some (xC x) else if m="index" then (R.e g a).bind fun x=>some (xB x) else none) else none
 |_=>none
theorem DV:SE AS:=fun {fa n R} rc {g X} o {a ga} h=>by
 unfold AS at h
 split at h
 ·obtain ⟨⟨c1,c2⟩,k⟩:=oi h;clear h;have h:=k;clear k
  have c2:=O5.mpr c2
  split at h
  ·next e0=>subst e0;obtain ⟨x,hx,h⟩:=ob h;cases h;exact Gr #[92] (iN c1) c2
  ·obtain ⟨e0,k⟩:=oi h;clear h;subst e0;have h:=k;obtain ⟨x,hx,h⟩:=ob h;cases h;exact Gm #[92] (iN c1) c2
 ·cases h
def wy:fL:=fun R g e=>match e with
 |.Attribute a f _=>if ni a=true/\f∈g.xf then (R.e g a).bind fun x=>some (jZ f x) else none
 |_=>none
theorem AW:SE wy:=fun {fa n R} rc {g X} o {a ga} h=>by
 unfold wy at h
 split at h
 ·obtain ⟨⟨c1,c2⟩,h⟩:=oi h;obtain ⟨x,hx,h⟩:=ob h;cases h
  exact Eu _ o.T.xcs (o.xf _ c2) #[92] (iN c1)
 ·cases h
def FV:fL:=fun R g e=>match e with
 |.JoinedStr [.Constant (.str z) _ _,.FormattedValue a (-1) none _,.Constant (.str y) _ _] _=>(R.e g a).bind fun x=>some (HL z y x)
 |_=>none
theorem FU:SE FV:=fun {fa n R} rc {g X} o {a ga} h=>by
 unfold FV at h
 split at h
 ·obtain ⟨x,hx,h⟩:=ob h;cases h;exact Ld #[92]
 ·cases h
end LD
namespace LD
open PySem PySem.Spec PyProof.Rows L2
def Cz:u5:=fun R g _ e=>(cR R g "range" e).bind fun q=>some (dm q.2)
theorem AF:SW Cz:=fun {fa n R} rc {g X} o {t a ga} h=>by
 obtain ⟨⟨b,y⟩,hq,h⟩:=ob h;cases h
 obtain ⟨_,_,rfl,hg,hm,_,d,hs⟩:=xM rc o hq
 exact Fs d hg hm hs
def wt:u5:=fun R g t e=>match t with
 |.Tuple ..=>(cR R g "enumerate" e).bind fun q=>some (ir q.2)
 |_=>none
theorem AG:SW wt:=fun {fa n R} rc {g X} o {t a ga} h=>by
 unfold wt at h
 split at h
 ·obtain ⟨⟨b,y⟩,hq,h⟩:=ob h;cases h
  obtain ⟨_,_,rfl,hg,hm,_,d,hs⟩:=xM rc o hq
  exact Ft d hg hm hs
 ·cases h
def cN (R:Rc)(g:G)(nm:Str):Expr->Option (List Expr)
 |.Call (.Name x _) es [] _=>if x=nm/\jt g x=true/\(match g.T.lookup x with|some .bl=>true|_=>false)=true/\0<g.lv/\es.all notStar=true then some es else none
 |_=>none
theorem J7 {fa:Fa}{n:Nat}{R:Rc}{nm:Str}{g:G}{X:Cx}(o:eX fa n g X){e:Expr}{es:List Expr}(h:cN R g nm e=some es):∃p pos,e=.Call (.Name nm p) es [] pos/\Gl X nm/\X.mg nm=none/\es.all notStar=true:=by
 unfold cN at h
 split at h
 ·obtain ⟨⟨e0,c1,c2,c3,c4⟩,k⟩:=oi h;clear h;subst e0;cases k
  exact ⟨_,_,rfl,(dj o c1).1,o.T.bl (nG c2),c4⟩
 ·cases h
theorem mZ {env:Np}:∀{es:List Expr},es.all notStar=true->starEach es env=es.map fun a=>(false,eval a env)
 |[],_=>rfl
 | a :: es, h => by
   rw [NB,Ms] at h
   rw [bO h.1,mZ h.2];rfl
def MV:u5:=fun R g _ e=>(cN R g "range" e).bind fun es=>match es with
 |[a,b]=>(R.e g a).bind fun x=>(R.e g b).bind fun y=>some (JG x y)
 |_=>none
def AE:u5:=fun R g t e=>match t with
 | .Tuple .. => (cN R g "zip" e).bind fun es => match es with
   |[a,b]=>(R.e g a).bind fun x=>(R.e g b).bind fun y=>some (nq x y)
   |[a,b,c]=>(R.e g a).bind fun x=>(R.e g b).bind fun y=>(R.e g c).bind fun z=>some (pI x y z)
   |_=>none
 |_=>none
theorem DJ:SW AE:=fun {fa n R} rc {g X} o {t a ga} h=>by
 unfold AE at h
 split at h
 ·obtain ⟨es,hq,k⟩:=ob h;clear h
  obtain ⟨_,_,rfl,hg,hm,ns⟩:=J7 o hq
  split at k
  ·obtain ⟨x,hx,k⟩:=ob k;obtain ⟨y,hy,k⟩:=ob k;cases k
   have n2:=(Ot.mp (NB ▸ ns)).2
   exact Fp #[92] #[155] hg hm (mZ ns) (mZ n2)
  ·obtain ⟨x,hx,k⟩:=ob k;obtain ⟨y,hy,k⟩:=ob k;obtain ⟨z,hz,k⟩:=ob k;cases k
   have n2:=(Ot.mp (NB ▸ ns)).2
   have n3:=(Ot.mp (NB ▸ n2)).2
   exact Fo #[92] #[155] (rc.e o hz) hg hm (mZ ns) (mZ n2) (mZ n3)
  ·cases k
 ·cases h
def FR:u5:=fun R g _ e=>(R.e g e).bind fun x=>some (if g.tx e.pos=true then pJ x else eD x)
theorem DK:SW FR:=fun {fa n R} rc {g X} o {t a ga} h=>by
 obtain ⟨x,hx,h⟩:=ob h;cases h
 split
 ·exact Fq #[92]
 ·exact Ie #[92]
def kU:Expr->Bool
 |.Set ..=>false
 |_=>true
theorem zN {a:Expr}{env:Np}(h:kU a=true)(x:Mq):foldedSetIterable a env x=pure x:=by
 cases a<;>first|rfl|cases h
def wU:Expr->List Str
 |.Name x _=>[x]
 |.Tuple es _ _=>es.filterMap fun|.Name x _=>some x|_=>none
 |_=>[]
def uT (g:G)(own:List Str):List Str:=g.N.map fun x=>if own.contains x then x++("%":Str) else x
def Bu (scope sc:Scope):Scope:={scope with names:=scope.names.map fun (n,k)=>if (k==.free&&sc.kind==.function&&sc.names.lookup n==some .cell) then (n,.cell) else (n,k)}
def G.inC (g:G)(own:List Str)(scope:Scope):G:={g with N:=own++uT g own,sc:=Bu scope g.sc,lv:=1}
def vI (g:G)(own:List Str)(scope:Scope):Prop:=0<g.lv/\scope.kind=.function/\qF (uT g own) g.N g.sc scope=true/\(own++uT g own).Nodup
instance (g:G) (own:List Str) (scope:Scope):Decidable (vI g own scope):=by unfold vI;infer_instance
theorem xH {fa:Fa}{n:Nat}{g:G}{X:Cx}(o:eX fa n g X){own:List Str}{scope:Scope}(c:vI g own scope):jj X own (uT g own) scope/\∀cl C fp s H,eX fa n #[113] (iu X own (uT g own) scope cl C fp s H):=by
 obtain ⟨c1,c2,c3,c4⟩:=c
 refine ⟨Aa c2 o.sc o.N c3,fun cl C fp s H=>⟨rfl,c4,?_,o.T,o.tw,o.xf,(fun z=>absurd rfl z),fun _=>o.calm c1,fun _=>o.C c1,fun _=>o.hr c1,(fun z=>absurd (show 2<=1 from z) #[1]),#[20]⟩⟩
 show relabel scope X.env=Bu scope g.sc
 unfold relabel Bu Env.kindOf
 rw [o.sc]
structure IK (fa:Fa) (X:Cx) (e:Expr) (k:Nat) (t:dv) (gw:GW) (gb:GB):Prop where
 ex:∃elt tg iter ifs rest scope pos own bn W body,e=.ListComp elt (⟨tg,iter,ifs,0⟩::rest) scope pos/\k=own.length/\jj X own bn scope/\DI fa X tg iter gw/\Block fa X own bn scope tg t W body gb/\pS X elt tg iter ifs rest scope pos body/\(∀i∈W,i∉slots t)/\(∀i∈slots t++W,i<own.length)/\∀x,foldedSetIterable iter X.env x=pure x
def cC (R:Rc)(g:G):Expr->Option (Nat×dv×GW×GB)
 | .ListComp elt [⟨tg, iter, [], 0⟩] scope _ => let own := wU tg
   if vI g own scope/\kU iter=true then (R.w g tg iter).bind fun w=>(cG #[113] tg).bind fun t=>(R.e #[113] elt).bind fun x=>if (slots t).all (· < own.length)=true then some (own.length,t,w,bU x) else none else none
 | .ListComp elt [⟨tg, iter, [c], 0⟩] scope _ => let own := wU tg
   if vI g own scope/\kU iter=true then (R.w g tg iter).bind fun w=>(cG #[113] tg).bind fun t=>(R.t #[113] c).bind fun q=>(R.e #[113] elt).bind fun x=>if (slots t).all (· < own.length)=true then some (own.length,t,w,k9 q (bU x)) else none else none
 | .ListComp elt [⟨tg, iter, [], 0⟩, ⟨t2, i2, [], 0⟩] scope _ => let own := wU tg ++ wU t2
   if vI g own scope/\kU iter=true/\kU i2=true then (R.w g tg iter).bind fun w=>(cG #[113] tg).bind fun t=>(R.w #[113] t2 i2).bind fun w2=>(cG #[113] t2).bind fun u=>(R.e #[113] elt).bind fun x=>if (slots t++slots u).all (· < own.length)=true/\(slots u).all (fun i=>!(slots t).contains i)=true then some (own.length,t,w,uB u w2 (bU x)) else none else none
 |_=>none
theorem Dp {fa:Fa}{n:Nat}{R:Rc}(rc:j6 fa n R){g:G}{X:Cx}(o:eX fa n g X){e:Expr}{k:Nat}{t:dv}{gw:GW}{gb:GB}(h:cC R g e=some (k,t,gw,gb)):IK fa X e k t gw gb:=by
 unfold cC at h
 split at h
 ·obtain ⟨⟨c,cs⟩,h⟩:=oi h
  obtain ⟨w,hw,h⟩:=ob h;obtain ⟨t,ht,h⟩:=ob h;obtain ⟨x,hx,h⟩:=ob h;obtain ⟨c2,h⟩:=oi h;cases h
  obtain ⟨S,O⟩:=xH o c
  exact ⟨_,_,_,_,_,_,_,_,_,[],_,rfl,rfl,S,rc.w o hw,⟨fun cl C fp s H=>l5 #[209] ht,fun cl C fp s H a=>uJ (rc.e #[209] hx)⟩,(fun it a env=>A1 _ _ _ [] _ _ (.ref it) (.ref a) env),(fun i h=>nomatch h),(by simpa using nZ c2),zN cs⟩
 ·obtain ⟨⟨c,cs⟩,h⟩:=oi h
  obtain ⟨w,hw,h⟩:=ob h;obtain ⟨t,ht,h⟩:=ob h;obtain ⟨q,hq,h⟩:=ob h;obtain ⟨x,hx,h⟩:=ob h;obtain ⟨c2,h⟩:=oi h;cases h
  obtain ⟨S,O⟩:=xH o c
  exact ⟨_,_,_,_,_,_,_,_,_,[],_,rfl,rfl,S,rc.w o hw,⟨fun cl C fp s H=>l5 #[209] ht,fun cl C fp s H a=>JQ (rc.t #[209] hq) (uJ (rc.e #[209] hx))⟩,(fun it a env=>turn_if _ _ _ _ _ _ (.ref it) (.ref a) env),(fun i h=>nomatch h),(by simpa using nZ c2),zN cs⟩
 ·obtain ⟨⟨c,cs,cs2⟩,h⟩:=oi h
  obtain ⟨w,hw,h⟩:=ob h;obtain ⟨t,ht,h⟩:=ob h;obtain ⟨w2,hw2,h⟩:=ob h;obtain ⟨u,hu,h⟩:=ob h;obtain ⟨x,hx,h⟩:=ob h;obtain ⟨⟨c2,c3⟩,h⟩:=oi h;cases h
  obtain ⟨S,O⟩:=xH o c
  exact ⟨_,_,_,_,_,_,_,_,_,slots u,_,rfl,rfl,S,rc.w o hw,⟨fun cl C fp s H=>l5 #[209] ht,fun cl C fp s H a=>Ih (X:=iu X _ _ _ cl C fp s H) rfl (o.calm c.1) (rc.w #[209] hw2) (l5 #[209] hu) (rc.e #[209] hx) (zN cs2)⟩,(fun it a env=>AZ _ _ _ _ _ _ _ (.ref it) (.ref a) env),yL c3,nZ c2,zN cs⟩
 ·cases h
def CF:fL:=fun R g e=>if 0<g.lv then (cC R g e).bind fun q=>some (bX (g.cl e.pos) q.1 q.2.1 q.2.2.1 q.2.2.2) else none
theorem AR:SE CF:=fun {fa n R} rc {g X} o {a ga} h=>by
 obtain ⟨lv,h⟩:=oi h
 obtain ⟨⟨k,t,w,b⟩,hq,h⟩:=ob h;cases h
 obtain ⟨elt,tg,iter,ifs,rest,scope,pos,own,bn,W,body,rfl,rfl,S,hi,B,T,h1,h2,h3⟩:=(Dp rc o hq).ex
 exact Ik _ S (o.calm lv) hi B T h1 h2 h3
def nQ (f:Stmt->Option GS):List Stmt->Option GS
 |[]=>some aj
 |a::r=>(f a).bind fun x=>(nQ f r).bind fun y=>some (ag x y)
theorem iw {fa:Fa}{X:Cx}{f:Stmt->Option GS}(hf:∀{a:Stmt}{ga:GS},f a=some ga->DS fa X a ga):∀{ss:List Stmt}{gs:GS},nQ f ss=some gs->kJ fa X ss gs
 |[],_,h=>by cases h;exact Fh
 | a :: r, _, h => by
   obtain ⟨x,hx,h⟩:=ob h;obtain ⟨y,hy,h⟩:=ob h;cases h
   exact Ca (hf hx) (iw hf hy)
def vK:Expr->Bool
 |.ListComp ..=>false
 |.SetComp ..=>false
 |.DictComp ..=>false
 |_=>true
theorem vL {a:Expr}{t:Option Expr}{l:Nat}{env:Np}(h:vK a=true):swapsWith a t l env=pure false:=by
 cases a<;>first|rfl|cases h
def Iw (g:G)(tg a:Expr):Bool:=match a with
 |.ListComp ..=>(match tg with|.Name y _=>g.sc.names.lookup y==some .cell|_=>false)
 |.Tuple ..=>(match tg with|.Name ..=>true|_=>false)
 |.SetComp ..=>false
 |.DictComp ..=>false
 |_=>true
theorem Iv {fa:Fa}{n:Nat}{g:G}{X:Cx}(o:eX fa n g X){tg a:Expr}{t:dv}{l:Nat}(c:Iw g tg a=true)(ht:cG g tg=some t):swapsWithSole [tg] a l X.env=pure false/\swappedStores [tg] a X.env=pure none/\#[306].map (·.2)=[assign tg X.env]:=by
 refine ⟨?_,?_,?_⟩
 ·cases a<;>first|rfl|cases c|skip
  cases tg<;>first|cases c|skip
  next y p=>
  have e:=eq_of_beq c
  have hk:(X.env.kindOf y==some .local)=false:=by unfold Env.kindOf;rw [o.sc,e];rfl
  show (pure (X.env.blockKind==.function&&X.env.kindOf y==some .local&&_&&_):Sem Bool)=pure false
  rw [hk,Bool.and_false,Bool.false_and,Bool.false_and]
 ·cases tg<;>first|cases ht|(cases a<;>first|rfl|cases c)
 ·cases tg<;>first|rfl|cases ht
def Au:nU:=fun R g st=>match st with
 | .Assign [tg] a _ => if Iw g tg a = true then (cG g tg).bind fun t => (match R.x g a with
   |some x=>some (iW t x)
   |none=>(R.e g a).bind fun x=>some (aJ t x)) else none
 |_=>none
theorem DF:SS Au:=fun {fa n R} rc {g X} o {a ga} h=>by
 unfold Au at h
 split at h
 ·obtain ⟨c,h⟩:=oi h;obtain ⟨t,ht,h⟩:=ob h
  obtain ⟨a1,a2,a3⟩:=Iv (l:=(‹Pos›).line) o c ht
  split at h
  ·next e=>cases h;exact Gg (rc.x o e) (l5 o ht) a1 a2 a3
  ·obtain ⟨x,hx,h⟩:=ob h;cases h;exact Ib #[92] (l5 o ht) a1 a2 a3
 ·cases h
def wm:nU:=fun R g st=>match st with
 |.Assign [.Name y py] (.ListComp elt gens scope p) _=>if 2<=g.lv/\g.sc.names.lookup y=some .local/\(py.line==p.line)=true/\(scope.names.any fun (n,k)=>n==y&&(k==.local||k==.cell))=false then (cC R g (.ListComp elt gens scope p)).bind fun q=>(g.N.findIdx? (·==y)).bind fun i=>some (aJ (.one i) (bX (g.cl p) q.1 q.2.1 q.2.2.1 q.2.2.2)) else none
 |_=>none
theorem As:SS wm:=fun {fa n R} rc {g X} o {a ga} h=>by
 unfold wm at h
 split at h
 ·next y py _ _ sc0 p _=>
  obtain ⟨⟨lv,c1,c2,c3⟩,h⟩:=oi h
  obtain ⟨⟨k,t,w,b⟩,hq,h⟩:=ob h;obtain ⟨i,hi,h⟩:=ob h;cases h
  obtain ⟨elt,tg,iter,ifs,rest,scope,pos,own,bn,W,body,e0,rfl,S,hi',B,T,h1,h2,h3⟩:=(Dp rc o hq).ex
  cases e0
  have hl:X.env.scope.names.lookup y=some .local:=by rw [o.sc];exact c1
  refine xF _ S (o.calm #[0]) hi' B T h1 h2 h3 (o.N ▸ o.nd) (sI o hi) hl ?_
  have hk:=(o.top lv).2.2.2
  have hb:(X.env.blockKind==.function)=true:=by unfold Env.blockKind;rw [hk];rfl
  have hkd:(X.env.kindOf y==some .local)=true:=by unfold Env.kindOf;rw [hl];rfl
  show (pure (X.env.blockKind==.function&&X.env.kindOf y==some .local&&(py.line==p.line)&&!(sc0.names.any fun (n,k)=>n==y&&(k==.local||k==.cell))):Sem Bool)=pure true
  rw [hb,hkd,c2,c3];rfl
 ·cases h
def Ar:nU:=fun R g st=>match st with
 |.Assign [.Subscript a b _] d _=>if ue b=true then (R.e g a).bind fun x=>(R.e g b).bind fun y=>(R.e g d).bind fun z=>some (f6 x y z) else none
 |_=>none
theorem DD:SS Ar:=fun {fa n R} rc {g X} o {a ga} h=>by
 unfold Ar at h
 split at h
 ·next a b p2 d _=>
  obtain ⟨c,h⟩:=oi h
  obtain ⟨x,hx,h⟩:=ob h;obtain ⟨y,hy,h⟩:=ob h;obtain ⟨z,hz,h⟩:=ob h;cases h
  refine H8 #[92] #[155] (rc.e o hz) (fun v=>?_) ?_ ?_ rfl
  ·cases b<;>first|rfl|cases c
  ·cases d<;>rfl
  ·cases d<;>rfl
 ·cases h
def Av:nU:=fun R g st=>match st with
 |.Expr (.Call (.Attribute a m ap) [d] [] cp) _=>if m="append"/\ni a=true/\ap.endLine=cp.line/\notStar d=true then (R.e g a).bind fun x=>(R.e g d).bind fun y=>some (jm x y) else none
 |_=>none
theorem DG:SS Av:=fun {fa n R} rc {g X} o {a ga} h=>by
 unfold Av at h
 split at h
 ·obtain ⟨⟨e0,c1,c2,c3⟩,k⟩:=oi h;clear h;subst e0
  obtain ⟨x,hx,k⟩:=ob k;obtain ⟨y,hy,k⟩:=ob k;cases k
  exact Ic #[92] #[155] (iN c1) (O5.mpr c2) (bO c3) rfl
 ·cases h
def Aq:nU:=fun R g st=>match st with
 | .Expr a _ => if vK a = true then (match R.x g a with
   |some x=>some (iH x)
   |none=>(R.e g a).bind fun x=>some (sEx x)) else none
 |.Return none _=>some CN
 | .Return (some a) _ => (match R.x g a with
   |some x=>some (wK x)
   |none=>(R.e g a).bind fun x=>some (aK x))
 |.Pass _=>some CO
 |.If c st sf _=>(R.t g c).bind fun t=>(nQ (R.s g) st).bind fun x=>(nQ (R.s g) sf).bind fun y=>some (aR t x y)
 |.For tg a body [] _=>if g.lv=2/\kU a=true then (R.w g tg a).bind fun w=>(cG g tg).bind fun t=>(nQ (R.s g) body).bind fun x=>some (dC t w x) else none
 |_=>none
theorem DC:SS Aq:=fun {fa n R} rc {g X} o {a ga} h=>by
 unfold Aq at h
 split at h
 ·obtain ⟨c,h⟩:=oi h
  split at h
  ·next e=>cases h;exact Jc (rc.x o e) (vL c)
  ·obtain ⟨x,hx,h⟩:=ob h;cases h;exact JP #[92] (vL c)
 ·cases h;exact Fi
 ·split at h
  ·next e=>cases h;exact Ge (rc.x o e)
  ·obtain ⟨x,hx,h⟩:=ob h;cases h;exact HZ #[92]
 ·cases h;exact Fj
 ·obtain ⟨t,ht,h⟩:=ob h;obtain ⟨x,hx,h⟩:=ob h;obtain ⟨y,hy,h⟩:=ob h;cases h
  exact H9 (rc.t o ht) (iw (rc.s o) hx) (iw (rc.s o) hy)
 ·obtain ⟨⟨lv,c⟩,h⟩:=oi h
  obtain ⟨w,hw,h⟩:=ob h;obtain ⟨t,ht,h⟩:=ob h;obtain ⟨x,hx,h⟩:=ob h;cases h
  exact Ia (o.po lv) (o.calm #[0]) (rc.w o hw) (l5 o ht) (iw (rc.s o) hx) (zN c)
 ·cases h
def sR:nU:=fun R g st=>match st with
 | .Raise (some (.Call (.Name x _) (a :: es) [] _)) none _ => if 2 <= g.lv /\ jt g x = true then (match g.T.lookup x with
   |some (.xc k)=>#[287].bind fun gs=>some (jQ k gs)
   |some (.xi k)=>if notStar a=true/\es.isEmpty=true then (R.e g a).bind fun y=>some (gU k y) else none
   |_=>none) else none
 |_=>none
theorem xZ:SS sR:=fun {fa n R} rc {g X} o {a ga} h=>by
 unfold sR at h
 split at h
 ·obtain ⟨⟨lv,c⟩,k⟩:=oi h;clear h
  split at k
  ·next e=>
   obtain ⟨gs,hgs,k⟩:=ob k;cases k
   obtain ⟨d,ns⟩:=kA (rc.e o) hgs
   rw [NB,Ms] at ns
   obtain ⟨C,h1,h2,h3,_⟩:=o.T.xc e
   exact Eh _ ⟨C,h1,h2,h3⟩ (o.top lv).1 (dj o c).1 (o.calm #[0]) d (dj o c).2 ns.1 ns.2
  ·next e=>
   obtain ⟨⟨c1,c2⟩,k⟩:=oi k
   obtain ⟨y,hy,k⟩:=ob k;cases k
   rw [List.isEmpty_iff.mp c2]
   exact Bq _ (o.T.xi e).1 (Gi (o.hr #[0])) (o.top lv).1 (dj o c).1 (o.calm #[0]) #[155] (dj o c).2 c1
  ·cases k
 ·cases h
theorem uw {fa:Fa}{n:Nat}{g:G}{X:Cx}(o:eX fa n g X)(lv:2<=g.lv)(pn:List #[15])(E:Mq->Mx->Prop):eX fa n {g with lv:=3} (ku X pn E):=⟨o.N,o.nd,o.sc,o.T,o.tw,o.xf,fun _=>o.fn #[0],fun _=>o.calm #[0],fun _=>o.C #[0],fun _=>o.hr #[0],fun _=>o.top lv,#[20]⟩
theorem ux {fa:Fa}{n:Nat}{g:G}{X:Cx}(o:eX fa n g X)(lv:2<=g.lv)(v:Mq)(E:Mq->Mx->Prop):eX fa n {g with lv:=0} (pH X v E):=⟨o.N,o.nd,o.sc,o.T,o.tw,o.xf,fun _=>o.fn #[0],#[245],#[245],#[245],(fun z=>absurd (show 2<=0 from z) #[1]),#[20]⟩
def Ap:nU:=fun R g st=>match st with
 | .Try body [.ExceptHandler (some (.Name x _)) (some nm) (b :: suite) _] [] [] _ => if 2 <= g.lv /\ jt g x = true /\ g.sc.names.lookup nm = some .local then (match g.T.lookup x with
   |some .de=>(g.N.findIdx? (·==nm)).bind fun i=>(nQ (R.s {g with lv:=3}) body).bind fun u=>(nQ (R.s {g with lv:=0}) (b::suite)).bind fun v=>some (n4 u i v)
   |_=>none) else none
 |_=>none
theorem Dz:SS Ap:=fun {fa n R} rc {g X} o {a ga} h=>by
 unfold Ap at h
 split at h
 ·obtain ⟨⟨lv,c,c2⟩,k⟩:=oi h;clear h
  split at k
  ·next e=>
   obtain ⟨i,hi,k⟩:=ob k;obtain ⟨u,hu,k⟩:=ob k;obtain ⟨v,hv,k⟩:=ob k;cases k
   have tp:=o.top lv
   exact Jb o.T.xcs (o.T.de e) tp.1 tp.2.1 tp.2.2.1 (o.N ▸ o.nd) (sI o hi) (by rw [o.sc];exact c2) (dj o c).1 (dj o c).2 (fun pn E=>iw (rc.s (uw o lv pn E)) hu) (fun v E=>iw (rc.s (ux o lv v E)) hv)
  ·cases k
 ·cases h
def sS:nU:=fun R g st=>match st with
 |.Try body [.ExceptHandler (some (.Tuple [.Name x _,.Name y _] _ _)) none (b::suite) _] [] [] _=>if 2<=g.lv/\jt g x=true/\jt g y=true then (g.tw.find? fun q=>q.1==x&&q.2.1==y).bind fun q=>(nQ (R.s {g with lv:=3}) body).bind fun u=>(nQ (R.s {g with lv:=0}) (b::suite)).bind fun v=>some (mn u q.2.2.1 q.2.2.2 v) else none
 |_=>none
theorem ya:SS sS:=fun {fa n R} rc {g X} o {a ga} h=>by
 unfold sS at h
 split at h
 ·obtain ⟨⟨lv,c,c2⟩,k⟩:=oi h;clear h
  obtain ⟨q,hq,k⟩:=ob k;obtain ⟨u,hu,k⟩:=ob k;obtain ⟨v,hv,k⟩:=ob k;cases k
  have tw:=o.tw q (List.mem_of_find?_eq_some hq)
  have e:=List.find?_some hq
  rw [Ms] at e
  rw [eq_of_beq e.1,eq_of_beq e.2] at tw
  have tp:=o.top lv
  exact Ei tw tp.1 tp.2.1 tp.2.2.1 (dj o c).1 (dj o c2).1 (dj o c).2 (dj o c2).2 (fun pn E=>iw (rc.s (uw o lv pn E)) hu) (fun v E=>iw (rc.s (ux o lv v E)) hv)
 ·cases h
end LD
namespace LD
open PySem PySem.Spec PyProof.Rows L2
structure Ent where
 i:Nat
 x:Str
 st:Stmt
 ps:Nat
 N:List Str
 f:Addr
 pm:Str×Tok
 b:Call->GS
 r:Bool:=false
structure ma where
 T:List (Str×En)
 tw:List (Str×Str×Nat×Nat)
 xf:List Str
 dl:List (Str×List (Str×Nat))
 il:List (Str×Nat)
 cel:List (Nat×Nat×Nat)
 txt:List (Nat×Nat×Nat)
 rs:Rs
 tb:List Ent
def ma.g (t:ma)(e:Ent)(c:Call):G:=⟨t.T,t.tw,t.xf,t.cel,t.txt,c,e.N,aX e.st,2⟩
def ma.Pg (t:ma)(i:Nat):Option Df:=(t.tb.find? (·.i==i)).map fun e=>⟨e.ps,e.N.length,e.b⟩
def ma.rd (t:ma)(c:Call)(e:Ent):Option GS:=nQ ((It t.rs 60).s (t.g e c)) (dw e.st)
def B3 (e:Ent):Bool:=decide ((aX e.st).kind=.function)&&!(aX e.st).isCoroutine&&!(aX e.st).isGenerator&&decide e.N.Nodup&&(#[252].length==e.ps)&&(#[252].all fun x=>(aX e.st).names.lookup x==some .local||(aX e.st).names.lookup x==some .cell)&&((aX e.st).names.all (·.2 != .free))
theorem pO {e:Ent}(h:B3 e=true):g9 e.N #[252] (aX e.st)/\#[252].length=e.ps:=by
 unfold B3 at h
 simp only [Ms,decide_eq_true_eq,Oo,MC,Oj,beq_iff_eq,bne_iff_ne] at h
 obtain ⟨⟨⟨⟨⟨⟨h1,h2⟩,h3⟩,h4⟩,h5⟩,h6⟩,h7⟩:=h
 exact ⟨⟨h1,h2,h3,h4,by rw [h5],h6,h7⟩,h5⟩
def LP (e:Ent):Option Obj:=some ⟨.type "function",none,.func (PySem.W.fnOf e.x e.x (gr e.st) (dw e.st) (aX e.st) .none .none .none (.str e.pm.1 e.pm.2) none (.ref (e.f-1)) .none),#[]⟩
theorem pA {α β:Type}{f g:α->β}{l:List α}(h:l.map f=l.map g){a:α}(m:a∈l):f a=g a:=List.map_inj_left.mp h a m
def B4 (e:Ent)(us:List Mq)(kV doc pm:Mq)(an:Option Addr)(cdv ct:Mq):Sem (List (Str×Mq)):=bindArgs (PySem.W.fnOf e.x e.x (gr e.st) (dw e.st) (aX e.st) .none kV doc pm an cdv ct) ⟨us,[]⟩
def u9 (tb:List Ent)(k:Nat)(us:List Mq):Prop:=∀(kV doc pm:Mq) (an:Option Addr) (cdv ct:Mq),(tb.filter (·.ps==k)).map (fun e=>B4 e us kV doc pm an cdv ct)=(tb.filter (·.ps==k)).map fun e=>pure (#[252].zip us)
structure xS (t:ma):Prop where
 rs:Cu t.rs
 rd:∀c,t.tb.map (t.rd c)=t.tb.map fun e=>some (e.b c)
 sc:t.tb.all B3=true
 ar:t.tb.all (fun e=>e.ps==1||e.ps==2||e.ps==3||e.ps==4)=true
 a1:∀a,u9 t.tb 1 [a]
 a2:∀a b,u9 t.tb 2 [a,b]
 a3:∀a b c,u9 t.tb 3 [a,b,c]
 a4:∀a b c d,u9 t.tb 4 [a,b,c,d]
structure Iz (K:Mr) (tb:List Ent):Prop where
 ns:tb.map (fun e=>PySem.W.nsIn K mainGlobals e.x)=tb.map fun e=>some (some (.ref e.f))
 lk:tb.map (fun e=>K.lookup e.f)=tb.map LP
 ck:tb.all (fun e=>PySem.W.codeIn K (.ref (e.f-1)) e.x&&PySem.W.keepIn K (.ref e.f))=true
theorem vj {K:Mr}{h:Heap}{mg:Str->Option Mq}{tb:List Ent}(k:Iz K tb)(X:K.In h)(G:h.Ns mainGlobals mg){e:Ent}(m:e∈tb):mg e.x=some (.ref e.f)/\∃fd,r8 K e.x e.x e.st e.f fd:=by
 have c:=MC.mp k.ck e m
 rw [Ms] at c
 exact ⟨N0 X G (pA k.ns m),_,zM (pA k.lk m) c.1 c.2⟩
theorem A5 {t:ma}(T:xS t){e:Ent}(m:e∈t.tb)(kV doc pm:Mq)(an:Option Addr)(cdv ct:Mq):∀us:List Mq,us.length=#[252].length->B4 e us kV doc pm an cdv ct=pure (#[252].zip us):=by
 have hl:=(pO (MC.mp T.sc e m)).2
 have a:=MC.mp T.ar e m
 have f:∀{k:Nat}{us:List Mq},e.ps=k->u9 t.tb k us->B4 e us kV doc pm an cdv ct=pure (#[252].zip us):=fun {k us} hk ao=>pA (ao kV doc pm an cdv ct) (List.mem_filter.mpr ⟨m,by rw [hk];exact beq_self_eq_true k⟩)
 rw [hl]
 simp only [Oj,beq_iff_eq] at a
 rcases a with ((a|a)|a)|a
 ·rw [a];exact us1 (p:=fun us=>_=_) fun x=>a ▸ f a (T.a1 x)
 ·rw [a];exact Kf (p:=fun us=>_=_) fun x y=>a ▸ f a (T.a2 x y)
 ·rw [a];exact us3 (p:=fun us=>_=_) fun x y z=>a ▸ f a (T.a3 x y z)
 ·rw [a];exact us4 (p:=fun us=>_=_) fun x y z u=>a ▸ f a (T.a4 x y z u)
section
variable {fa:Fa}{P:MP}{w:Nd}{K:Mr}{mg:Str->Option Mq}{base:Heap}{t:ma}
theorem s9 (T:xS t)(TO:Ds fa P w K mg base t.T)(tw:∀q∈t.tw,wj fa K mg q.1 q.2.1 q.2.2.1 q.2.2.2)(xf:∀f∈t.xf,we fa K f){e:Ent}(m:e∈t.tb){ad:Addr}(call:Call)(n:Nat)(cdv:Mq)(A:Nr)(outer:List Np)(s:Mx)(H:Hp)(E:XK)
 (C:∀f,jk fa P w K mg base n f (call f)) (hr:cx (n+4) (A.deeper (envOfC e.x (aX e.st) s.heap.objs.size ad cdv))):kJ fa (fB (gD P w) P w K mg base e.N e.x (aX e.st) ad cdv A outer s H E) (dw e.st) (e.b call):=by
 have S:=(pO (MC.mp T.sc e m)).1
 exact iw ((Dw (n:=n) (fa:=fa) T.rs 60).s (g:=t.g e call) (X:=fB (gD P w) P w K mg base e.N e.x (aX e.st) ad cdv A outer s H E) ⟨rfl,S.nd,rfl,TO,tw,xf,fun _ _=>rfl,fun _=>rfl,fun _=>C,fun _=>hr,fun _=>⟨rfl,rfl,rfl,S.kind⟩,fun _=>PassesOwn.leaving⟩) (pA (T.rd call) m)
theorem A4 (T:xS t)(k:Iz K t.tb){h:Heap}(X:K.In h)(G:h.Ns mainGlobals mg)(TO:Ds fa P w K mg base t.T)(tw:∀q∈t.tw,wj fa K mg q.1 q.2.1 q.2.2.1 q.2.2.2)(xf:∀f∈t.xf,we fa K f)(hf:t.tb.all (fun e=>fa e.i==some e.f)=true) :
 ∀f d,t.Pg f=some d->xW fa P w K mg base f d:=by
 intro f d e
 unfold ma.Pg at e
 obtain ⟨en,he,rfl⟩:=MZ.mp e
 have m:=List.mem_of_find?_eq_some he
 have ei:en.i=f:=by have:=List.find?_some he;simpa using this
 obtain ⟨_,fd,F⟩:=vj k X G m
 obtain ⟨S,hl⟩:=pO (MC.mp T.sc en m)
 have fe:fa f=some en.f:=by rw [<- ei];exact eq_of_beq (MC.mp hf en m)
 exact ⟨en.f,fd,en.N.take en.ps,en.N,en.st,en.x,en.x,fe,F,F.binds (fun a b c d e f=>A5 T m a b c d e f),S,hl.symm,rfl,fun call n cdv A outer s H E C hr=>s9 T TO tw xf m call n cdv A outer s H E C hr⟩
def HR (K:Mr)(fa:Fa)(t:ma)(p:Str×En):Bool:=match p.2 with
 |.fn i _=>(match PySem.W.nsIn K mainGlobals p.1 with|some (some (.ref a))=>fa i==some a|_=>false)
 |.int i=>(match PySem.W.nsIn K mainGlobals p.1 with|some (some (.int j _))=>i==j|_=>false)
 |.xc k=>(match PySem.W.nsIn K mainGlobals p.1 with|some (some (.ref a))=>fa (fq k)==some a&&PySem.W.excIn K a mK "ValueError.__new__"&&PySem.W.keepIn K (.ref a)|_=>false)
 |.xi k=>(match PySem.W.nsIn K mainGlobals p.1 with|some (some (.ref a))=>fa (fq k)==some a&&t.il.contains (p.1,k)|_=>false)
 |.xk k=>(match PySem.W.nsIn K mainGlobals p.1 with|some (some (.ref a))=>fa (fq k)==some a|_=>false)
 |.de=>(match PySem.W.nsIn K mainGlobals p.1 with|some (some (.ref a))=>fa 999==some a|_=>false)
 |.bl=>(match PySem.W.nsIn K mainGlobals p.1 with|some none=>true|_=>false)
 |.dct fs=>t.dl.contains (p.1,fs)
theorem D5 {h:Heap}(X:K.In h)(G:h.Ns mainGlobals mg)(hT:t.T.all (HR K fa t)=true)(hx:mS fa K)(hd:AllP (fun q=>∃ad kvs,mg q.1=some (.ref ad)/\gv K w.params ad kvs/\fh fa kvs q.2) t.dl)(hi:AllP (fun q=>lz fa P w K mg base q.2 q.1) t.il):Ds fa P w K mg base t.T:=by
 have key:∀{x:Str}{e:En},t.T.lookup x=some e->HR K fa t (x,e)=true:=fun {x e} l=>MC.mp hT _ (mem_of_lookup l)
 refine ⟨fun {x i r} l ad ha=>?_,fun {x i} l=>?_,fun {x fs} l=>?_,fun {x k} l=>?_,fun {x k} l=>?_,fun {x k} l=>?_,fun {x} l=>?_,fun {x} l=>?_,hx⟩
 all_goals have b:=key l;unfold HR at b;dsimp only at b
 ·split at b
  ·next e=>have b:=eq_of_beq b;rw [ha] at b;cases b;exact N0 X G e
  ·cases b
 ·split at b
  ·next e=>have b:=eq_of_beq b;subst b;exact ⟨_,N0 X G e⟩
  ·cases b
 ·exact hd.mem (x,fs) (List.contains_iff_mem.mp b)
 ·split at b
  ·next e=>simp only [Ms] at b;exact ⟨_,N0 X G e,eq_of_beq b.1.1,b.1.2,b.2⟩
  ·cases b
 ·split at b
  ·next e=>rw [Ms] at b;exact ⟨hi.mem (x,k) (List.contains_iff_mem.mp b.2),_,N0 X G e,eq_of_beq b.1⟩
  ·cases b
 ·split at b
  ·next e=>exact ⟨_,N0 X G e,eq_of_beq b⟩
  ·cases b
 ·split at b
  ·next e=>exact ⟨_,N0 X G e,eq_of_beq b⟩
  ·cases b
 ·split at b
  ·next e=>exact PySem.W.mg_none_of X G e
  ·cases b
end
end LD
namespace LD
open PySem
abbrev gI (n:Int):GE:=gC (.int n)
abbrev gS (x:Str):GE:=gC (.str x)
abbrev gN:GE:=gC .non
abbrev uA:GE:=gC #[170]
abbrev vW:GE:=gC #[99]
abbrev rF:GS:=ag (aK vW) aj
end LD
namespace LD
open PySem
def dn:List (Str×Nat):=[("turn",7),("join",8),("move",9),("put",10)]
def dq:List (Str×Nat):=[("turn",20),("join",21),("move",22),("put",23)]
def gj (c:Call):GS:=ag (aR (eh (aw (bQ .bool (ae 0))) (bE (aw (bQ .int (ae 0))))) rF aj) (ag (aK (lX .le .le (ae 1) (ae 0) (ae 2))) aj)
def kC (c:Call):GS:=ag #[227] aj
def jC (c:Call):GS:=ag #[227] aj
def kD (c:Call):GS:=ag (aK (aq 0 c (aa (ae 0) (aa (gI 1) (aa (gI 3) ah))))) aj
def fJ (c:Call):GS:=ag (aK (dX (bQ .tuple (ae 1)) (aL .eq #[67] (ae 0)))) aj
def jB (c:Call):GS:=ag (aK (dX (aq 4 c #[12]) (a8 .all (aa (bX false 1 (.one 0) (eD (ae 1)) (bU (aq 1 c (aa (ae 1) #[31])))) ah)))) aj
def ff (c:Call):GS:=ag (aK (dX (aq 4 c #[12]) (a8 .all (aa (bX false 1 (.one 0) (eD (ae 1)) (bU (aq 5 c (aa (ae 1) #[31])))) ah)))) aj
def gY (c:Call):GS:=ag #[167] (ag (aJ (.tup [3,4,5]) (ae 2)) (ag (aK (dX (aq 2 c #[237]) (dX (aq 5 c (aa (ae 0) #[79])) (aq 3 c #[210])))) aj))
def g7 (c:Call):GS:=ag (aR (aw (aL .ne (a8 .len #[39]) (gI 4))) rF aj) (ag (aJ (.tup [3,4,5,6]) (ae 2)) (ag (aR (eh (bE (aw (aq 2 c #[237]))) (bE (aw (aq 2 c (aa (ae 1) #[79]))))) rF aj) (ag (aK (dX (aq 6 c (aa (ae 0) #[210])) (aq 3 c (aa (ae 6) ah)))) aj)))
def gZ (c:Call):GS:=ag #[167] (ag (aJ (.tup [3,4,5]) (ae 2)) (ag (aK (dX (aq 2 c #[237]) (dX (aq 2 c (aa (ae 1) #[79])) (aq 3 c #[210])))) aj))
def iP (c:Call):GS:=ag #[167] (ag (aJ (.tup [3,4,5]) (ae 2)) (ag (aK (dX (aq 2 c #[237]) (dX (aq 1 c (aa (ae 0) #[79])) (aq 3 c #[210])))) aj))
def g8 (c:Call):GS:=ag (aR (eh (bE (aw (bQ .tuple (ae 2)))) (bE (aw (ae 2)))) rF aj) (ag (aJ (.one 3) (aF (ae 2) (gI 0))) (ag (aR (eh (bE (aw (bQ .str (ae 3)))) (aw (jx dn (ae 3)))) rF aj) (ag (aJ (.one 4) (lW dn (ae 3))) (ag (aK (mE 4 c (aa (ae 0) (aa (ae 1) (aa (cv false true false (ae 2) (gI 1) gN) ah))))) aj))))
def gi (c:Call):GS:=ag (aR (bE (aw (aq 4 c (aa (gI 3) #[31])))) rF aj) (ag (aJ (.tup [1,2,3]) (ae 0)) (ag (aR (eh (bE (aw (aq 0 c (aa (ae 1) (aa (gI 2) (aa (gI 4) ah)))))) (bE (aw (aq 0 c (aa (ae 2) (aa (gI 1) (aa (gI 2) ah))))))) rF aj) (ag (aR (eh (bE (aw (bQ .tuple (ae 3)))) (bE (aw (lX .le .le (gI 1) (a8 .len #[50]) (gI 6))))) rF aj) (ag (aK (a8 .all (aa (bX false 1 (.one 0) (eD (ae 3)) (bU (aq 11 c (aa (ae 2) (aa (ae 3) #[31]))))) ah))) aj))))
def dD (c:Call):GS:=ag (aR (bE (aw (aq 12 c #[31]))) (ag (jQ 3 (aa (gS "this is no machine") ah)) aj) aj) aj
def ft (c:Call):GS:=ag (iH (dB 13 c #[31])) (ag (aJ (.tup [1,2,3]) (ae 0)) (ag (aJ (.one 4) (aP false (aa (bL ah) ah))) (ag (dC (.one 5) (dm (ae 2)) (ag (aJ (.one 4) (bX false 2 (.one 0) (eD (ae 4)) (uB (.one 1) (dm (ae 3)) (bU (au false .add (ae 0) (bL (aa (ae 1) ah))))))) aj)) (ag (aK (ae 4)) aj))))
def fE (c:Call):GS:=ag (aK (aq 0 c (aa (ae 1) #[89]))) aj
def cF (c:Call):GS:=ag (aR (bE (aw (bQ .list (ae 1)))) (ag (gU 0 (gI 0)) aj) aj) (ag (dC (.tup [2,3]) (ir (ae 1)) (ag (aR (bE (aw (aq 16 c (aa (ae 0) #[50])))) (ag (gU 0 (ae 2)) aj) aj) aj)) aj)
def dY (c:Call):GS:=ag (iH (dB 13 c #[31])) (ag (iH (dB 17 c #[12])) (ag (aR (aw #[338]) (ag (jQ 4 (aa (HL "a row has at most " " deeds" (gI 40)) ah)) aj) aj) aj))
def uZ (c:Call):GS:=ag (iH (dB 18 c #[12])) (ag (aK (aq 47 c #[12])) aj)
def oC (c:Call):GS:=ag (aJ (.tup [2,3,4,5]) (ae 0)) (ag (aK (aF (ae 4) (aF (ae 1) (ae 3)))) aj)
def oG (c:Call):GS:=ag (aJ (.tup [2,3,4,5,6]) (ae 0)) (ag (aK (aF (aF (ae 5) (aF (ae 1) (ae 3))) (aF (ae 1) (ae 4)))) aj)
def qH (c:Call):GS:=ag (aJ (.tup [2,3,4,5]) (ae 0)) (ag (aK (aF (ae 1) (ae 4))) aj)
def oE (c:Call):GS:=ag (aJ (.tup [2,3,4,5]) (ae 0)) (ag (aK (ae 4)) aj)
def uY (c:Call):GS:=ag (aJ (.one 2) (lW dq #[32])) (ag (aJ (.one 3) #[90]) (ag (aK (au false .add (au false .add (cv false false true (ae 1) gN (ae 3)) (bL (aa (mE 2 c #[12]) ah))) (cv false true false (ae 1) (au false .add (ae 3) (gI 1)) gN))) aj))
def iQ (c:Call):GS:=ag (aJ (.one 3) (aP true #[39])) (ag (dC (.one 4) (eD (ae 1)) (ag (jm (ae 3) (aq 24 c (aa (aF #[35] (ae 4)) (aa (aF (ae 3) (fz (gI 1))) ah)))) aj)) (ag (aK (ae 3)) aj))
def i5 (c:Call):GS:=ag (iH (dB 18 c #[12])) (ag (aK (aq 46 c #[12])) aj)
def jq (c:Call):GS:=ag (aR (aw (aL .ge (ae 0) (au false .pow (gI 10) (gI 18)))) (ag (aK (ae 0)) aj) aj) (ag (aJ (.one 2) (aP false (aa (gI 2147483629) (aa (gI 2147483587) (aa (gI 2147483579) (aa (gI 2147483563) (aa (gI 2147483549) (aa (gI 2147483543) (aa (gI 2147483497) (aa (gI 2147483489) ah)))))))))) (ag (aJ (.one 2) (au false .add (ae 2) (aP false (aa (gI 2147483477) (aa (gI 2147483423) (aa (gI 2147483399) (aa (gI 2147483353) (aa (gI 2147483323) ah)))))))) (ag (aJ (.one 3) (au false .mod (au false .pow (au false .add (au false .add (au false .mul (au false .mod (ae 0) (gI 1000000007)) (au false .add (au false .mul (gI 2) (ae 1)) (gI 69069))) (au false .mul (ae 1) (gI 40503))) (gI 977)) (gI 3)) (aF (ae 2) (au false .mod (ae 1) (gI 13))))) (ag (aJ (.one 4) (au false .mod (au false .pow (au false .add (au false .add (au false .mul (ae 3) (au false .add (ae 1) (gI 3))) (au false .mod (ae 0) (gI 65537))) (gI 5)) (gI 5)) (aF (ae 2) (au false .mod (au false .add (ae 1) (gI 5)) (gI 13))))) (ag (aJ (.one 5) (au false .mod (au false .pow (au false .add (au false .add (ae 4) (au false .mod (ae 3) (gI 1009))) (ae 1)) (gI 3)) (aF (ae 2) (au false .mod (au false .add (ae 1) (gI 7)) (gI 13))))) (ag (aK (au false .add (au false .mul (au false .add (au false .mul (ae 3) (gI 2147483647)) (ae 4)) (gI 2147483647)) (ae 5))) aj))))))
def kL (c:Call):GS:=ag (aJ (.one 1) (a8 (.list true) (aa (cv false false true (ae 0) gN (gI 12)) ah))) (ag (dC (.tup [2,3]) (ir (cv false true true (ae 0) (gI 12) (gI 63))) (ag (f6 (ae 1) (au false .mod (ae 2) (gI 12)) (au false .add (aF (ae 1) (au false .mod (ae 2) (gI 12))) (ae 3))) aj)) (ag (aK (aP true (aa (ae 1) (aa (gI 0) (aa (gI 0) ah))))) aj))
def kM (c:Call):GS:=ag (f6 (ae 0) (gI 2) (gI 0)) (ag (aK (ae 0)) aj)
def nS (c:Call):GS:=ag (aR (aw (aL .lt #[35] (ae 1))) (ag (aJ (.one 2) #[90]) (ag (aJ (.one 3) (gI 0)) (ag (aR (aw (aL .lt (ae 2) (a8 .len (aa #[32] ah)))) (ag (aJ (.one 3) (aF #[32] (ae 2))) aj) (ag (aR (aw (aL .gt (a8 .len (aa #[32] ah)) (gI 0))) (ag (aJ (.one 3) (au false .mod (aF #[32] (au false .mod (au false .add (au false .mul (ae 2) (gI 5)) (gI 3)) (a8 .len (aa #[32] ah)))) (au false .add (au false .pow (gI 10) (gI 17)) (ae 2)))) aj) aj) aj)) (ag (f6 (ae 0) (gI 1) #[352]) #[339])))) aj) (ag (aJ (.one 4) (au false .mod #[35] (ae 1))) #[232])
def jD (c:Call):GS:=ag (aJ (.one 2) (aq 31 c (aa (ae 0) (aa (gI 6) ah)))) (ag (aJ (.one 3) (aq 31 c #[12])) (ag (aJ (.one 4) (aq 31 c #[12])) (ag (aR (aw (aL .lt (ae 2) (gI 2))) (ag (aK (a8 .tuple (aa (bX false 1 (.one 0) (dm (ae 1)) (bU (aq 31 c #[293]))) ah))) aj) aj) (ag (aR (aw (aL .eq (ae 2) (gI 2))) (ag (aK (a8 .tuple (aa (bX false 1 (.one 0) (dm (ae 1)) (bU (au false .mod (au false .add (au false .add (ae 0) (gI 1)) (ae 4)) (ae 2)))) ah))) aj) aj) (ag (aR (aw (aL .eq (ae 2) (gI 3))) (ag (aK (a8 .tuple (aa (bX false 1 (.one 0) (dm (ae 1)) (bU (fR (aw (aL .eq (ae 0) (ae 4))) (ae 5) (ae 0)))) ah))) aj) aj) (ag (aR (aw (aL .eq (ae 2) (gI 4))) (ag (aK (au false .mul (bL #[50]) (ae 1))) aj) aj) (ag (aJ (.one 5) (mD true (ae 1))) (ag (f6 (ae 5) (ae 3) (ae 4)) (ag (f6 (ae 5) (ae 4) (ae 3)) (ag (aK (a8 .tuple #[210])) aj))))))))))
def i6 (c:Call):GS:=ag (aJ (.one 3) (aq 31 c (aa (ae 0) (aa (gI 8) ah)))) (ag (aJ (.one 4) (au false .add (gI 1) (aq 31 c (aa (ae 0) (aa (gI 3) ah))))) (ag (aJ (.one 5) (aq 31 c #[294])) (ag (aJ (.one 6) (aq 31 c #[294])) (ag (aR (aw (aL .lt (ae 3) (gI 3))) (ag (aK (bL (aa (gS "turn") (aa (ae 5) (aa (aq 32 c #[12]) #[79]))))) aj) aj) (ag (aR (aw (aL .lt (ae 3) (gI 5))) (ag (aK (bL (aa (gS "move") (aa (ae 5) (aa (fR (aw (aL .eq (ae 3) (gI 3))) #[353] (ae 6)) #[79]))))) aj) aj) (ag (aR (aw (aL .eq (ae 3) (gI 5))) (ag (aK (bL (aa (gS "put") (aa (ae 5) (aa (aq 31 c #[12]) #[79]))))) aj) aj) (ag (aK (bL (aa (gS "join") (aa (ae 5) (aa (ae 6) (aa (a8 .tuple (aa (bX false 1 (.one 0) (dm (ae 1)) (bU (aq 32 c #[293]))) ah)) #[79])))))) aj)))))))
def gu (c:Call):GS:=ag (aJ (.one 1) (au false .add (gI 2) (aq 31 c (aa (ae 0) #[257])))) (ag (aJ (.one 2) (au false .add (gI 1) (aq 31 c #[294]))) (ag (aJ (.one 4) (aP true ah)) (ag (dC (.one 5) (dm (au false .add (gI 1) (aq 31 c (aa (ae 0) #[50])))) (ag (aJ (.one 6) #[142]) (ag (aJ (.one 7) (aq 33 c (aa (ae 0) #[293]))) (ag (aR (gO (aw (aL .eq (ae 6) (gI 0))) (aw (aL .ne (ae 4) #[162]))) (ag (aJ (.one 7) (au false .add (cv false false true (aF (ae 4) (aq 31 c (aa (ae 0) (aa (a8 .len #[79]) ah)))) gN (fz (gI 1))) (bL (aa (aF (ae 7) (fz (gI 1))) ah)))) aj) aj) (ag (jm (ae 4) (ae 7)) aj))))) (ag (aK (bL (aa (ae 1) (aa (ae 2) (aa (a8 .tuple #[79]) ah))))) aj))))
def fF (c:Call):GS:=ag (aJ (.one 3) (aq 31 c (aa (ae 0) (aa (gI 4) ah)))) (ag (aJ (.one 4) (fR (aw (aL .eq (ae 3) (gI 0))) (ae 2) (aq 31 c (aa (ae 0) (aa #[352] ah))))) (ag (aJ (.one 5) (bX false 1 (.one 0) (dm (ae 4)) (bU (aq 31 c (aa (ae 1) (aa (a8 .len (aa (aF (ae 2) (gI 2)) ah)) ah)))))) (ag (aR (aw (aL .eq (ae 3) (gI 1))) (ag (aJ (.one 5) (cv false false true (au false .mul (cv false false true (ae 5) gN (gI 2)) (ae 4)) gN (ae 4))) aj) aj) (ag (aK (ae 5)) aj))))
def d8 (c:Call):GS:=ag (aR (aw (aL .isN (ae 1) gN)) (ag (aK (aL .isN (ae 0) gN)) aj) aj) (ag (aR (eh (aw (bQ .bool (ae 1))) (aw (bQ .bool (ae 0)))) (ag (aK (dX (bQ .bool (ae 1)) (dX (bQ .bool (ae 0)) (aL .eq (ae 0) (ae 1))))) aj) aj) (ag (aR (aw (bQ .int (ae 1))) (ag (aK (dX (bQ .int (ae 0)) (aL .eq (ae 0) (ae 1)))) aj) aj) (ag (aR (aw (bQ .str (ae 1))) (ag (aK (dX (bQ .str (ae 0)) (aL .eq (ae 0) (ae 1)))) aj) aj) (ag (aR (eh (aw (aL .ne (bQ .tuple (ae 1)) (bQ .tuple (ae 0)))) (aw (aL .ne (bQ .list (ae 1)) (bQ .list (ae 0))))) rF aj) (ag (aR (aw (aL .ne (a8 .len #[31]) #[67])) rF aj) #[149])))))
def j5 (c:Call):GS:=ag (aJ (.one 2) (a8 (.list true) (aa (ae 1) ah))) (ag (aJ (.one 3) (aF (ae 1) #[90])) (ag (aR (aw (aL .eq #[32] (gS "turn"))) (ag (f6 (ae 2) #[90] (aF #[35] (ae 3))) aj) aj) (ag (aR (aw (aL .eq #[32] (gS "join"))) (ag (f6 (ae 2) #[90] (aF (aF (aF (ae 0) (gI 3)) (ae 3)) (aF (ae 1) #[35]))) aj) aj) (ag (aR (aw (aL .eq #[32] (gS "move"))) (ag (f6 (ae 2) #[90] (aF (ae 1) #[35])) aj) aj) (ag (aR (aw (aL .eq #[32] (gS "put"))) (ag (f6 (ae 2) #[90] #[35]) aj) aj) (ag (aK (a8 .tuple #[39])) aj))))))
def jr (c:Call):GS:=ag (aR (aw (aL .eq #[90] (gI 1))) (ag (aK (bX false 1 (.one 0) (dm #[32]) (bU (bL #[31])))) aj) aj) (ag (aK (bX false 1 (.one 0) (dm (au false .mul #[32] #[32])) (bU (bL (aa (au false .fdiv (ae 0) (aF (ae 1) (gI 0))) (aa (au false .mod (ae 0) (aF (ae 1) (gI 0))) ah)))))) aj)
def cW (c:Call):GS:=ag (aJ (.one 2) (aP true ah)) (ag (dC (.one 3) (eD (aq 42 c #[31])) (ag (dC (.one 4) (eD (ae 1)) (ag (aJ (.one 3) (aq 41 c (aa (aF #[35] (ae 4)) #[50]))) aj)) (ag (jm (ae 2) (ae 3)) aj))) (ag (aK (a8 .tuple #[39])) aj))
def ji (c:Call):GS:=ag (aK (a8 .tuple (aa (bX false 1 (.one 0) (eD (aq 15 c #[31])) (bU (aF (aq 25 c (aa (ae 1) (aa (ae 2) #[31]))) (fz (gI 1))))) ah))) aj
def oF (c:Call):GS:=ag (iW (.one 3) (dB 27 c #[12])) (ag (iW (.one 4) (dB 27 c #[294])) (ag (dC (.tup [5,6,7]) (pI (aq 15 c #[31]) (ae 3) (ae 4)) (ag (aR (aw (aL .ne (ae 6) (ae 7))) (ag (aK (ae 5)) aj) aj) aj)) (ag (aK gN) aj)))
def eT (c:Call):GS:=ag (aJ (.one 2) (au false .add (bX false 1 (.one 0) (dm (gI 9)) (bU (aq 35 c (aa (ae 1) (aa (ae 2) (aa (gI 3) ah)))))) (aP false (aa #[162] (aa #[48] ah))))) (ag (aJ (.one 3) (aP true (aa (bL (aa (aF (ae 2) (gI 0)) (aa (a8 (.list false) (aa (aF (ae 2) (gI 0)) ah)) ah))) ah))) (ag (dC (.tup [4,5]) (ir (ae 2)) (ag (dC (.one 6) (eD (cv false false true (ae 2) gN (ae 4))) (ag (aR (gO (aw (aL .ne (ae 5) (ae 6))) (aw (aL .eq (aq 44 c (aa (ae 1) #[210])) (aq 44 c (aa (ae 1) (aa (ae 6) ah)))))) (ag (jm (ae 3) (bL (aa (ae 5) (aa (a8 (.list false) (aa (ae 6) ah)) ah)))) aj) aj) aj)) aj)) (ag (aK (ae 3)) aj)))
def iO (c:Call):GS:=ag (mn (ag (iH (dB 18 c #[12])) aj) 0 4 rF) (ag (aK uA) aj)
def jh (c:Call):GS:=ag (aR (bE (aw (aq 4 c (aa (gI 2) (aa (ae 1) ah))))) rF aj) (ag (aJ (.tup [2,3]) (ae 1)) (ag (aK (dX (aq 52 c #[294]) (dX (aq 52 c (aa (ae 0) #[50])) (aL .isN (aq 48 c (aa (ae 0) (aa (ae 2) #[50]))) gN)))) aj))
def du (c:Call):GS:=ag (iH (dB 13 c #[31])) (ag (dC (.tup [2,3]) (ir (ae 1)) (ag (aR (bE (aw (aq 53 c (aa (ae 0) #[50])))) (ag (gU 1 (ae 2)) aj) aj) aj)) aj)
def gG (c:Call):GS:=ag (aK (bX false 2 (.tup [0,1]) (eD (ae 0)) (bU (bL (aa (a8 (.list false) #[31]) (aa (a8 (.list false) (aa (ae 1) ah)) ah)))))) aj
def fV (c:Call):GS:=ag (aJ (.one 2) (gS " !\"#$&'()*+,-./0123456789:;<=>?@ABCDEFGHIJKLMNOPQRSTUVWXYZ[\\]^_`")) (ag (aJ (.one 2) (au false .add (ae 2) (gS "abcdefghijklmnopqrstuvwxyz{|}~\t\n"))) (ag (aJ (.one 3) (bX false 1 (.one 0) (pJ (ae 2)) (k9 (aw (aL .notin (ae 0) (ae 2))) (bU (ae 0))))) (ag (aK (aF (ae 3) (aq 31 c (aa (ae 0) (aa (a8 .len #[50]) ah))))) aj)))
def fX (c:Call):GS:=ag (aK (aq 64 c (aa (ae 0) (aa (gS "") ah)))) aj
def gF (c:Call):GS:=ag (aJ (.one 2) (aq 31 c (aa (ae 0) (aa (au false .add #[67] (gI 1)) ah)))) (ag (aK (au false .add (au false .add (nr false true (ae 1) gN (ae 2)) (aq 65 c #[31])) (nr true false (ae 1) (au false .add (ae 2) (aq 31 c (aa (ae 0) (aa (gI 2) ah)))) gN))) aj)
def kF (c:Call):GS:=ag (aK (dX (bQ .int (ae 0)) (HJ (bQ .bool (ae 0))))) aj
def mM (c:Call):GS:=ag (aK (dX (aq 67 c #[31]) (lX .le .le (ae 1) (ae 0) (ae 2)))) aj
def iR (c:Call):GS:=ag (aR (eh (bE (aw (bQ .tuple (ae 0)))) (aw (aL .ne (a8 .len #[31]) (ae 1)))) rF aj) (ag (aK (aL .eq (bX false 1 (.one 0) (eD (ae 0)) (k9 (bE (aw (aq 68 c (aa (ae 0) (aa (ae 3) #[79]))))) (bU (gI 1)))) #[162])) aj)
def bt (c:Call):GS:=ag (aR (eh (bE (aw (bQ .tuple (ae 0)))) (aw (aL .notin (a8 .len #[31]) (bL (aa (gI 4) (aa (gI 5) ah)))))) rF aj) (ag (aR (eh (aw (aL .notin #[32] (bL (aa (gS "turn") (aa (gS "join") (aa (gS "move") (aa (gS "put") ah))))))) (aw (aL .ne (aL .eq (a8 .len #[31]) (gI 5)) (aL .eq #[32] (gS "join"))))) rF aj) (ag (aR (eh (bE (aw (aq 69 c (aa (bL (aa #[90] ah)) (aa (gI 1) #[83]))))) (bE (aw (aq 68 c #[322])))) rF aj) (ag (aR (aw (aL .eq #[32] (gS "turn"))) (ag (aK (aq 69 c (aa #[35] (aa (ae 1) (aa (gI 0) #[257]))))) aj) aj) (ag (aR (aw (aL .eq #[32] (gS "put"))) (ag (aK (aq 68 c (aa #[35] (aa (gI 0) #[257])))) aj) aj) (ag (aR (bE (aw (aq 68 c (aa #[35] #[83])))) rF aj) (ag (aR (aw (aL .eq #[32] (gS "move"))) (ag (aK uA) aj) aj) (ag (aR (eh (bE (aw (bQ .tuple (aF (ae 0) (gI 3))))) (aw (aL .ne (a8 .len (aa (aF (ae 0) (gI 3)) ah)) (ae 1)))) rF aj) (ag (aK (aL .eq (bX false 1 (.one 0) (eD (aF (ae 0) (gI 3))) (k9 (bE (aw (aq 69 c (aa (ae 0) (aa (ae 2) #[83]))))) (bU (gI 1)))) #[162])) aj))))))))
def fg (c:Call):GS:=ag (aR (eh (bE (aw (bQ .tuple (ae 0)))) (eh (aw (aL .ne (a8 .len #[31]) (gI 3))) (bE (aw (aq 68 c (aa #[32] (aa (gI 2) (aa (gI 4) ah)))))))) rF aj) (ag (aR (eh (bE (aw (aq 68 c (aa #[90] (aa (gI 1) (aa (gI 2) ah)))))) (eh (bE (aw (bQ .tuple #[35]))) (bE (aw (lX .le .le (gI 1) (a8 .len (aa #[35] ah)) (gI 6)))))) rF aj) (ag (aK (aL .eq (bX false 1 (.one 0) (eD #[35]) (k9 (bE (aw (aq 70 c (aa (ae 0) (aa (aF (ae 1) (gI 0)) (aa (aF (ae 1) (gI 1)) ah)))))) (bU (gI 1)))) #[162])) aj))
noncomputable def i7 (c:Call):GS:=ag (aJ (.one 3) (aq 31 c (aa (ae 0) (aa (gI 8) ah)))) (ag (aJ (.one 4) (aq 31 c (aa (ae 0) (aa (gI 20) ah)))) (ag (aJ (.one 5) (au false .sub (aq 31 c (aa (ae 0) (aa (gI 9) ah))) (gI 2))) (ag (aR (gO (aw (bQ .tuple (ae 1))) (gO (aw (aL .ne (ae 1) (bL ah))) (gO (aw (aL .gt (ae 2) (gI 0))) (aw (aL .gt (ae 4) (gI 4)))))) (ag (aJ (.one 6) (aq 31 c (aa (ae 0) (aa #[67] ah)))) (ag (aK (au false .add (au false .add (cv false false true (ae 1) gN (ae 6)) (bL (aa (aq 72 c (aa (ae 0) (aa (aF (ae 1) (ae 6)) (aa (au false .sub (ae 2) (gI 1)) ah)))) ah))) (cv false true false (ae 1) (au false .add (ae 6) (gI 1)) gN))) aj)) aj) (ag (aJ (.one 7) #[9]) (ag (aJ (.one 7) #[23]) (ag #[11] (ag #[21] #[84])))))))
def d9 (c:Call):GS:=ag (aJ (.one 1) (aP false (aa (cm (some 0) (ae 0)) (aa (cm (some 1) (ae 0)) (aa (cm (some 2) (ae 0)) ah))))) (ag (aJ (.one 1) (au false .add (ae 1) (aP false (aa (cm (some 3) (ae 0)) (aa (cm (some 4) (ae 0)) (aa (cm (some 5) (ae 0)) ah)))))) (ag (aJ (.one 1) (au false .add (ae 1) (aP false (aa (cm (some 6) (ae 0)) (aa (cm (some 7) (ae 0)) (aa (cm (some 8) (ae 0)) ah)))))) (ag (aJ (.one 1) (au false .add (ae 1) (aP false (aa (cm (some 9) (ae 0)) (aa (cm (some 10) (ae 0)) (aa (cm (some 11) (ae 0)) ah)))))) (ag (aJ (.one 1) (au false .add (ae 1) (aP false (aa (cm (some 12) (ae 0)) (aa (cm (some 13) (ae 0)) ah))))) (ag (aR (eh (aw (aL .ne (xC (ae 1)) (gI 1))) (eh (bE (aw (cm none (ae 0)))) (bE (aw (cm none (ae 0)))))) (ag (aK (aP false (aa (gS "odd") ah))) aj) aj) (ag (aR (aw (aF (ae 1) (gI 0))) (ag (aK (aP false (aa (gS "row") (aa (jZ "place" (ae 0)) ah)))) aj) aj) (ag (aR (aw (aF (ae 1) (gI 1))) (ag (aK (aP false (aa (gS "rule") (aa (jZ "number" (ae 0)) ah)))) aj) aj) (ag (aR (aw (aF (ae 1) (gI 2))) (ag (aK (aP false (aa (gS "step") (aa (jZ "place" (ae 0)) ah)))) aj) aj) (ag (aJ (.one 2) (aP false (aa (gS "machine") (aa (gS "long") (aa (gS "word") (aa (gS "work") (aa (gS "bound") (aa (gS "many") (aa (gS "place") (aa (gS "deed") (aa (gS "nothing") (aa (gS "text") (aa (gS "line") ah))))))))))))) (ag (aK (aP false (aa (aF (ae 2) (au false .sub (xB (ae 1)) (gI 3))) ah))) aj))))))))))
def cn (c:Call):GS:=ag #[65] (ag (aR (bE (aw (bQ .list (ae 1)))) (ag (aK (aP false (aa (gS "row") (aa (gI 0) ah)))) aj) aj) (ag (dC (.tup [2,3]) (ir (ae 1)) (ag (aR (bE (aw (aq 68 c (aa (ae 3) #[89])))) (ag (aK (aP false (aa (gS "row") #[39]))) aj) aj) aj)) (ag (aK (fR (aw #[338]) (aP false (aa (gS "long") ah)) gN)) aj)))
def qJ (c:Call):GS:=ag (aJ (.one 3) gN) (ag (aJ (.one 4) gN) (ag (n4 (ag (aR (aw (aL .eq (ae 0) (gI 0))) (ag (iW (.one 4) (dB 18 c #[293])) aj) (ag (iW (.one 4) (dB 19 c #[293])) aj)) aj) 5 (ag (aJ (.one 3) (ae 5)) aj)) (ag (aK (fR #[298] (aP false #[79]) (aq 75 c #[50]))) aj)))
def qI (c:Call):GS:=ag (aJ (.one 3) gN) (ag (n4 (ag (iH (dB 48 c (aa (ae 0) #[293]))) aj) 4 (ag (aJ (.one 3) (ae 4)) aj)) (ag (aK (fR #[298] (aP false (aa (gS "told") ah)) (aq 75 c #[50]))) aj))
def sm (c:Call):GS:=ag (aJ (.one 3) (aq 90 c #[12])) (ag (aR #[298] (ag (aJ (.one 3) (aq 90 c #[294])) aj) aj) (ag (aK (fR #[298] (aP false (aa (gS "told") ah)) (ae 3))) aj))
def sk (c:Call):GS:=ag (aJ (.one 3) #[142]) (ag (aJ (.one 4) (aq 31 c (aa (ae 0) (aa (au false .add (a8 .len #[39]) (gI 1)) ah)))) (ag (aR (aw (aL .eq (ae 3) (gI 0))) (ag (aK (ae 2)) aj) aj) (ag (aR (aw (aL .eq (ae 3) (gI 1))) (ag (aK (cv false false true (au false .add (ae 2) (au false .mul #[48] (gI 41))) gN (gI 41))) aj) aj) (ag (aR (aw (aL .eq (ae 3) (gI 2))) (ag (aK (aF (aP false (aa gN (aa (a8 .tuple #[39]) (aa (gS "0") (aa (gI 7) (aa (bL ah) ah)))))) #[142])) aj) aj) (ag (aK (au false .add (au false .add (au false .add (cv false false true (ae 2) gN (ae 4)) #[258]) (cv false true false (ae 2) (ae 4) gN)) (au false .mul #[48] (au false .mul (gI 40) (au false .sub (ae 3) (gI 3)))))) aj)))))
def FG (c:Call):GS:=ag (aJ (.one 1) (aq 29 c #[31])) (ag (dC (.one 2) (dm (gI 5)) (ag #[151] (ag (aJ (.one 4) (aq 72 c (aa (ae 1) (aa (ae 3) (aa (gI 5) ah))))) (ag (aJ (.one 5) (aq 35 c (aa (ae 1) (aa (ae 3) (aa (gI 6) ah))))) (ag (dC (.one 6) (dm (gI 6)) (ag (aJ (.one 7) (aq 96 c (aa (ae 1) (aa (ae 3) #[210])))) (ag (aJ (.one 8) (aq 96 c (aa (ae 1) (aa (ae 3) (aa (ow false (ae 5)) ah))))) (ag (dC (.one 9) (eD (aP false (aa (ae 3) #[79]))) (ag (aJ (.one 10) (iq (aa (aP false #[266]) ah))) (ag (aJ (.one 11) (aq 95 c (aa (ae 9) #[266]))) (ag (aR (eh (bE (aw (aq 40 c (aa (aq 94 c (aa (ae 9) #[266])) (aa (ae 11) ah))))) (aw (aL .ne (iq (aa (aP false #[266]) ah)) (ae 10)))) rF aj) aj)))) aj)))) aj))))) (ag (aK uA) aj))
def dF (c:Call):GS:=ag (dC (.one 2) (dm (gI 6)) (ag (aJ (.one 3) #[163]) (ag (aJ (.one 4) #[163]) (ag (aR (aw (aL .ne (aq 44 c #[237]) (aq 44 c (aa (ae 1) #[79])))) (ag (aK (bL (aa (ae 3) #[79]))) aj) aj) aj)))) (ag (aK gN) aj)
def cZ (c:Call):GS:=ag (aJ (.one 2) gN) (ag (aJ (.one 3) (gI 0)) (ag (n4 (ag (iW (.one 3) (dB 54 c #[12])) aj) 4 (ag (aJ (.one 2) (ae 4)) aj)) (ag (aK (fR (aw (aL .isN (ae 2) gN)) (aP false #[50]) (aq 75 c #[39]))) aj)))
def cY (c:Call):GS:=ag #[65] (ag (dC (.tup [2,3]) (ir (ae 1)) #[16]) (ag (aK (aP false (aa gN ah))) aj))
def fW (c:Call):GS:=ag (aJ (.one 2) #[142]) (ag (aJ (.one 3) #[163]) (ag (aJ (.one 4) (aq 31 c (aa (ae 0) (aa (au false .add (a8 .len #[50]) (gI 1)) ah)))) (ag (aR (aw (aL .lt (ae 2) (gI 2))) (ag (aJ (.one 5) (aq 101 c #[12])) (ag (aK (fR (aw (aL .isN (ae 5) gN)) (bL (aa #[162] (aa #[162] ah))) (ae 5))) aj)) aj) (ag (aR (aw (aL .eq (ae 2) (gI 2))) (ag (aJ (.one 5) (bL (aa (ae 3) (aa (au false .add (au false .add (cv false false true (ae 3) gN (ae 4)) #[258]) (cv false true false (ae 3) (ae 4) gN)) ah)))) (ag (aK (qv (ae 5) #[181])) aj)) aj) (ag (aR (aw (aL .eq (ae 2) (gI 3))) (ag (aK (bL (aa (au false .add (au false .add (cv false false true (ae 3) gN (ae 4)) (aP false (aa (a8 .len (aa (aF (ae 1) (gI 2)) ah)) ah))) (cv false true false (ae 3) (ae 4) gN)) #[50]))) aj) aj) (ag (aK (qv (bL (aa (au false .mul #[48] (aF (aP false (aa (gI 41) (aa (gI 41) (aa (gI 29) ah)))) (aq 31 c (aa (ae 0) (aa (gI 3) ah))))) (aa (au false .mul #[48] (gI 41)) ah))) #[181])) aj))))))
noncomputable def nI (c:Call):GS:=ag (aJ (.one 1) (aq 29 c #[31])) (ag (dC (.one 2) (dm (gI 4)) (ag #[151] (ag (aJ (.one 4) (aq 49 c #[237])) (ag (aJ (.one 5) (bX false 1 (.one 0) (dm (aq 31 c (aa (ae 1) (aa (gI 6) ah)))) (bU (aF (ae 5) (aq 31 c (aa (ae 2) (aa (a8 .len #[210]) ah))))))) (ag (aJ (.one 6) (aP true (aa (ae 5) (aa (au false .add (aP false #[175]) (ae 5)) ah)))) (ag (dC (.one 7) (dm (gI 4)) #[10]) (ag (dC (.one 8) (eD (ae 6)) #[25]) (ag (aJ (.one 13) (aq 72 c (aa (ae 1) (aa (ae 3) (aa (gI 5) ah))))) (ag (dC (.one 8) (eD (aP false #[323])) #[70]) aj))))))))) (ag (aK uA) aj))
end LD
namespace LD
open PySem
@[simp] theorem br {α β:Type}{r:Res α}{f:α->Mem->Res β}{k:β->Mem->Prop}:ai (r.bind f) k↔ai r fun a M=>ai (f a M) k:=by cases r<;>rfl
@[simp] theorem dW {α:Type}{a:α}{M:Mem}{k:α->Mem->Prop}:ai (.ok a M) k↔k a M:=NG
@[simp] theorem MH {α:Type}{k:α->Mem->Prop}:ai (.bad:Res α) k↔False:=NG
@[simp] theorem jU {α:Type}{M:Mem}{o:Option α}{k:α->Mem->Prop}:ai (cV M o) k↔∃a,o=some a/\k a M:=by cases o<;>simp [cV]
theorem lN {α:Type}{r:Res α}{k:α->Mem->Prop}:ai r k↔∃a M,r=.ok a M/\k a M:=by
 cases r with
 |ok a M=>exact ⟨fun h=>⟨a,M,rfl,h⟩,fun ⟨_,_,e,h⟩=>by cases e;exact h⟩
 |err=>simp [ai]
 |bad=>simp [ai]
theorem nE {x y:D}{M:Mem}{v:Bool}(px:aA 64 (view M x)=true)(py:aA 64 (view M y)=true)(h:bq (view M x) (view M y)=v):bx .eq x y M=some v:=by
 have e:pN (view M x) (view M y)=some v:=by unfold pN;rw [px,py,h];simp
 show la M x y=_
 unfold la;rw [e]
theorem iM {x y:D}{M:Mem}{v:Bool}(px:aA 64 (view M x)=true)(py:aA 64 (view M y)=true)(h:bq (view M x) (view M y)=v):bx .ne x y M=some (!v):=by
 show (bx .eq x y M).map (!·)=_
 rw [nE px py h];rfl
section
variable {Z:Env}{M:Mem}{a b d lo hi:GE}{s:GA}{t u:GT}{k:D->Mem->Prop}{c:Call}
@[simp] theorem aU {i:Nat}:ai (ae i Z M) k↔∃d,Z[i]?.getD none=some d/\k d M:=by simp [ae]
@[simp] theorem cS {d:D}:ai (gC d Z M) k↔k d M:=NG
@[simp] theorem dz {m:Bool}{o:lA}:ai (au m o a b Z M) k↔ai (a Z M) fun x M=>ai (b Z M) fun y M=>ai (eW m o x y M) k:=by simp [au]
@[simp] theorem fT {o:j7}:ai (aL o a b Z M) k↔ai (a Z M) fun x M=>ai (b Z M) fun y M=>∃v,bx o x y M=some v/\k (.bl v) M:=by simp [aL]
@[simp] theorem JN {o o':j7}:ai (lX o o' a b d Z M) k↔ai (a Z M) fun x M=>ai (b Z M) fun y M=>∃v,bx o x y M=some v/\if v=true then ai (d Z M) fun z M=>∃v,bx o' y z M=some v/\k (.bl v) M else k #[99] M:=by
 simp only [lX,br,jU]
 refine iff_of_eq ?_
 congr 1;funext x M;congr 1;funext y M;refine propext (exists_congr fun v=>and_congr_right fun _=>?_)
 cases v<;>simp
@[simp] theorem Dg:ai (fz a Z M) k↔ai (a Z M) fun x M=>∃i,x=.int i/\k (.int (-i)) M:=by
 simp only [fz,br];refine iff_of_eq ?_;congr 1;funext x M;cases x<;>simp
@[simp] theorem Dh:ai (dX a b Z M) k↔ai (a Z M) fun x M=>∃v,x=.bl v/\if v=true then ai (b Z M) k else k #[99] M:=by
 simp only [dX,br];refine iff_of_eq ?_;congr 1;funext x M;cases x<;>simp
 rename_i v;cases v<;>simp
@[simp] theorem JM:ai (fR t a b Z M) k↔ai (t Z M) fun v M=>if v=true then ai (a Z M) k else ai (b Z M) k:=by
 simp only [fR,br];refine iff_of_eq ?_;congr 1;funext v M;cases v<;>simp
@[simp] theorem fA:ai (aF a b Z M) k↔ai (a Z M) fun x M=>ai (b Z M) fun y M=>∃d,cu x y M=some d/\k d M:=by simp [aF]
@[simp] theorem nv {m hl hh:Bool}:ai (cv m hl hh a lo hi Z M) k↔ai (a Z M) fun x M=>ai (lo Z M) fun l M=>ai (hi Z M) fun h M=>b9 hl l=true/\b9 hh h=true/\ai (eG m x l h M) k:=by
 simp only [cv,br]
 refine iff_of_eq ?_
 congr 1;funext x M;congr 1;funext l M;congr 1;funext h M
 cases b9 hl l<;>cases b9 hh h<;>simp
@[simp] theorem bo {k:List D->Mem->Prop}:ai (ah Z M) k↔k [] M:=NG
@[simp] theorem aY {k:List D->Mem->Prop}:ai (aa a s Z M) k↔ai (a Z M) fun x M=>ai (s Z M) fun xs M=>k (x::xs) M:=by simp [aa]
@[simp] theorem gE:ai (bL s Z M) k↔ai (s Z M) fun xs M=>xs.length<=sz/\k (.tup xs) M:=by
 simp only [bL,br];refine iff_of_eq ?_;congr 1;funext xs M;unfold lP;split<;>simp [*]
theorem ua {m:Bool}{xs:List D}:ai (bG m xs M) k↔xs.length<=sz/\if m=true then k #[215] (M++[xs]) else k (.lst xs) M:=by
 unfold bG;cases m<;>split<;>simp [*]
@[simp] theorem bD {xs:List D}:ai (bG false xs M) k↔xs.length<=sz/\k (.lst xs) M:=by simp [ua]
@[simp] theorem ng {xs:List D}:ai (bG true xs M) k↔xs.length<=sz/\k #[215] (M++[xs]):=by simp [ua]
@[simp] theorem jz {m:Bool}:ai (aP m s Z M) k↔ai (s Z M) fun xs M=>ai (bG m xs M) k:=by simp [aP]
@[simp] theorem eR {f:Nat}:ai (aq f c s Z M) k↔ai (s Z M) fun ds M=>ai (c f ds M) k:=by simp [aq]
@[simp] theorem Fe {i:Nat}:ai (mE i c s Z M) k↔∃f,Z[i]?.getD none=some (.fn f)/\ai (s Z M) fun ds M=>ai (c f ds M) k:=by
 unfold mE
 cases e:Z[i]?.getD none with
 |none=>simp
 |some d=>cases d<;>simp
@[simp] theorem dM {f:u7}:ai (a8 f s Z M) k↔ai (s Z M) fun ds M=>ai (eV f ds M) k:=by simp [a8]
@[simp] theorem uE {t:Ty}:ai (bQ t a Z M) k↔ai (a Z M) fun x M=>∃v,bN t x=some v/\k (.bl v) M:=by simp [bQ]
@[simp] theorem HU {fs:List (Str×Nat)}:ai (lW fs a Z M) k↔ai (a Z M) fun x M=>∃y f,x=.str y/\fs.lookup y=some f/\k (.fn f) M:=by
 simp only [lW,br];refine iff_of_eq ?_;congr 1;funext x M;cases x<;>simp
 exact ⟨fun ⟨_,⟨f,h,e⟩,q⟩=>⟨f,h,e ▸ q⟩,fun ⟨f,h,q⟩=>⟨_,⟨f,h,rfl⟩,q⟩⟩
@[simp] theorem MT {fs:List (Str×Nat)}:ai (jx fs a Z M) k↔ai (a Z M) fun x M=>∃y,x=.str y/\k (.bl (!(fs.lookup y).isSome)) M:=by
 simp only [jx,br];refine iff_of_eq ?_;congr 1;funext x M;cases x<;>simp
@[simp] theorem Fd {m:Bool}:ai (mD m a Z M) k↔ai (a Z M) fun x M=>∃n,x=.int n/\(-(2^62)<=n/\n<2^20)/\ai (bG m #[22] M) k:=by
 simp only [mD,br];refine iff_of_eq ?_;congr 1;funext x M
 cases x<;>simp
 rename_i n
 split<;>simp [*]
variable {kb:Bool->Mem->Prop}
@[simp] theorem eK:ai (aw a Z M) kb↔ai (a Z M) fun x M=>∃v,kK M x=some v/\kb v M:=by simp [aw]
@[simp] theorem IU:ai (gO t u Z M) kb↔ai (t Z M) fun v M=>if v=true then ai (u Z M) kb else kb false M:=by
 simp only [gO,br];refine iff_of_eq ?_;congr 1;funext v M;cases v<;>simp
@[simp] theorem A7:ai (eh t u Z M) kb↔ai (t Z M) fun v M=>if v=true then kb true M else ai (u Z M) kb:=by
 simp only [eh,br];refine iff_of_eq ?_;congr 1;funext v M;cases v<;>simp
@[simp] theorem lH:ai (bE t Z M) kb↔ai (t Z M) fun v M=>kb (!v) M:=by simp [bE]
variable {kf:Fl->Mem->Prop}{sa sb:GS}
def iV (b:GS)(k:Fl->Mem->Prop):Fl->Mem->Prop
 |.next Z,M=>ai (b Z M) k
 |.ret d,M=>k (.ret d) M
 |.exc x Z,M=>k (.exc x Z) M
@[simp] theorem KQ {b:GS}{x:D}:iV b kf (.exc x Z) M↔kf (.exc x Z) M:=NG
@[simp] theorem d3 {b:GS}:iV b kf (.next Z) M↔ai (b Z M) kf:=NG
@[simp] theorem sY {b:GS}{d:D}:iV b kf (.ret d) M↔kf (.ret d) M:=NG
@[simp] theorem aC:ai (ag sa sb Z M) kf↔ai (sa Z M) (iV sb kf):=by
 simp only [ag,br];refine iff_of_eq ?_;congr 1;funext fl M;cases fl<;>rfl
@[simp] theorem oX:ai (aj Z M) kf↔kf (.next Z) M:=NG
@[simp] theorem fk {i:Nat}:ai (aJ (.one i) a Z M) kf↔ai (a Z M) fun x M=>kf (.next #[122]) M:=by simp [aJ,cX]
@[simp] theorem Gf {l:List Nat}:ai (aJ (.tup l) a Z M) kf↔ai (a Z M) fun x M=>∃ds ρ1,x=.tup ds/\eL l ds Z=some ρ1/\kf (.next ρ1) M:=by
 simp only [aJ,br,jU,dW];refine iff_of_eq ?_;congr 1;funext x M;cases x<;>simp [cX]
@[simp] theorem ml:ai (f6 a b d Z M) kf↔ai (d Z M) fun z M=>ai (a Z M) fun x M=>ai (b Z M) fun y M=>∃j n ds i,x=.cell j/\y=.int n/\M[j]?=some ds/\bB ds.length n=some i/\kf (.next Z) (M.set j (ds.set i z)):=by
 simp only [f6,br]
 refine iff_of_eq ?_
 congr 1;funext z M;congr 1;funext x M;congr 1;funext y M
 cases x with
 | cell j =>
   cases y with
   | int n =>
     cases e:M[j]? with
     |none=>simp [e]
     | some ds =>
       cases e2:bB ds.length n with
       |none=>simp [e,e2]
       |some i=>simp [e,e2]
   |_=>simp
 |_=>simp
@[simp] theorem yQ:ai (jm a d Z M) kf↔ai (a Z M) fun x M=>ai (d Z M) fun z M=>∃j ds,x=.cell j/\M[j]?=some ds/\ds.length<sz/\kf (.next Z) (M.set j (ds++[z])):=by
 simp only [jm,br]
 refine iff_of_eq ?_
 congr 1;funext x M;congr 1;funext z M
 cases x<;>simp
 rename_i j
 cases e:M[j]? with
 |none=>simp
 |some ds=>by_cases h:ds.length<sz<;>simp [h]
@[simp] theorem cj:ai (aK a Z M) kf↔ai (a Z M) fun x M=>kf (.ret x) M:=by simp [aK]
@[simp] theorem Mc:ai (CN Z M) kf↔kf (.ret .non) M:=NG
@[simp] theorem Md:ai (CO Z M) kf↔kf (.next Z) M:=NG
@[simp] theorem MD:ai (Lb Z M) kf↔False:=NG
@[simp] theorem jb:ai (aR t sa sb Z M) kf↔ai (t Z M) fun v M=>if v=true then ai (sa Z M) kf else ai (sb Z M) kf:=by
 simp only [aR,br];refine iff_of_eq ?_;congr 1;funext v M;cases v<;>simp
variable {kw:Walk->Mem->Prop}
@[simp] theorem fY:ai (dm a Z M) kw↔ai (a Z M) fun x M=>∃n,x=.int n/\(-(2^62)<=n/\n<2^62)/\kw (fun _=>some #[22]) M:=by
 simp only [dm,br];refine iff_of_eq ?_;congr 1;funext x M;cases x<;>simp
 rename_i n
 split<;>simp [*]
@[simp] theorem wq:ai (eD a Z M) kw↔ai (a Z M) fun x M=>dJ x=true/\kw (fun M=>bZ M x) M:=by
 simp only [eD,br];refine iff_of_eq ?_;congr 1;funext x M;cases x<;>simp [dJ]<;>rfl
@[simp] theorem hG:ai (ir a Z M) kw↔ai (a Z M) fun x M=>(dJ x&&eZ x)=true/\kw (fun M=>(bZ M x).map (cf 0)) M:=by
 simp only [ir,br];refine iff_of_eq ?_;congr 1;funext x M;cases x<;>simp [dJ,eZ]<;>rfl
@[simp] theorem Mk:ai (nq a b Z M) kw↔ai (a Z M) fun x M=>ai (b Z M) fun y M=>(dJ x&&dJ y)=true/\kw (mW x y) M:=by
 simp only [nq,br];refine iff_of_eq ?_;congr 1;funext x M;congr 1;funext y M;split<;>simp [*]
def iK (k:D->Mem->Prop):Fl->Mem->Prop
 |.ret d,M=>k d M
 |.next _,M=>k .non M
 |.exc _ _,_=>False
@[simp] theorem Mh {d:D}:iK k (.ret d) M↔k d M:=NG
@[simp] theorem LM:iK k (.next Z) M↔k .non M:=NG
theorem ay {P:Nat->Option Df}{n f:Nat}{d:Df}{ds:List D}(e:P f=some d)(hl:ds.length=d.params)(h:ai (d.body (ak P n) #[30] M) (iK k)):ai (ak P (n+1) f ds M) k:=by
 show ai (match P f with|none=>Res.bad|some d=>gP (ak P n) d ds M) k
 rw [e]
 show ai (gP (ak P n) d ds M) k
 unfold gP
 rw [if_pos hl]
 revert h
 cases d.body (ak P n) #[30] M with
 |ok fl M=>cases fl<;>exact id
 |err=>exact id
 |bad=>exact id
@[simp] theorem MI {α:Type}{a:α}{k:α->Mem->Prop}{kx:D->Mem->Prop}:jd (.ok a M) k kx↔k a M:=NG
@[simp] theorem Mf {α:Type}{x:D}{k:α->Mem->Prop}{kx:D->Mem->Prop}:jd (.err x M:Res α) k kx↔kx x M:=NG
def xD (k kx:D->Mem->Prop):Fl->Mem->Prop
 |.ret d,M=>k d M
 |.next _,M=>k .non M
 |.exc x _,M=>kx x M
theorem fC {P:Nat->Option Df}{n f:Nat}{d:Df}{ds:List D}{kx:D->Mem->Prop}(e:P f=some d)(hl:ds.length=d.params)(h:ai (d.body (ak P n) #[30] M) (xD k kx)):jd (ak P (n+1) f ds M) k kx:=by
 show jd (match P f with|none=>Res.bad|some d=>gP (ak P n) d ds M) k kx
 rw [e]
 show jd (gP (ak P n) d ds M) k kx
 unfold gP
 rw [if_pos hl]
 revert h
 cases d.body (ak P n) #[30] M with
 |ok fl M=>cases fl<;>exact id
 |err=>exact id
 |bad=>exact id
theorem fw {α:Type}{r:Res α}{x:D}{M':Mem}(h:jd r (fun _ _=>False) fun y M=>y=x/\M=M'):r=.err x M':=by
 cases r with
 |ok=>exact h.elim
 |err y M=>obtain ⟨rfl,rfl⟩:=h;rfl
 |bad=>exact h.elim
@[simp] theorem MR {d:D}{kx:D->Mem->Prop}:xD k kx (.ret d) M↔k d M:=NG
@[simp] theorem Mg {kx:D->Mem->Prop}:xD k kx (.next Z) M↔k .non M:=NG
@[simp] theorem MS {x:D}{kx:D->Mem->Prop}:xD k kx (.exc x Z) M↔kx x M:=NG
@[simp] theorem fi {f:Nat}{kx:D->Mem->Prop}:jd (dB f c s Z M) k kx↔ai (s Z M) fun ds M=>jd (c f ds M) k kx:=by
 unfold dB
 cases s Z M<;>rfl
@[simp] theorem hV:ai (iH a Z M) kf↔jd (a Z M) (fun _ M=>kf (.next Z) M) (fun x M=>kf (.exc x Z) M):=by
 unfold iH
 cases a Z M<;>rfl
@[simp] theorem vv {i:Nat}:ai (iW (.one i) a Z M) kf↔jd (a Z M) (fun x M=>kf (.next #[122]) M) (fun x M=>kf (.exc x Z) M):=by
 unfold iW
 cases a Z M<;>rfl
@[simp] theorem K9 {i:Nat}:ai (jQ i s Z M) kf↔ai (s Z M) fun ds M=>ds.length<=sz/\kf (.exc (.exc i none) Z) M:=by
 unfold jQ
 cases s Z M with
 |ok ds M1=>by_cases h:ds.length<=sz<;>simp [h]
 |err=>exact NG
 |bad=>exact NG
def HQ (i:Nat)(kf:Fl->Mem->Prop):Fl->Mem->Prop
 |.next Z,M=>kf (.next (Z.set i none)) M
 |.ret d,M=>kf (.ret d) M
 |.exc _ _,_=>False
def KO (i:Nat)(h:GS)(kf:Fl->Mem->Prop):Fl->Mem->Prop
 |.exc x Z,M=>ai (h #[122] M) (HQ i kf)
 |fl,M=>kf fl M
@[simp] theorem yP {i:Nat}{h:GS}:ai (n4 sa i h Z M) kf↔ai (sa Z M) (KO i h kf):=by
 simp only [n4,br];refine iff_of_eq ?_;congr 1;funext fl M
 cases fl with
 | exc x Z =>
   show ai ((h #[122] M).bind (Ay i)) kf=ai (h #[122] M) (HQ i kf)
   simp only [br];congr 1;funext fl M;cases fl<;>rfl
 |next Z=>rfl
 |ret d=>rfl
def Cn (k1 k2:Nat)(h:GS)(kf:Fl->Mem->Prop):Fl->Mem->Prop
 |.exc x Z,M=>∃c p,x=.exc c p/\(c=k1\/c=k2)/\ai (h Z M) (fun fl M=>match fl with|.exc _ _=>False|fl=>kf fl M)
 |fl,M=>kf fl M
@[simp] theorem La {k1 k2:Nat}{h:GS}:ai (mn sa k1 k2 h Z M) kf↔ai (sa Z M) (Cn k1 k2 h kf):=by
 simp only [mn,br];refine iff_of_eq ?_;congr 1;funext fl M
 cases fl with
 | exc x Z =>
   cases x with
   | exc c p =>
     by_cases hc:c=k1\/c=k2
     ·have e:kQ k1 k2 h (.exc (.exc c p) Z) M=(h Z M).bind fun fl M=>match fl with|.exc _ _=>.bad|fl=>.ok fl M:=if_pos hc
      rw [e]
      simp only [br]
      refine propext ⟨fun z=>⟨c,p,rfl,hc,aG z fun fl M q=>?_⟩,fun ⟨_,_,e,_,z⟩=>?_⟩
      ·cases fl with
       |exc=>exact q.elim
       |next=>exact q
       |ret=>exact q
      ·refine aG z fun fl M q=>?_
       cases fl with
       |exc=>exact q.elim
       |next=>exact q
       |ret=>exact q
     ·have e:kQ k1 k2 h (.exc (.exc c p) Z) M=.bad:=if_neg hc
      rw [e]
      exact propext ⟨fun z=>z.elim,fun ⟨_,_,e,z,_⟩=>by cases e;exact absurd z hc⟩
   |_=>exact propext ⟨fun z=>z.elim,fun ⟨_,_,e,_⟩=>by cases e⟩
 |next Z=>rfl
 |ret d=>rfl
theorem xl {α:Type}(f:α->D->Mem->Res α)(ds:List D):∀(m i:Nat) (a:α) (M:Mem),ds.length-i<m->i<=ds.length->fy f #[311] m i a M=Dd f (ds.drop i) a M
 |0,i,a,M,h,_=>absurd h (Nat.not_lt_zero _)
 | m + 1, i, a, M, h, hi => by
   show (match ds[i]? with|none=>Res.ok a M|some d=>(f a d M).bind (fy f #[311] m (i+1)))=_
   by_cases hlt:i<ds.length
   ·rw [List.drop_eq_getElem_cons hlt,NA hlt]
    show (f a ds[i] M).bind _=(f a ds[i] M).bind _
    congr 1
    funext a M
    exact xl f ds m (i+1) a M #[0] hlt
   ·have e:i=ds.length:=by omega
    subst e
    rw [NY (My _),List.drop_length]
    rfl
theorem fx {α:Type}{f:α->D->Mem->Res α}{w:Walk}{ds:List D}{a:α}{k:α->Mem->Prop}(I:Nat->α->Mem->Prop)(hw:∀i a M,I i a M->w M=some ds)(h0:I 0 a M)
 (hs:∀i d a M,ds[i]?=some d->I i a M->ai (f a d M) (I (i+1))) (hk:∀a M,I ds.length a M->k a M):ai (dG f w a M) k:=by
 have key:∀(m i:Nat) (a:α) (M:Mem),ds.length-i<m->i<=ds.length->I i a M->ai (fy f w m i a M) k:=by
  intro m
  induction m with
  |zero=>intro i a M h;exact absurd h (Nat.not_lt_zero _)
  | succ m ih =>
    intro i a M h hi hI
    show ai (match w M with|none=>Res.bad|some ds=>match ds[i]? with|none=>Res.ok a M|some d=>(f a d M).bind (fy f w m (i+1))) k
    rw [hw i a M hI]
    dsimp only
    by_cases hlt:i<ds.length
    ·rw [NA hlt]
     simp only [br]
     exact aG (hs i ds[i] a M (NA hlt) hI) fun a' M' h'=>ih (i+1) a' M' #[0] hlt h'
    ·have e:i=ds.length:=by omega
     subst e
     rw [NY (My _)]
     exact hk a M hI
 unfold dG
 rw [hw 0 a M h0]
 exact key _ 0 a M (by simp) (Oq _) h0
theorem cz {t:dv}{w:Walk}{gb:GS}{ds:List D}(I:Nat->Env->Mem->Prop)(hw:∀i Z M,I i Z M->w M=some ds)(h0:I 0 Z M)
 (hs:∀i d Z M,ds[i]?=some d->I i Z M->∃ρ1,cX t d Z=some ρ1/\ai (gb ρ1 M) fun fl M=>∃ρ',fl=.next ρ'/\I (i+1) ρ' M) (hk:∀Z M,I ds.length Z M->kf (.next Z) M):ai (dG (hJ t gb) w (.next Z) M) kf:=by
 refine fx (fun i fl M=>∃Z,fl=.next Z/\I i Z M) (fun i fl M ⟨Z,_,h⟩=>hw i Z M h) ⟨Z,rfl,h0⟩ ?_ ?_
 ·rintro i d fl M hd ⟨Z,rfl,hI⟩
  obtain ⟨ρ1,e,h⟩:=hs i d Z M hd hI
  simp only [hJ,br,jU,e]
  exact ⟨ρ1,rfl,h⟩
 ·rintro fl M ⟨Z,rfl,hI⟩
  exact hk Z M hI
@[simp] theorem dU {tg:dv}{w:GW}{gb:GS}:ai (dC tg w gb Z M) kf↔ai (w Z M) fun w M=>ai (dG (hJ tg gb) w (.next Z) M) kf:=by simp [dC]
@[simp] theorem gA {m:Bool}{n:Nat}{tg:dv}{w:GW}{g:GB}:ai (bX m n tg w g Z M) k↔ai (w Z M) fun w M=>ai (dG (dI tg g #[265]) w [] M) fun acc M=>ai (bG m acc M) k:=by simp [bX]
variable {kl:List D->Mem->Prop}
@[simp] theorem Dr {ge:GE}{acc:List D}:ai (bU ge Z acc M) kl↔ai (ge Z M) fun x M=>acc.length<sz/\kl (acc++[x]) M:=by
 simp only [bU,br];refine iff_of_eq ?_;congr 1;funext x M;split<;>simp [*]
theorem comp_map {tg:dv}{w:Walk}{ge:GE}{ds:List D}{ρ0:Env}(I:Nat->List D->Mem->Prop)(hz:ds.length<=sz)(hw:∀i acc M,I i acc M->w M=some ds)(h0:I 0 [] M)
 (hs:∀i d acc M,ds[i]?=some d->acc.length=i->I i acc M->∃ρ1,cX tg d ρ0=some ρ1/\ai (ge ρ1 M) fun x M=>I (i+1) (acc++[x]) M) (hk:∀acc M,acc.length=ds.length->I ds.length acc M->kl acc M) :
 ai (dG (dI tg (bU ge) ρ0) w [] M) kl:=by
 refine fx (fun i acc M=>acc.length=i/\I i acc M) (fun i acc M h=>hw i acc M h.2) ⟨rfl,h0⟩ ?_ (fun acc M h=>hk acc M h.1 h.2)
 rintro i d acc M hd ⟨hl,hI⟩
 obtain ⟨ρ1,e,h⟩:=hs i d acc M hd hl hI
 have hi:i<ds.length:=#[246].1
 simp only [dI,br,jU,e,Dr]
 exact ⟨ρ1,rfl,aG h fun x M h=>⟨by omega,by simp [hl],h⟩⟩
end
theorem aE {t:GT}{A rest:GS}{Z:Env}{M:Mem}{k:Fl->Mem->Prop}(ht:t Z M=.ok false M)(h:ai (rest Z M) k):ai #[190] k:=by
 simp only [aC,jb]
 rw [ht]
 exact h
theorem bA {t:GT}{e:GE}{rest:GS}{Z:Env}{M:Mem}{v:D}{k:Fl->Mem->Prop}(ht:t Z M=.ok true M)(he:e Z M=.ok v M)(h:k (.ret v) M):ai (ag (aR t (ag (aK e) aj) aj) rest Z M) k:=by
 simp only [aC,jb,cj]
 rw [ht]
 show ai (e Z M) _
 rw [he]
 exact h
theorem cD {e:GE}{Z:Env}{M:Mem}{v:D}{k:Fl->Mem->Prop}(he:e Z M=.ok v M)(h:k (.ret v) M):ai (ag (aK e) aj Z M) k:=by
 simp only [aC,cj]
 rw [he]
 exact h
theorem cU {r:Res Fl}{v:D}{M:Mem}(e:r=.ok (.ret v) M):ai r (iK fun x M'=>x=v/\M'=M):=by rw [e];exact ⟨rfl,rfl⟩
end LD
namespace LD
open PySem
structure HasM0 (P:Nat->Option Df):Prop where
 is_between:P 0=some ⟨3,3,gj⟩
 is_word:P 1=some ⟨2,2,kC⟩
 is_place:P 2=some ⟨2,2,jC⟩
 is_cost:P 3=some ⟨1,1,kD⟩
 is_tuple_of:P 4=some ⟨2,2,fJ⟩
 is_table:P 5=some ⟨2,2,jB⟩
 is_double_table:P 6=some ⟨2,2,ff⟩
 is_turn:P 7=some ⟨3,6,gY⟩
 is_join:P 8=some ⟨3,7,g7⟩
 is_move:P 9=some ⟨3,6,gZ⟩
 is_put:P 10=some ⟨3,6,iP⟩
 is_deed:P 11=some ⟨3,5,g8⟩
 is_machine:P 12=some ⟨1,4,gi⟩
 need_machine:P 13=some ⟨1,1,dD⟩
 is_deed_number:P 16=some ⟨2,2,fE⟩
 need_numbers:P 17=some ⟨2,4,cF⟩
 need_row:P 18=some ⟨2,2,dY⟩
structure HasM (P:Nat->Option Df):Prop extends HasM0 P where
 turned:P 20=some ⟨2,6,oC⟩
 joined:P 21=some ⟨2,7,oG⟩
 moved:P 22=some ⟨2,6,qH⟩
 put_in:P 23=some ⟨2,6,oE⟩
 done:P 24=some ⟨2,4,uY⟩
 all_standing:P 25=some ⟨3,5,iQ⟩
structure HasP0 (P:Nat->Option Df):Prop where
 law_spread:P 28=some ⟨2,6,jq⟩
 law_open:P 29=some ⟨1,4,kL⟩
 law_anew:P 30=some ⟨1,1,kM⟩
 law_take:P 31=some ⟨2,5,nS⟩
structure HasP (P:Nat->Option Df):Prop extends HasP0 P where
 law_tab:P 32=some ⟨2,6,jD⟩
 law_deed:P 33=some ⟨3,7,i6⟩
 law_machine:P 34=some ⟨4,8,gu⟩
instance coeHasM {P:Nat->Option Df}:Coe (HasM P) (HasM0 P):=⟨HasM.toHasM0⟩
instance coeHasP {P:Nat->Option Df}:Coe (HasP P) (HasP0 P):=⟨HasP.toHasP0⟩
@[simp] theorem MW {d:Option D}{r:Env}:(d::r)[0]?.getD none=d:=rfl
section
variable {M:Mem}{k:D->Mem->Prop}
theorem jV {α:Type}{c:Prop}[Decidable c]{r:Res α}{k:α->Mem->Prop}:ai (if c then r else .bad) k↔c/\ai r k:=by split<;>simp [*]
@[simp] theorem fK {m:Bool}{i j:Int}:ai (eW m .add (.int i) (.int j) M) k↔k (.int (i+j)) M:=NG
@[simp] theorem mi {m:Bool}{i j:Int}:ai (eW m .sub (.int i) (.int j) M) k↔k (.int (i-j)) M:=NG
@[simp] theorem ug {m:Bool}{i j:Int}:ai (eW m .mul (.int i) (.int j) M) k↔((-(2^64)<i/\i<2^64)\/(-(2^64)<j/\j<2^64))/\k (.int (i*j)) M:=jV
@[simp] theorem pz {m:Bool}{i j:Int}:ai (eW m .mod (.int i) (.int j) M) k↔0<j/\k (.int (i % j)) M:=jV
@[simp] theorem Mi {m:Bool}{i j:Int}:ai (eW m .fdiv (.int i) (.int j) M) k↔(0<j/\j<1073741824)/\k (.int (i / j)) M:=jV
@[simp] theorem tU {m:Bool}{i j:Int}:ai (eW m .pow (.int i) (.int j) M) k↔(0<=j/\j<=1000000/\i.natAbs<2^64)/\k (.int (i^j.toNat)) M:=jV
@[simp] theorem lj {m:Bool}{x y:List D}:ai (eW m .add (.tup x) (.tup y) M) k↔(x++y).length<=sz/\k (.tup (x++y)) M:=by
 show ai (lP _ _) k↔_
 unfold lP;exact jV
@[simp] theorem mP {m:Bool}{x y:List D}:ai (eW m .add (.lst x) (.lst y) M) k↔ai (bG m (x++y) M) k:=NG
@[simp] theorem Ml {i j:Int}:bx .lt (.int i) (.int j) M=some (decide (i<j)):=rfl
@[simp] theorem Mm {i j:Int}:bx .le (.int i) (.int j) M=some (decide (i<=j)):=rfl
@[simp] theorem Mn {i j:Int}:bx .gt (.int i) (.int j) M=some (decide (j<i)):=rfl
@[simp] theorem Mo {i j:Int}:bx .ge (.int i) (.int j) M=some (decide (j<=i)):=rfl
@[simp] theorem MX {i j:Int}:bx .eq (.int i) (.int j) M=some (i==j):=rfl
@[simp] theorem J5 {i j:Int}:bx .ne (.int i) (.int j) M=some (!(i==j)):=rfl
@[simp] theorem Mv {b:Bool}:kK M (.bl b)=some b:=rfl
@[simp] theorem L9 {ds:List D}:kK M (.tup ds)=some (!ds.isEmpty):=rfl
@[simp] theorem Ma {ds:List D}:kK M (.lst ds)=some (!ds.isEmpty):=rfl
@[simp] theorem kZ {ds:List D}:ai (eV .len [.tup ds] M) k↔k (.int ds.length) M:=NG
@[simp] theorem EZ {ds:List D}:ai (eV .len [.lst ds] M) k↔k (.int ds.length) M:=NG
@[simp] theorem FJ {ds:List D}:ai (eV .all [.lst ds] M) k↔∃bs,boolsOf ds=some bs/\k (.bl (bs.all id)) M:=by
 show ai (match boolsOf ds with|some bs=>_|none=>_) k↔_
 cases boolsOf ds<;>simp
@[simp] theorem Ki {ds:List D}:ai (eV .tuple [.lst ds] M) k↔k (.tup ds) M:=NG
@[simp] theorem wB {j:Nat}:ai (eV .tuple [.cell j] M) k↔∃ds,M[j]?=some ds/\k (.tup ds) M:=by
 show ai (match M[j]? with|some xs=>_|none=>_) k↔_
 cases M[j]?<;>simp
@[simp] theorem lR {m:Bool}{ds:List D}:ai (eV (.list m) [.lst ds] M) k↔ai (bG m ds M) k:=NG
@[simp] theorem gX {ds:List D}{i:Int}:cu (.tup ds) (.int i) M=(bB ds.length i).bind fun j=>ds[j]?:=rfl
@[simp] theorem vS {ds:List D}{i:Int}:cu (.lst ds) (.int i) M=(bB ds.length i).bind fun j=>ds[j]?:=rfl
@[simp] theorem LH {j:Nat}{i:Int}:cu (.cell j) (.int i) M=(M[j]?).bind fun ds=>(bB ds.length i).bind fun j=>ds[j]?:=rfl
theorem eQ {n i:Nat}(h:i<n):bB n (i:Int)=some i:=by
 unfold bB;rw [if_pos (Int.natCast_nonneg i),if_pos (by exact_mod_cast h)];rfl
theorem E3 {n:Nat}(h:0<n):bB n (-1)=some (n-1):=by
 unfold bB
 rw [if_neg #[0],if_pos #[0]]
 congr 1;omega
end
theorem aM {α:Type}{r:Res α}{d:α}{M:Mem}(h:ai r fun x M'=>x=d/\M'=M):r=.ok d M:=by
 obtain ⟨a,M',e,rfl,rfl⟩:=lN.mp h
 exact e
theorem ax {r:Res D}{d:D}{M:Mem}(h:ai r fun x M'=>x=d/\M'=M):r=.ok d M:=by
 obtain ⟨a,M',e,rfl,rfl⟩:=lN.mp h
 exact e
section
variable {P:Nat->Option Df}(h:HasM0 P){M:Mem}
include h
theorem wI (n:Nat)(t lo hi:Int):ak P (n+1) 0 [.int t,.int lo,.int hi] M=.ok (.bl (decide (lo<=t)&&decide (t<=hi))) M:=by
 refine ax (ay h.is_between rfl ?_)
 simp [gj,bN]
 by_cases h1:lo<=t<;>simp [h1]<;>omega
end
theorem jg {tg:dv}{w:Walk}{ge:GE}{ds:List D}{ρ0:Env}{M:Mem}{kl:List D->Mem->Prop}(f:D->D)(hz:ds.length<=sz)(hw:w M=some ds)(hs:∀d∈ds,∃ρ1,cX tg d ρ0=some ρ1/\ge ρ1 M=.ok (f d) M)(hk:kl (ds.map f) M) :
 ai (dG (dI tg (bU ge) ρ0) w [] M) kl:=by
 refine comp_map (fun i acc M'=>M'=M/\acc=(ds.take i).map f) hz (fun i acc M' h=>by rw [h.1];exact hw) ⟨rfl,rfl⟩ ?_ ?_
 ·rintro i d acc M' hd _ ⟨rfl,rfl⟩
  obtain ⟨ρ1,e1,e2⟩:=hs d (MO hd)
  refine ⟨ρ1,e1,?_⟩
  rw [e2]
  refine ⟨rfl,?_⟩
  have hi:i<ds.length:=#[246].1
  rw [NS,hd]
  simp
 ·rintro acc M' _ ⟨rfl,rfl⟩
  simpa using hk
abbrev nD (n:Nat):D:=.int (n:Int)
def aQ (l:List Nat):D:=.tup (l.map nD)
inductive ba where
 |turn (at_:Nat) (tab:List Nat) (cost:Nat)
 |join (at_ other:Nat) (tab:List #[174]) (cost:Nat)
 |move (at_ other cost:Nat)
 |put (at_ word cost:Nat)
def ba.d:ba->D
 |.turn a t c=>.tup [.str "turn",nD a,aQ t,nD c]
 |.join a o t c=>.tup [.str "join",nD a,nD o,.tup (t.map aQ),nD c]
 |.move a o c=>.tup [.str "move",nD a,nD o,nD c]
 |.put a w c=>.tup [.str "put",nD a,nD w,nD c]
def ba.cost:ba->Nat
 |.turn _ _ c=>c
 |.join _ _ _ c=>c
 |.move _ _ c=>c
 |.put _ _ c=>c
structure aV where
 words:Nat
 places:Nat
 deeds:List ba
def aV.d (m:aV):D:=.tup [nD m.words,nD m.places,.tup #[80]]
def gK (w:Nat)(t:List Nat):Prop:=t.length=w/\∀x∈t,x<w
def fM (c:Nat):Prop:=1<=c/\c<=3
def cq (w p:Nat):ba->Prop
 |.turn a t c=>a<p/\gK w t/\fM c
 |.join a o t c=>a<p/\o<p/\(t.length=w/\∀x∈t,gK w x)/\fM c
 |.move a o c=>a<p/\o<p/\fM c
 |.put a x c=>a<p/\x<w/\fM c
structure bh (m:aV):Prop where
 w2:2<=m.words
 w4:m.words<=4
 p1:1<=m.places
 p2:m.places<=2
 d1:1<=m.deeds.length
 d6:m.deeds.length<=6
 ok:∀d∈m.deeds,cq m.words m.places d
theorem av {n:Nat}(h:n<=100000):n<=sz:=MF h #[1]
theorem Lo:dn.lookup (Str.ofString "turn")=some 7:=by decide +kernel
theorem Ln:dn.lookup (Str.ofString "join")=some 8:=by decide +kernel
theorem Lm:dn.lookup (Str.ofString "move")=some 9:=by decide +kernel
theorem Ll:dn.lookup (Str.ofString "put")=some 10:=by decide +kernel
end LD
namespace LD
open PySem
section
variable {Z:Env}{M:Mem}{a b:GE}{s:GA}{k:D->Mem->Prop}{kf:Fl->Mem->Prop}{t u:GT}{A rest:GS}
theorem cg {t rest:GS}{ρ':Env}(e:t Z M=.ok (.next ρ') M)(h:ai (rest ρ' M) kf):ai (ag t rest Z M) kf:=by
 simp only [aC]
 rw [e]
 exact h
theorem az {x:D}{xs:List D}(ea:a Z M=.ok x M)(es:s Z M=.ok xs M):aa a s Z M=.ok (x::xs) M:=by
 unfold aa
 rw [ea]
 show (s Z M).bind _=_
 rw [es]
 rfl
theorem kY {xs:List D}(es:s Z M=.ok xs M)(hl:xs.length<=100):aP false s Z M=.ok (.lst xs) M:=by
 unfold aP
 rw [es]
 show (if xs.length<=sz then (if false=true then _ else Res.ok (D.lst xs) M) else .bad)=_
 rw [if_pos (av #[0])]
 rfl
theorem Al {xs ys:List D}(ea:a Z M=.ok (.lst xs) M)(eb:b Z M=.ok (.lst ys) M)(hl:(xs++ys).length<=100):au false .add a b Z M=.ok (.lst (xs++ys)) M:=by
 unfold au
 rw [ea]
 show (b Z M).bind _=_
 rw [eb]
 show #[150]=_
 rw [if_pos (av #[0])]
 rfl
theorem lh {i:Nat}{x:D}(e:a Z M=.ok x M):aJ (.one i) a Z M=.ok (.next #[122]) M:=by
 unfold aJ
 rw [e]
 rfl
theorem aN {j:Nat}{x:D}(h:Z[j]?.getD none=some x):ae j Z M=.ok x M:=by
 unfold ae
 rw [h]
 rfl
theorem bH {f:Nat}{c:Call}{xs:List D}(e:s Z M=.ok xs M):aq f c s Z M=c f xs M:=by
 unfold aq;rw [e];rfl
theorem i4 {f i:Nat}{c:Call}{x:D}{r:Res D}(h:Z[i]?.getD none=some x)(e:c f [x] M=r):aq f c (aa (ae i) ah) Z M=r:=(bH (az (aN h) rfl)).trans e
theorem jA {f i j:Nat}{c:Call}{x y:D}{r:Res D}(h:Z[i]?.getD none=some x)(h2:Z[j]?.getD none=some y)(e:c f [x,y] M=r):aq f c (aa (ae i) (aa (ae j) ah)) Z M=r:=(bH (az (aN h) (az (aN h2) rfl))).trans e
theorem cb {i:Nat}(h:ai (a Z M) k)(hk:∀x M',k x M'->ai (rest #[122] M') kf):ai (ag (aJ (.one i) a) rest Z M) kf:=by
 obtain ⟨x,M',e,q⟩:=lN.mp h
 simp only [aC]
 unfold aJ
 rw [e]
 exact hk x M' q
theorem ig (ht:t Z M=.ok true M)(h:ai (A Z M) (iV rest kf)):ai #[190] kf:=by
 simp only [aC,jb]
 rw [ht]
 exact h
theorem dR {b:Bool}(ht:t Z M=.ok b M)(h1:b=true->ai (A Z M) (iV rest kf))(h2:b=false->ai (rest Z M) kf):ai #[190] kf:=by
 cases b with
 |true=>exact ig ht (h1 rfl)
 |false=>exact aE ht (h2 rfl)
theorem je {b:Bool}(h:t Z M=.ok b M):bE t Z M=.ok (!b) M:=by
 unfold bE
 rw [h]
 rfl
theorem fZ {b:Bool}(h:a Z M=.ok (.bl b) M):aw a Z M=.ok b M:=by
 unfold aw
 rw [h]
 rfl
theorem Js {x y:Bool}(h1:t Z M=.ok x M)(h2:u Z M=.ok y M):eh t u Z M=.ok (x||y) M:=by
 unfold eh
 rw [h1]
 cases x with
 |true=>rfl
 |false=>exact h2
theorem FI {x y:Bool}(h1:t Z M=.ok x M)(h2:u Z M=.ok y M):gO t u Z M=.ok (x&&y) M:=by
 unfold gO
 rw [h1]
 cases x with
 |true=>exact h2
 |false=>rfl
theorem iy {x y:Bool}(h1:a Z M=.ok (.bl x) M)(h2:x=true->b Z M=.ok (.bl y) M):dX a b Z M=.ok (.bl (x&&y)) M:=by
 unfold dX
 rw [h1]
 cases x with
 |true=>exact h2 rfl
 |false=>rfl
theorem jH {k:Bool}{x:D}(ht:t Z M=.ok k M)(h1:k=true->a Z M=.ok x M)(h2:k=false->b Z M=.ok x M):fR t a b Z M=.ok x M:=by
 unfold fR
 rw [ht]
 cases k with
 |true=>exact h1 rfl
 |false=>exact h2 rfl
theorem xm {j:Nat}{ds:List D}(e:Z[j]?.getD none=some (.tup ds)):a8 .len (aa (ae j) ah) Z M=.ok (nD ds.length) M:=by
 unfold a8
 rw [az (aN e) rfl]
 rfl
theorem Jz {i j:Int}(h1:a Z M=.ok (.int i) M)(h2:b Z M=.ok (.int j) M):aw (aL .ne a b) Z M=.ok (!(i==j)) M:=by
 refine fZ ?_
 unfold aL
 rw [h1]
 show (b Z M).bind _=_
 rw [h2]
 rfl
theorem Io {l h i:Int}{c:GE}(h1:a Z M=.ok (.int l) M)(h2:b Z M=.ok (.int i) M)(h3:c Z M=.ok (.int h) M):lX .le .le a b c Z M=.ok (.bl (decide (l<=i)&&decide (i<=h))) M:=by
 unfold lX
 rw [h1]
 show (b Z M).bind _=_
 rw [h2]
 show (if decide (l<=i)=true then _ else _)=_
 cases decide (l<=i) with
 | true =>
   show (c Z M).bind _=_
   rw [h3]
   rfl
 |false=>rfl
end
theorem iJ {t:GT}{A rest:GS}{Z:Env}{M:Mem}{k:Fl->Mem->Prop}{R:Mem->Prop}(ht:ai (t Z M) fun b M'=>b=false/\R M')(h:∀M',R M'->ai (rest Z M') k):ai #[190] k:=by
 simp only [aC,jb]
 obtain ⟨b,M',e,rfl,r⟩:=lN.mp ht
 rw [e]
 exact h M' r
end LD
namespace LD
open PySem
def Th:Nat->Nat->D->Prop
 |_,_,.non=>True
 |_,_,.bl _=>True
 |_,_,.int _=>True
 |_,L,.str x=>x.cps.size<=L/\x.cps.all (· < 0x110000)=true
 |n+1,L,.tup ds=>ds.length<=L/\∀d∈ds,Th n L d
 |n+1,L,.lst ds=>ds.length<=L/\∀d∈ds,Th n L d
 |_,_,_=>False
theorem Th.mono:∀{n n' L L':Nat}{d:D},Th n L d->n<=n'->L<=L'->Th n' L' d
 |n,n',L,L',.non,_,_,_=>by cases n'<;>trivial
 |n,n',L,L',.bl _,_,_,_=>by cases n'<;>trivial
 |n,n',L,L',.int _,_,_,_=>by cases n'<;>trivial
 | n, n', L, L', .str x, h, _, l => by
   have h:x.cps.size<=L/\x.cps.all (· < 0x110000)=true:=by cases n<;>exact h
   have:x.cps.size<=L'/\x.cps.all (· < 0x110000)=true:=⟨MF h.1 l,h.2⟩
   cases n'<;>exact this
 |n+1,n'+1,L,L',.tup ds,h,a,l=>⟨MF h.1 l,fun d hd=>Th.mono (h.2 d hd) (Nat.le_of_succ_le_succ a) l⟩
 |n+1,n'+1,L,L',.lst ds,h,a,l=>⟨MF h.1 l,fun d hd=>Th.mono (h.2 d hd) (Nat.le_of_succ_le_succ a) l⟩
 |n+1,0,L,L',.tup ds,h,a,l=>by omega
 |n+1,0,L,L',.lst ds,h,a,l=>by omega
 |0,n',L,L',.tup ds,h,a,l=>h.elim
 |0,n',L,L',.lst ds,h,a,l=>h.elim
 |n,n',L,L',.frz _,h,_,_=>by cases n<;>exact h.elim
 |n,n',L,L',.cell _,h,_,_=>by cases n<;>exact h.elim
 |n,n',L,L',.fn _,h,_,_=>by cases n<;>exact h.elim
 |n,n',L,L',.exc _ _,h,_,_=>by cases n<;>exact h.elim
theorem Th.pure:∀{n L:Nat}{d:D},Th n L d->aA n d=true
 |n,L,.non,_=>by cases n<;>rfl
 |n,L,.bl _,_=>by cases n<;>rfl
 |n,L,.int _,_=>by cases n<;>rfl
 |n,L,.str x,h=>by cases n<;>exact h.2
 | n + 1, L, .tup ds, h => by
   show ds.all (aA n)=true
   rw [MC]
   exact fun d hd=>(h.2 d hd).pure
 | n + 1, L, .lst ds, h => by
   show ds.all (aA n)=true
   rw [MC]
   exact fun d hd=>(h.2 d hd).pure
 |0,L,.tup ds,h=>h.elim
 |0,L,.lst ds,h=>h.elim
 |n,L,.frz _,h=>by cases n<;>exact h.elim
 |n,L,.cell _,h=>by cases n<;>exact h.elim
 |n,L,.fn _,h=>by cases n<;>exact h.elim
 |n,L,.exc _ _,h=>by cases n<;>exact h.elim
theorem Th.view {n L:Nat}{d:D}{M:Mem}(h:Th n L d):view M d=d:=by
 cases d<;>first|rfl|(cases n<;>exact h.elim)
theorem Th.tup {n L:Nat}{ds:List D}(h:Th n L (.tup ds)):ds.length<=L/\∀d∈ds,Th n L d:=by
 cases n with
 |zero=>exact h.elim
 |succ n=>exact ⟨h.1,fun d hd=>(h.2 d hd).mono (Nat.le_succ n) (My L)⟩
def a9 (lo hi:Int):D->Bool
 |.int i=>decide (lo<=i)&&decide (i<=hi)
 |_=>false
def fP (w:Nat):D->Bool
 |.tup ds=>ds.length==w
 |_=>false
def gx (w:Nat):D->Bool
 |.tup ds=>ds.length==w&&ds.all (a9 0 #[222])
 |_=>false
def iY (w:Nat):D->Bool
 |.tup ds=>ds.length==w&&ds.all (gx w)
 |_=>false
def j9 (w p:Nat):List D->Bool
 |[a,t,c]=>a9 0 #[61] a&&(gx w t&&a9 1 3 c)
 |_=>false
def iX (w p:Nat):List D->Bool
 |[a,o,t,c]=>a9 0 #[61] a&&(a9 0 #[61] o&&(iY w t&&a9 1 3 c))
 |_=>false
def jv (w p:Nat):List D->Bool
 |[a,o,c]=>a9 0 #[61] a&&(a9 0 #[61] o&&a9 1 3 c)
 |_=>false
def mv (w p:Nat):List D->Bool
 |[a,x,c]=>a9 0 #[61] a&&(a9 0 #[222] x&&a9 1 3 c)
 |_=>false
def cK (w p:Nat)(s:Str)(ds:List D):Bool:=
 if s="turn" then j9 w p ds else if s="join" then iX w p ds else if s="move" then jv w p ds else if s="put" then mv w p ds else false
def fb (w p:Nat):D->Bool
 |.tup (.str s::ds)=>cK w p s ds
 |_=>false
def fQ:D->Bool
 |.tup ds=>decide (1<=ds.length)&&decide (ds.length<=6)
 |_=>false
def pD:D->List D
 |.tup ds=>ds
 |_=>[]
def eC:D->Nat
 |.int i=>i.toNat
 |_=>0
theorem nH {lo hi:Int}{d:D}(h:a9 lo hi d=true)(h0:0<=lo):d=nD (eC d)/\lo<=(eC d:Int)/\(eC d:Int)<=hi:=by
 cases d with
 | int i =>
   simp [a9] at h
   refine ⟨?_,?_⟩
   ·show D.int i=D.int ((i.toNat:Nat):Int)
    rw [Oz #[0]]
   ·show lo<=((i.toNat:Nat):Int)/\((i.toNat:Nat):Int)<=hi
    rw [Oz #[0]]
    exact h
 |_=>cases h
def eP:D->Bool
 |.tup [a,b,c]=>a9 2 4 a&&#[152]
 |_=>false
theorem uh {d:D}(h:fP 3 d=false):eP d=false:=by
 match d,h with
 |.tup [a,b,c],h=>cases h
 |.tup [],_=>rfl
 |.tup [_],_=>rfl
 |.tup [_,_],_=>rfl
 |.tup (_::_::_::_::r),_=>rfl
 |.non,_=>rfl
 |.bl _,_=>rfl
 |.int _,_=>rfl
 |.str _,_=>rfl
 |.lst _,_=>rfl
 |.frz _,_=>rfl
 |.cell _,_=>rfl
 |.fn _,_=>rfl
 |.exc _ _,_=>rfl
structure xU (P:Nat->Option Df):Prop where
 is_between:P 0=some ⟨3,3,gj⟩
 is_word:P 1=some ⟨2,2,kC⟩
 is_place:P 2=some ⟨2,2,jC⟩
 is_cost:P 3=some ⟨1,1,kD⟩
 is_tuple_of:P 4=some ⟨2,2,fJ⟩
 is_table:P 5=some ⟨2,2,jB⟩
 is_double_table:P 6=some ⟨2,2,ff⟩
 is_turn:P 7=some ⟨3,6,gY⟩
 is_join:P 8=some ⟨3,7,g7⟩
 is_move:P 9=some ⟨3,6,gZ⟩
 is_put:P 10=some ⟨3,6,iP⟩
 is_deed:P 11=some ⟨3,5,g8⟩
 is_machine:P 12=some ⟨1,4,gi⟩
theorem nR (f:D->Bool):∀ds:List D,boolsOf (ds.map fun d=>.bl (f d))=some (ds.map f)
 |[]=>rfl
 |d::r=>by simp [boolsOf,nR f r]
theorem all_eq {w:GW}{ge:GE}{Z:Env}{M:Mem}{ds:List D}(f:D->Bool)(hw:ai (w Z M) fun wk M'=>M'=M/\wk M=some ds)(hz:ds.length<=sz)(he:∀d∈ds,ge (some d::Z) M=.ok (.bl (f d)) M) :
 a8 .all (aa (bX false 1 (.one 0) w (bU ge)) ah) Z M=.ok (.bl (ds.all f)) M:=by
 refine ax ?_
 simp only [dM,aY,gA,bo]
 refine aG hw fun wk M' ⟨e1,e2⟩=>?_
 subst e1
 refine jg (fun d=>.bl (f d)) hz e2 (fun d hd=>⟨some d::Z,rfl,he d hd⟩) ?_
 simp only [bD,MN,FJ]
 refine ⟨hz,_,nR f ds,?_,trivial⟩
 congr 1
 rw [List.all_map];rfl
theorem uu {k L:Nat}{x:D}(hx:Th k L x){t:Ty}(h:((¬ ∃s,x=.str s)/\t=.str\/(¬ ∃s,x=.tup s)/\t=.tuple)):bN t x=some false:=by
 rcases h with ⟨h,rfl⟩|⟨h,rfl⟩<;>cases x<;>first|rfl|exact absurd ⟨_,rfl⟩ h|(cases k<;>exact hx.elim)
section
variable {P:Nat->Option Df}(h:xU P){M:Mem}{k L:Nat}{d:D}
include h
theorem jF (n:Nat)(hd:Th k L d)(lo hi:Int):ak P (n+1) 0 [d,.int lo,.int hi] M=.ok (.bl (a9 lo hi d)) M:=by
 cases d with
 | int t =>
   refine ax (ay h.is_between rfl ?_)
   simp [gj,bN,a9]
   by_cases h1:lo<=t<;>simp [h1]<;>omega
 |fn j=>cases k<;>exact hd.elim
 |exc y p=>cases k<;>exact hd.elim
 |_=>exact ax (ay h.is_between rfl (cU rfl))
theorem tu (n:Nat){w:Nat}(hd:Th k L d):ak P (n+2) 1 [nD w,d] M=.ok (.bl (a9 0 #[222] d)) M:=by
 refine ax (ay h.is_word rfl ?_)
 simp [kC,jF h _ hd]
theorem gR (n:Nat){w:Nat}(hd:Th k L d):ak P (n+2) 2 [nD w,d] M=.ok (.bl (a9 0 #[222] d)) M:=by
 refine ax (ay h.is_place rfl ?_)
 simp [jC,jF h _ hd]
theorem lK (n:Nat)(hd:Th k L d):ak P (n+2) 3 [d] M=.ok (.bl (a9 1 3 d)) M:=by
 refine ax (ay h.is_cost rfl ?_)
 simp [kD,jF h _ hd]
theorem m5 (n:Nat){w:Nat}(hd:Th k L d):ak P (n+1) 4 [nD w,d] M=.ok (.bl (fP w d)) M:=by
 refine ax (ay h.is_tuple_of rfl ?_)
 cases d with
 |fn j=>cases k<;>exact hd.elim
 |exc y p=>cases k<;>exact hd.elim
 | tup ds =>
   simp [fJ,bN,fP]
   by_cases e:ds.length=w
   ·simp [e]
   ·have:¬ ((ds.length:Int)=(w:Int)):=by omega
    simp [e,this]
 |_=>exact cU rfl
theorem vn (n:Nat){w:Nat}(hd:Th k L d)(hL:L<=100):ak P (n+3) 5 [nD w,d] M=.ok (.bl (gx w d)) M:=by
 refine ax (ay h.is_table rfl ?_)
 have e:=m5 h (n+1) (w:=w) (M:=M) hd
 simp only [jB,aC,cj,Dh,eR,aY,bo,aU,N4,OH,Of,NW,MU,Nb,Nk,Ni,exists_eq_left']
 rw [e]
 refine ⟨_,rfl,?_⟩
 cases d with
 | tup ds =>
   have ht:=hd.tup
   by_cases el:ds.length=w
   ·have:fP w (.tup ds)=true:=by simp [fP,el]
    rw [this,if_pos rfl,all_eq (ds:=ds) (a9 0 #[222]) #[228] (av #[0]) (fun d hd=>ax (by simp [tu h n (ht.2 d hd)]))]
    exact ⟨by simp [gx,el],rfl⟩
   ·have:fP w (.tup ds)=false:=by simp [fP,el]
    rw [this,if_neg (by simp)]
    exact ⟨by simp [gx,el],rfl⟩
 |_=>exact ⟨rfl,rfl⟩
theorem Bf (n:Nat){w:Nat}(hd:Th k L d)(hL:L<=100):ak P (n+4) 6 [nD w,d] M=.ok (.bl (iY w d)) M:=by
 refine ax (ay h.is_double_table rfl ?_)
 have e:=m5 h (n+2) (w:=w) (M:=M) hd
 simp only [ff,aC,cj,Dh,eR,aY,bo,aU,N4,OH,Of,NW,MU,Nb,Nk,Ni,exists_eq_left']
 rw [e]
 refine ⟨_,rfl,?_⟩
 cases d with
 | tup ds =>
   have ht:=hd.tup
   by_cases el:ds.length=w
   ·have:fP w (.tup ds)=true:=by simp [fP,el]
    rw [this,if_pos rfl,all_eq (ds:=ds) (gx w) #[228] (av #[0]) (fun d hd=>ax (by simp [vn h n (ht.2 d hd) hL]))]
    exact ⟨by simp [iY,el],rfl⟩
   ·have:fP w (.tup ds)=false:=by simp [fP,el]
    rw [this,if_neg (by simp)]
    exact ⟨by simp [iY,el],rfl⟩
 |_=>exact ⟨rfl,rfl⟩
omit h in
theorem pL {j c:Nat}{ds:List D}{Z:Env}(e:Z[j]?.getD none=some (.tup ds))(hc:ds.length≠c):(aw (aL .ne (a8 .len (aa (ae j) ah)) #[241]):GT) Z M=.ok true M:=by
 rw [Jz (xm e) rfl,ND.mpr #[0]]
 rfl
theorem Ba (n:Nat){w p:Nat}{ds:List D}(hd:∀d∈ds,Th k L d)(hL:L<=100)(hl:ds.length<=100):ak P (n+4) 7 [nD w,nD p,.tup ds] M=.ok (.bl (j9 w p ds)) M:=by
 refine ax (ay h.is_turn rfl ?_)
 match ds,hd,hl with
 | [a, t, c], hd, _ =>
   show ai (gY (ak P (n+3)) [some (nD w),some (nD p),some (.tup [a,t,c]),none,none,none] M) _
   unfold gY
   refine aE rfl (cg rfl ?_)
   show ai _ _
   exact cD (iy (jA rfl rfl (gR h (n+1) (hd a (.head _)))) fun _=>iy (jA rfl rfl (vn h n (hd t #[104]) hL)) fun _=>i4 rfl (lK h (n+1) (hd c (.tail _ #[104])))) ⟨rfl,rfl⟩
 |[],_,_=>exact cU rfl
 |[_],_,_=>exact cU rfl
 |[_,_],_,_=>exact cU rfl
 | a :: b :: c :: d :: r, _, _ =>
   show ai (gY (ak P (n+3)) [some (nD w),some (nD p),some (.tup (a::b::c::d::r)),none,none,none] M) _
   exact bA #[107] rfl ⟨rfl,rfl⟩
theorem Be (n:Nat){w p:Nat}{ds:List D}(hd:∀d∈ds,Th k L d)(hL:L<=100)(hl:ds.length<=100):ak P (n+5) 8 [nD w,nD p,.tup ds] M=.ok (.bl (iX w p ds)) M:=by
 refine ax (ay h.is_join rfl ?_)
 match ds,hd,hl with
 | [a, o, t, c], hd, _ =>
   show ai (g7 (ak P (n+4)) [some (nD w),some (nD p),some (.tup [a,o,t,c]),none,none,none,none] M) _
   unfold g7
   refine aE rfl (cg rfl ?_)
   refine dR (Js (je (fZ (jA rfl rfl (gR h (n+2) (hd a (.head _)))))) (je (fZ (jA rfl rfl (gR h (n+2) (hd o #[104])))))) (fun e=>?_) fun e=>?_
   ·refine cD (v:=.bl false) rfl ⟨?_,rfl⟩
    show D.bl false=.bl (_&&(_&&_))
    cases q:a9 0 #[61] a with
    |false=>rfl
    | true =>
      rw [q] at e
      cases q2:a9 0 #[61] o with
      |false=>rfl
      |true=>rw [q2] at e;cases e
   ·refine cD (iy (jA rfl rfl (Bf h n (hd t (.tail _ #[104])) hL)) fun _=>i4 rfl (lK h (n+2) (hd c (.tail _ (.tail _ #[104]))))) ⟨?_,rfl⟩
    show _=D.bl (a9 0 #[61] a&&(a9 0 #[61] o&&_))
    cases q:a9 0 #[61] a with
    |false=>rw [q] at e;cases e
    | true =>
      rw [q] at e
      cases q2:a9 0 #[61] o with
      |false=>rw [q2] at e;cases e
      |true=>rfl
 |[],_,_=>exact cU rfl
 |[_],_,_=>exact cU rfl
 |[_,_],_,_=>exact cU rfl
 |[_,_,_],_,_=>exact cU rfl
 | a :: b :: c :: d :: e :: r, _, _ =>
   show ai (g7 (ak P (n+4)) [some (nD w),some (nD p),some (.tup (a::b::c::d::e::r)),none,none,none,none] M) _
   exact bA (pL (c:=4) (ds:=a::b::c::d::e::r) rfl (fun z=>by simp at z)) rfl ⟨rfl,rfl⟩
theorem Bd (n:Nat){w p:Nat}{ds:List D}(hd:∀d∈ds,Th k L d)(hL:L<=100)(hl:ds.length<=100):ak P (n+3) 9 [nD w,nD p,.tup ds] M=.ok (.bl (jv w p ds)) M:=by
 refine ax (ay h.is_move rfl ?_)
 match ds,hd,hl with
 | [a, t, c], hd, _ =>
   show ai (gZ #[182] [some (nD w),some (nD p),some (.tup [a,t,c]),none,none,none] M) _
   unfold gZ
   refine aE rfl (cg rfl ?_)
   show ai _ _
   exact cD (iy (jA rfl rfl (gR h n (hd a (.head _)))) fun _=>iy (jA rfl rfl (gR h n (hd t #[104]))) fun _=>i4 rfl (lK h n (hd c (.tail _ #[104])))) ⟨rfl,rfl⟩
 |[],_,_=>exact cU rfl
 |[_],_,_=>exact cU rfl
 |[_,_],_,_=>exact cU rfl
 | a :: b :: c :: d :: r, _, _ =>
   show ai (gZ #[182] [some (nD w),some (nD p),some (.tup (a::b::c::d::r)),none,none,none] M) _
   exact bA #[107] rfl ⟨rfl,rfl⟩
theorem D7 (n:Nat){w p:Nat}{ds:List D}(hd:∀d∈ds,Th k L d)(hL:L<=100)(hl:ds.length<=100):ak P (n+3) 10 [nD w,nD p,.tup ds] M=.ok (.bl (mv w p ds)) M:=by
 refine ax (ay h.is_put rfl ?_)
 match ds,hd,hl with
 | [a, t, c], hd, _ =>
   show ai (iP #[182] [some (nD w),some (nD p),some (.tup [a,t,c]),none,none,none] M) _
   unfold iP
   refine aE rfl (cg rfl ?_)
   show ai _ _
   exact cD (iy (jA rfl rfl (gR h n (hd a (.head _)))) fun _=>iy (jA rfl rfl (tu h n (hd t #[104]))) fun _=>i4 rfl (lK h n (hd c (.tail _ #[104])))) ⟨rfl,rfl⟩
 |[],_,_=>exact cU rfl
 |[_],_,_=>exact cU rfl
 |[_,_],_,_=>exact cU rfl
 | a :: b :: c :: d :: r, _, _ =>
   show ai (iP #[182] [some (nD w),some (nD p),some (.tup (a::b::c::d::r)),none,none,none] M) _
   exact bA #[107] rfl ⟨rfl,rfl⟩
omit h in
theorem mz {w p:Nat}{ds:List D}:cK w p "turn" ds=j9 w p ds:=by unfold cK;rw [if_pos rfl]
omit h in
theorem my {w p:Nat}{ds:List D}:cK w p "join" ds=iX w p ds:=by unfold cK;rw [if_neg #[3],if_pos rfl]
omit h in
theorem mx {w p:Nat}{ds:List D}:cK w p "move" ds=jv w p ds:=by unfold cK;rw [if_neg #[3],if_neg #[3],if_pos rfl]
omit h in
theorem mw {w p:Nat}{ds:List D}:cK w p "put" ds=mv w p ds:=by unfold cK;rw [if_neg #[3],if_neg #[3],if_neg #[3],if_pos rfl]
omit h in
theorem tY {w p:Nat}{ds:List D}{s:Str}(e1:¬ s="turn")(e2:¬ s="join")(e3:¬ s="move")(e4:¬ s="put"):cK w p s ds=false:=by unfold cK;rw [if_neg e1,if_neg e2,if_neg e3,if_neg e4]
omit h in
theorem wJ {s:Str}(e1:¬ s="turn")(e2:¬ s="join")(e3:¬ s="move")(e4:¬ s="put"):dn.lookup s=none:=by
 unfold dn
 simp only [List.lookup,ND.mpr e1,ND.mpr e2,ND.mpr e3,ND.mpr e4]
theorem ny (n:Nat){w p f:Nat}{s:Str}{ds:List D}{v:Bool}(lk:dn.lookup s=some f)(q:ak P (n+5) f [nD w,nD p,.tup ds] M=.ok (.bl v) M):ak P (n+6) 11 [nD w,nD p,.tup (.str s::ds)] M=.ok (.bl v) M:=by
 refine ax #[62]
 simp [-List.lookup_isSome_iff,g8,bN,bB,lk,eG,aS,b9,cut,q]
theorem Cf (n:Nat){w p:Nat}{s:Str}{ds:List D}(lk:dn.lookup s=none):ak P (n+6) 11 [nD w,nD p,.tup (.str s::ds)] M=.ok #[99] M:=by
 refine ax #[62]
 have e:(dn.lookup s).isSome=false:=by rw [lk];rfl
 simp [-List.lookup_isSome_iff,-List.lookup_eq_none_iff,-Option.isSome_eq_false_iff,g8,bN,bB,e]
 exact lk
theorem Bh (n:Nat){w p:Nat}(hd:Th k L d)(hL:L<=100):ak P (n+6) 11 [nD w,nD p,d] M=.ok (.bl (fb w p d)) M:=by
 cases d with
 |fn j=>cases k<;>exact hd.elim
 |exc y p=>cases k<;>exact hd.elim
 | tup xs =>
   have ht:=hd.tup
   cases xs with
   |nil=>exact ax (ay h.is_deed rfl (cU rfl))
   | cons x ds =>
     have hx:=ht.2 x MM
     have hds:∀d∈ds,Th k L d:=fun d hd=>ht.2 d (ME _ hd)
     have hl:ds.length<=100:=by have:=ht.1;simp at this;omega
     by_cases hs:∃s,x=.str s
     ·obtain ⟨s,rfl⟩:=hs
      show _=Res.ok (D.bl (cK w p s ds)) M
      by_cases e1:s="turn"
      ·subst e1
       rw [mz];exact ny h n Lo (Ba h (n+1) hds hL hl)
      by_cases e2:s="join"
      ·subst e2
       rw [my];exact ny h n Ln (Be h n hds hL hl)
      by_cases e3:s="move"
      ·subst e3
       rw [mx];exact ny h n Lm (Bd h (n+2) hds hL hl)
      by_cases e4:s="put"
      ·subst e4
       rw [mw];exact ny h n Ll (D7 h (n+2) hds hL hl)
      rw [tY e1 e2 e3 e4]
      exact Cf h n (wJ e1 e2 e3 e4)
     ·have e1:fb w p (.tup (x::ds))=false:=by cases x<;>first|rfl|exact absurd ⟨_,rfl⟩ hs
      have e2:=uu hx (t:=.str) (.inl ⟨hs,rfl⟩)
      rw [e1]
      refine ax #[62]
      have e3:bN .tuple (.tup (x::ds))=some true:=rfl
      simp [g8,bB,e2,e3]
 |_=>exact ax (ay h.is_deed rfl (cU rfl))
theorem BL (n:Nat)(hd:Th k L d)(hn:fP 3 d=false):ak P (n+7) 12 [d] M=.ok #[99] M:=by
 refine ax (ay h.is_machine rfl ?_)
 have e:ak P (n+6) 4 [.int 3,d] M=.ok (.bl (fP 3 d)) M:=m5 h (n+5) (w:=3) (M:=M) hd
 rw [hn] at e
 simp [gi,e]
theorem JA (n:Nat){a b c:D}(hd:Th k L (.tup [a,b,c]))(hL:L<=100):ak P (n+7) 12 [.tup [a,b,c]] M=.ok (.bl (eP (.tup [a,b,c]))) M:=by
 refine ax (ay h.is_machine rfl ?_)
 have ht:=hd.tup.2
 simp only [Mz,MK,or_false,forall_eq_or_imp,forall_eq] at ht
 have e:ak P (n+6) 4 [.int 3,.tup [a,b,c]] M=.ok #[170] M:=m5 h (n+5) (w:=3) (M:=M) hd
 have b1:=jF h (n+5) (M:=M) ht.1 2 4
 have b2:=jF h (n+5) (M:=M) ht.2.1 1 2
 simp only [gi,aC,oX,cj,d3,sY,jb,lH,eK,A7,Gf,cS,eR,aY,bo,aU,uE,N4,OH,Of,NW,MU,Nb,Nk,Ni,exists_eq_left']
 rw [e]
 refine ⟨_,rfl,?_⟩
 rw [if_neg (by simp)]
 refine ⟨_,_,rfl,rfl,_,rfl,?_⟩
 rw [b1]
 refine ⟨_,rfl,?_⟩
 by_cases c1:a9 2 4 a=false
 ·rw [c1,if_pos #[1],if_pos trivial]
  exact ⟨by simp [eP,c1],rfl⟩
 have c1:a9 2 4 a=true:=by simpa using c1
 rw [c1,if_neg (by simp)]
 refine ⟨_,rfl,?_⟩
 rw [b2]
 refine ⟨_,rfl,?_⟩
 by_cases c2:a9 1 2 b=false
 ·rw [c2,if_pos #[1]]
  exact ⟨by simp [eP,c2],rfl⟩
 have c2:a9 1 2 b=true:=by simpa using c2
 rw [c2,if_neg (by simp)]
 refine ⟨_,rfl,?_⟩
 obtain ⟨ea,_,_⟩:=nH c1 #[1]
 obtain ⟨eb,_,_⟩:=nH c2 #[1]
 cases c with
 |fn j=>exact absurd ht.2.2 (by cases k<;>exact id)
 |exc y p=>exact absurd ht.2.2 (by cases k<;>exact id)
 | tup ds =>
   have hc:=ht.2.2.tup
   refine ⟨true,rfl,true,rfl,?_⟩
   rw [if_neg (by simp)]
   simp only [JN,cS]
   refine dM.mpr (aY.mpr (aU.mpr ⟨_,rfl,bo.mpr (kZ.mpr ⟨_,rfl,?_⟩)⟩))
   by_cases l1:(1:Int)<=(ds.length:Int)
   ·rw [decide_eq_true l1,if_pos #[1]]
    refine ⟨_,rfl,_,rfl,?_⟩
    by_cases l6:(ds.length:Int)<=6
    ·rw [decide_eq_true l6,if_neg (by simp)]
     have lb:fQ (.tup ds)=true:=by simp [fQ];omega
     rw [all_eq (ds:=ds) (fb (eC a) (eC b)) #[228] (av #[0]) (fun d hd=>ax (by
      have q:=Bh h n (w:=eC a) (p:=eC b) (M:=M) (hc.2 d hd) hL
      rw [<- ea,<- eb] at q
      simp [q]))]
     refine ⟨?_,rfl⟩
     show D.bl (ds.all (fb (eC a) (eC b)))=D.bl (a9 2 4 a&&(a9 1 2 b&&(fQ (.tup ds)&&ds.all (fb (eC a) (eC b)))))
     rw [c1,c2,lb];simp
    ·rw [decide_eq_false l6,if_pos #[1]]
     refine ⟨?_,rfl⟩
     have lb:fQ (.tup ds)=false:=by simp [fQ];omega
     simp [eP,lb]
   ·rw [decide_eq_false l1,if_neg (by simp)]
    refine ⟨_,rfl,?_⟩
    rw [if_pos #[1]]
    refine ⟨?_,rfl⟩
    have lb:fQ (.tup ds)=false:=by simp [fQ];omega
    simp [eP,lb]
 | _ =>
   refine ⟨false,rfl,false,rfl,?_⟩
   rw [if_pos #[1]]
   exact ⟨by simp [eP,fQ],rfl⟩
theorem nY (n:Nat)(hd:Th k L d)(hL:L<=100):ak P (n+7) 12 [d] M=.ok (.bl (eP d)) M:=by
 by_cases hn:fP 3 d=false
 ·rw [BL h n hd hn,uh hn]
 ·match d,hd,hn with
  |.tup [a,b,c],hd,_=>exact JA h n hd hL
  |.tup [],_,hn=>exact absurd rfl hn
  |.tup [_],_,hn=>exact absurd rfl hn
  |.tup [_,_],_,hn=>exact absurd rfl hn
  |.tup (_::_::_::_::r),_,hn=>exact absurd (by simp [fP]) hn
  |.non,_,hn=>exact absurd rfl hn
  |.bl _,_,hn=>exact absurd rfl hn
  |.int _,_,hn=>exact absurd rfl hn
  |.str _,_,hn=>exact absurd rfl hn
  |.lst _,_,hn=>exact absurd rfl hn
  |.frz _,_,hn=>exact absurd rfl hn
  |.cell _,_,hn=>exact absurd rfl hn
  |.fn _,_,hn=>exact absurd rfl hn
  |.exc _ _,_,hn=>exact absurd rfl hn
omit h in
theorem dN {lo hi:Int}{n:Nat}(h1:lo<=(n:Int))(h2:(n:Int)<=hi):a9 lo hi (nD n)=true:=by simp [a9];omega
omit h in
theorem s8 {w:Nat}{t:List Nat}(ht:gK w t):gx w (aQ t)=true:=by
 have e:(t.map nD).all (a9 0 #[222])=true:=by
  rw [MC]
  intro x hx
  obtain ⟨i,hi,rfl⟩:=Nu.mp hx
  have:=ht.2 i hi
  exact dN #[0] #[0]
 show ((t.map nD).length==w&&(t.map nD).all (a9 0 #[222]))=true
 rw [e,MN,ht.1];simp
omit h in
theorem zT {w p:Nat}{d:ba}(hd:cq w p d):fb w p d.d=true:=by
 cases d with
 | turn a t c =>
   obtain ⟨h1,h2,h3⟩:=hd
   unfold fM at h3
   show cK w p "turn" _=true
   rw [mz]
   simp only [j9]
   rw [dN #[0] #[0],s8 h2,dN #[0] #[0]];rfl
 | join a o t c =>
   obtain ⟨h1,h2,h3,h4⟩:=hd
   unfold fM at h4
   show cK w p "join" _=true
   rw [my]
   simp only [iX]
   have e:iY w (.tup (t.map aQ))=true:=by
    have e:(t.map aQ).all (gx w)=true:=by
     rw [MC]
     intro x hx
     obtain ⟨i,hi,rfl⟩:=Nu.mp hx
     exact s8 (h3.2 i hi)
    show ((t.map aQ).length==w&&(t.map aQ).all (gx w))=true
    rw [e,MN,h3.1];simp
   rw [dN #[0] #[0],dN #[0] #[0],e,dN #[0] #[0]];rfl
 | move a o c =>
   obtain ⟨h1,h2,h3⟩:=hd
   unfold fM at h3
   show cK w p "move" _=true
   rw [mx]
   simp only [jv]
   rw [dN #[0] #[0],dN #[0] #[0],dN #[0] #[0]];rfl
 | put a o c =>
   obtain ⟨h1,h2,h3⟩:=hd
   unfold fM at h3
   show cK w p "put" _=true
   rw [mw]
   simp only [mv]
   rw [dN #[0] #[0],dN #[0] #[0],dN #[0] #[0]];rfl
omit h in
theorem fv {m:aV}(hm:bh m):eP m.d=true:=by
 have w2:=hm.w2
 have w4:=hm.w4
 have p1:=hm.p1
 have p2:=hm.p2
 have l1:=hm.d1
 have l6:=hm.d6
 have e:#[80].all (fb m.words m.places)=true:=by
  rw [MC]
  intro x hx
  obtain ⟨i,hi,rfl⟩:=Nu.mp hx
  exact zT (hm.ok i hi)
 have e2:fQ (.tup #[80])=true:=by simp [fQ];omega
 show (a9 2 4 (nD m.words)&&(a9 1 2 (nD m.places)&&(fQ (.tup #[80])&&#[80].all (fb m.words m.places))))=true
 rw [dN #[0] #[0],dN #[0] #[0],e,e2];rfl
end
end LD
namespace LD
open PySem
def sZ:Nat->Nat->D->Bool
 |_,_,.non=>true
 |_,_,.bl _=>true
 |_,_,.int _=>true
 |_,L,.str x=>decide (x.cps.size<=L)&&x.cps.all (· < 0x110000)
 |n+1,L,.tup ds=>decide (ds.length<=L)&&ds.all (sZ n L)
 |n+1,L,.lst ds=>decide (ds.length<=L)&&ds.all (sZ n L)
 |_,_,_=>false
theorem oS:∀{n L:Nat}{d:D},sZ n L d=true->Th n L d
 |n,L,.non,_=>by cases n<;>trivial
 |n,L,.bl _,_=>by cases n<;>trivial
 |n,L,.int _,_=>by cases n<;>trivial
 | n, L, .str x, h => by
   have q:(decide (x.cps.size<=L)&&x.cps.all (· < 0x110000))=true:=by cases n<;>exact h
   simp only [Ms,decide_eq_true_eq] at q
   have q:x.cps.size<=L/\x.cps.all (· < 0x110000)=true:=q
   cases n<;>exact q
 | n + 1, L, .tup ds, h => by
   have h:(decide (ds.length<=L)&&ds.all (sZ n L))=true:=h
   simp only [Ms,decide_eq_true_eq] at h
   exact ⟨h.1,fun d hd=>oS (MC.mp h.2 d hd)⟩
 | n + 1, L, .lst ds, h => by
   have h:(decide (ds.length<=L)&&ds.all (sZ n L))=true:=h
   simp only [Ms,decide_eq_true_eq] at h
   exact ⟨h.1,fun d hd=>oS (MC.mp h.2 d hd)⟩
 |0,L,.tup ds,h=>by cases h
 |0,L,.lst ds,h=>by cases h
 |n,L,.frz _,h=>by cases n<;>cases h
 |n,L,.cell _,h=>by cases n<;>cases h
 |n,L,.fn _,h=>by cases n<;>cases h
 |n,L,.exc _ _,h=>by cases n<;>cases h
theorem yv {w:Nat}{t:List Nat}(h:gK w t)(w4:w<=4):Th 2 6 (aQ t):=by
 refine ⟨by have:=h.1;simp;omega,fun d hd=>?_⟩
 obtain ⟨i,_,rfl⟩:=Nu.mp hd
 trivial
theorem sD {n:Nat}{z:Str}(h:sZ 0 6 (.str z)=true):Th n 6 (.str z):=(oS h).mono (Oq n) (My 6)
theorem ij {n:Nat}{i:Int}:Th n 6 (.int i):=by cases n<;>trivial
theorem Fv {w p:Nat}{d:ba}(h:cq w p d)(w4:w<=4):Th 4 6 d.d:=by
 cases d with
 | turn a t c =>
   refine ⟨by simp,fun x hx=>?_⟩
   simp only [Mz,MK,or_false] at hx
   rcases hx with rfl|rfl|rfl|rfl
   ·exact sD #[3]
   ·exact ij
   ·exact (yv h.2.1 w4).mono #[1] #[1]
   ·exact ij
 | join a o t c =>
   refine ⟨by simp,fun x hx=>?_⟩
   simp only [Mz,MK,or_false] at hx
   rcases hx with rfl|rfl|rfl|rfl|rfl
   ·exact sD #[3]
   ·exact ij
   ·exact ij
   ·refine ⟨by have:=h.2.2.1.1;simp;omega,fun y hy=>?_⟩
    obtain ⟨z,hz,rfl⟩:=Nu.mp hy
    exact yv (h.2.2.1.2 z hz) w4
   ·exact ij
 | move a o c =>
   refine ⟨by simp,fun x hx=>?_⟩
   simp only [Mz,MK,or_false] at hx
   rcases hx with rfl|rfl|rfl|rfl
   ·exact sD #[3]
   all_goals exact ij
 | put a o c =>
   refine ⟨by simp,fun x hx=>?_⟩
   simp only [Mz,MK,or_false] at hx
   rcases hx with rfl|rfl|rfl|rfl
   ·exact sD #[3]
   all_goals exact ij
theorem fN {m:aV}(h:bh m):Th 6 6 m.d:=by
 refine ⟨by simp,fun x hx=>?_⟩
 simp only [Mz,MK,or_false] at hx
 rcases hx with rfl|rfl|rfl
 ·exact ij
 ·exact ij
 ·refine ⟨by have:=h.d6;simpa using this,fun y hy=>?_⟩
  obtain ⟨z,hz,rfl⟩:=Nu.mp hy
  exact Fv (h.ok z hz) h.w4
theorem HasM0.q {P:Nat->Option Df}(h:HasM0 P):xU P:=⟨h.is_between,h.is_word,h.is_place,h.is_cost,h.is_tuple_of,h.is_table,h.is_double_table,h.is_turn,h.is_join,h.is_move,h.is_put,h.is_deed,h.is_machine⟩
end LD
namespace LD
open PySem
structure Sub (M M':Mem):Prop where
 len:M.length<=M'.length
 at':∀k,k<M.length->M'[k]?=M[k]?
theorem Sub.refl {M:Mem}:Sub M M:=⟨My _,fun _ _=>rfl⟩
theorem Sub.trans {M M1 M2:Mem}(a:Sub M M1)(b:Sub M1 M2):Sub M M2:=⟨MF a.len b.len,fun k hk=>(b.at' k (MQ hk a.len)).trans (a.at' k hk)⟩
theorem Sub.app {M X:Mem}:Sub M (M++X):=⟨by simp,fun k hk=>Ng hk⟩
theorem Sub.get {k:Nat}{M M':Mem}{ds:List D}(h:Sub M M')(e:M[k]?=some ds):M'[k]?=some ds:=by rw [h.at' k (Mw.mp e).1];exact e
theorem Sub.setq {M M':Mem}{q:Nat}{ds:List D}(h:Sub M M')(hq:M.length<=q):Sub M (M'.set q ds):=⟨by simpa using h.len,fun k hk=>by rw [MY #[0]];exact h.at' k hk⟩
theorem xI {tg:dv}{w:Walk}{ge:GE}{ds:List D}{ρ0:Env}{M:Mem}{acc0:List D}{kl:List D->Mem->Prop}(f:D->D)(hz:acc0.length+ds.length<=sz)(hw:w M=some ds)(hs:∀d∈ds,∃ρ1,cX tg d ρ0=some ρ1/\ge ρ1 M=.ok (f d) M)(hk:kl (acc0++ds.map f) M) :
 ai (dG (dI tg (bU ge) ρ0) w acc0 M) kl:=by
 refine fx (ds:=ds) (fun i acc M'=>M'=M/\acc=acc0++(ds.take i).map f) (fun i acc M' h=>by rw [h.1];exact hw) ⟨rfl,by simp⟩ ?_ ?_
 ·rintro i d acc M' hd ⟨rfl,rfl⟩
  obtain ⟨ρ1,e1,e2⟩:=hs d (MO hd)
  have hi:i<ds.length:=#[246].1
  simp only [dI,br,jU,e1,Dr]
  refine ⟨ρ1,rfl,?_⟩
  rw [e2]
  refine ⟨by simp;omega,rfl,?_⟩
  rw [NS,hd]
  simp
 ·rintro acc M' ⟨rfl,rfl⟩
  simpa using hk
theorem qA {α β:Type}(f:α->List β)(n:Nat):∀(ds:List α),(∀d∈ds,(f d).length<=n)->(ds.flatMap f).length<=ds.length*n
 |[],_=>by simp
 | d :: r, h => by
   have h1:=h d MM
   have h2:=qA f n r fun d hd=>h d (ME _ hd)
   simp only [List.flatMap_cons,Nx,O4,Nat.succ_mul]
   omega
theorem xJ {t u:dv}{w:Walk}{gw2:GW}{ge:GE}{ds:List D}{ρ0:Env}{M:Mem}{kl:List D->Mem->Prop}(its:D->List D)(f:D->D->D)(n:Nat)(hn:∀d∈ds,(its d).length<=n)(hz:ds.length*n<=sz)(hw:w M=some ds)
 (hs:∀d∈ds,∃ρ1,cX t d ρ0=some ρ1/\∃w2,gw2 ρ1 M=.ok w2 M/\w2 M=some (its d)/\∀e∈its d,∃ρ2,cX u e ρ1=some ρ2/\ge ρ2 M=.ok (f d e) M) (hk:kl (ds.flatMap fun d=>(its d).map (f d)) M) :
 ai (dG (dI t (uB u gw2 (bU ge)) ρ0) w [] M) kl:=by
 refine fx (ds:=ds) (fun i acc M'=>M'=M/\acc=(ds.take i).flatMap fun d=>(its d).map (f d)) (fun i acc M' h=>by rw [h.1];exact hw) ⟨rfl,by simp⟩ ?_ ?_
 ·rintro i d acc M' hd ⟨rfl,rfl⟩
  obtain ⟨ρ1,e1,w2,e2,e3,e4⟩:=hs d (MO hd)
  have hi:i<ds.length:=#[246].1
  simp only [dI,br,jU,e1,uB]
  refine ⟨ρ1,rfl,?_⟩
  rw [e2]
  show ai (dG (dI u (bU ge) ρ1) w2 _ M') _
  have e5:(ds.take (i+1)).flatMap (fun d=>(its d).map (f d))=(ds.take i).flatMap (fun d=>(its d).map (f d))++(its d).map (f d):=by
   rw [NS,hd];simp
  have l1:=qA (fun d=>(its d).map (f d)) n (ds.take (i+1)) (fun d hd=>by simpa using hn d (Nw hd))
  rw [e5] at l1
  simp only [Nx,MN,N5] at l1
  refine xI (f d) ?_ e3 e4 ⟨rfl,e5.symm⟩
  have:(min (i+1) ds.length)*n<=ds.length*n:=Nat.mul_le_mul_right _ (Nat.min_le_right _ _)
  omega
 ·rintro acc M' ⟨rfl,rfl⟩
  simpa using hk
def xE (w:Nat)(l:List #[174]):List #[174]:=l.flatMap fun s=>#[247].map fun x=>s++[x]
def fc (w:Nat):Nat->List #[174]
 |0=>[[]]
 |p+1=>xE w (fc w p)
def cE (m:aV):List #[174]:=fc m.words m.places
def gQ (m:aV)(s:List Nat):Prop:=s.length=m.places/\∀x∈s,x<m.words
theorem uX {w p:Nat}:∀s∈fc w p,s.length=p/\∀x∈s,x<w:=by
 induction p with
 |zero=>intro s hs;simp [fc] at hs;subst hs;simp
 | succ p ih =>
   intro s hs
   simp only [fc,xE,List.mem_flatMap,List.mem_map,List.mem_range] at hs
   obtain ⟨t,ht,x,hx,rfl⟩:=hs
   obtain ⟨h1,h2⟩:=ih t ht
   refine ⟨by simp [h1],fun y hy=>?_⟩
   rcases Nh.mp hy with z|z
   ·exact h2 y z
   ·simp at z;omega
theorem wc {m:aV}:∀s∈cE m,gQ m s:=uX
theorem kB {w:Nat}(hw:w<=4):∀p≤2,(fc w p).length<=4^p
 |0,_=>by simp [fc]
 | p + 1, hp => by
   have:=kB hw p #[0]
   have l:=qA (fun s:List Nat=>#[247].map fun x=>s++[x]) 4 (fc w p) (fun d hd=>by simpa using hw)
   simp only [fc,xE]
   calc _<=(fc w p).length*4:=l
    _<=4^p*4:=Nat.mul_le_mul_right _ this
    _=4^(p+1):=by rw [Nat.pow_succ]
theorem uW {m:aV}(hm:bh m):(cE m).length<=16:=by
 have h:=kB hm.w4 m.places hm.p2
 have h1:=hm.p1
 have h2:=hm.p2
 have:m.places=1\/m.places=2:=by omega
 rcases this with e|e<;>rw [e] at h<;>unfold cE<;>rw [e]<;>omega
def eJ:ba->List Nat->Nat
 |.turn a t _,s=>t.getD (s.getD a 0) 0
 |.join a o t _,s=>(t.getD (s.getD a 0) []).getD (s.getD o 0) 0
 |.move _ o _,s=>s.getD o 0
 |.put _ x _,_=>x
def ba.at':ba->Nat
 |.turn a _ _=>a
 |.join a _ _ _=>a
 |.move a _ _=>a
 |.put a _ _=>a
def fo (d:ba)(s:List Nat):List Nat:=s.take d.at'++[eJ d s]++s.drop (d.at'+1)
theorem getD_mem {α:Type}{l:List α}{i:Nat}{d:α}(h:i<l.length):l.getD i d∈l:=by
 rw [NL,NA h];exact Nz h
theorem pw {m:aV}{d:ba}{s:List Nat}(hd:cq m.words m.places d)(hs:gQ m s):eJ d s<m.words:=by
 obtain ⟨hl,hx⟩:=hs
 cases d with
 | turn a t c =>
   obtain ⟨h1,h2,h3⟩:=hd
   have:=hx _ (getD_mem (d:=0) (show a<s.length by omega))
   exact h2.2 _ (getD_mem (by rw [h2.1];exact this))
 | join a o t c =>
   obtain ⟨h1,h2,h3,h4⟩:=hd
   have a1:=hx _ (getD_mem (d:=0) (show a<s.length by omega))
   have a2:=hx _ (getD_mem (d:=0) (show o<s.length by omega))
   have a3:=h3.2 _ (getD_mem (d:=[]) (show s.getD a 0<t.length by rw [h3.1];exact a1))
   exact a3.2 _ (getD_mem (by rw [a3.1];exact a2))
 |move a o c=>exact hx _ (getD_mem (by obtain ⟨h1,h2,h3⟩:=hd;omega))
 |put a x c=>exact hd.2.1
theorem sN {w p:Nat}{d:ba}(hd:cq w p d):d.at'<p:=by cases d<;>exact hd.1
theorem zS {m:aV}{d:ba}{s:List Nat}(hd:cq m.words m.places d)(hs:gQ m s):gQ m (fo d s):=by
 have h1:=sN hd
 have h2:=pw hd hs
 obtain ⟨hl,hx⟩:=hs
 refine ⟨by simp [fo];omega,fun x hm=>?_⟩
 simp only [fo,Nh,List.mem_singleton] at hm
 rcases hm with (z|z)|z
 ·exact hx x (Nw z)
 ·omega
 ·exact hx x (N9 z)
def dP (m:aV)(r:List Nat):Prop:=r.length<=40/\∀i∈r,i<m.deeds.length
def iE (m:aV)(i:Nat):ba:=m.deeds.getD i (.put 0 0 1)
def cw (m:aV):List Nat->List Nat->List Nat
 |[],s=>s
 |i::r,s=>cw m r (fo (iE m i) s)
def fm (m:aV):List Nat->List Nat->List #[174]
 |[],s=>[s]
 |i::r,s=>s::fm m r (fo (iE m i) s)
theorem lF {m:aV}(hm:bh m){i:Nat}(hi:i<m.deeds.length):cq m.words m.places (iE m i):=hm.ok _ (getD_mem hi)
theorem qC {m:aV}(hm:bh m):∀{r:List Nat}{s:List Nat},(∀i∈r,i<m.deeds.length)->gQ m s->gQ m (cw m r s)
 |[],s,_,h=>h
 |i::r,s,hr,h=>qC (r:=r) hm (fun j hj=>hr j (ME _ hj)) (zS (lF hm (hr i MM)) h)
theorem uD {m:aV}:∀(a b s:List Nat),cw m (a++b) s=cw m b (cw m a s)
 |[],b,s=>rfl
 |i::a,b,s=>uD a b _
theorem qZ {m:aV}:∀(r:List Nat) (i:Nat) (s:List Nat),fm m (r++[i]) s=fm m r s++[fo (iE m i) (cw m r s)]
 |[],i,s=>rfl
 |j::r,i,s=>by simp [fm,cw,qZ r i]
theorem n6 {m:aV}:∀(r s:List Nat),(fm m r s).length=r.length+1
 |[],s=>rfl
 |i::r,s=>by simp [fm,n6 r]
theorem rf {m:aV}:∀(r s:List Nat),(fm m r s)[r.length]?=some (cw m r s)
 |[],s=>rfl
 |i::r,s=>by simp [fm,cw,rf r]
theorem nN {m:aV}(r s:List Nat):((bB (fm m r s).length (-1)).bind fun j=>Option.map aQ (fm m r s)[j]?)=some (aQ (cw m r s)):=by
 rw [n6,E3 #[0]]
 show Option.map aQ (fm m r s)[r.length+1-1]?=_
 rw [Nat.add_sub_cancel,rf]
 rfl
theorem A6 {s:List Nat}{i:Nat}(hi:i<s.length):(bB (s.map nD).length (i:Int)).bind (fun j=>(s.map nD)[j]?)=some (nD (s.getD i 0)):=by
 rw [eQ #[101]]
 simp [NL,hi]
def bI (r:List Nat):D:=.lst #[231]
theorem BM {m:aV}{i:Nat}(hi:i<m.deeds.length):((bB #[80].length (i:Int)).bind fun j=>#[80][j]?)=some (iE m i).d:=by
 rw [eQ #[101]]
 simp [iE,NL,hi]
theorem Hs {m:aV}{M:Mem}:cu m.d (.int 2) M=some (.tup #[80]):=rfl
theorem uz {m:aV}{M:Mem}{i:Nat}(hi:i<m.deeds.length):cu (.tup #[80]) (nD i) M=some (iE m i).d:=BM hi
theorem zI {d:ba}{M:Mem}:cu d.d (.int (-1)) M=some (nD d.cost):=by cases d<;>rfl
theorem ip {s:List Nat}{M:Mem}{i:Nat}(hi:i<s.length):cu (aQ s) (nD i) M=some (nD (s.getD i 0)):=A6 hi
theorem zH {t:List #[174]}{M:Mem}{i:Nat}(hi:i<t.length):cu (.tup (t.map aQ)) (nD i) M=some (aQ (t.getD i [])):=by
 show (bB (t.map aQ).length (i:Int)).bind (fun j=>(t.map aQ)[j]?)=_
 rw [eQ #[101]]
 simp [NL,hi]
def dZ (M:Mem)(x:D)(r:List Nat):Prop:=x=.lst #[231]\/∃q,x=.cell q/\M[q]?=some #[231]
theorem dZ.l {M:Mem}{r:List Nat}:dZ M (.lst #[231]) r:=.inl rfl
theorem dZ.sub {M M':Mem}{x:D}{r:List Nat}(h:dZ M x r)(s:Sub M M'):dZ M' x r:=h.elim .inl fun ⟨q,e,g⟩=>.inr ⟨q,e,s.get g⟩
theorem dZ.seq {M:Mem}{x:D}{r:List Nat}(h:dZ M x r):bZ M x=some #[231]:=by
 rcases h with rfl|⟨q,rfl,e⟩
 ·rfl
 ·exact e
theorem dZ.is {M:Mem}{x:D}{r:List Nat}(h:dZ M x r):dJ x=true/\eZ x=true/\bN .list x=some true:=by
 rcases h with rfl|⟨q,rfl,e⟩<;>exact ⟨rfl,rfl,rfl⟩
theorem dZ.len {M:Mem}{x:D}{r:List Nat}{k:D->Mem->Prop}(h:dZ M x r):ai (eV .len [x] M) k↔k (.int r.length) M:=by
 rcases h with rfl|⟨q,rfl,e⟩
 ·show k (.int #[231].length) M↔_
  simp
 ·show ai (match M[q]? with|some xs=>_|none=>_) k↔_
  rw [e];simp
section
variable {P:Nat->Option Df}(h:HasM0 P){M:Mem}
include h
theorem tD (n:Nat){m:aV}(hm:bh m):ak P (n+8) 13 [m.d] M=.ok .non M:=by
 refine ax (ay h.need_machine rfl ?_)
 simp [dD,nY h.q n (fN hm) #[1],fv hm]
theorem vp (h15:P 15=some ⟨1,6,ft⟩)(n:Nat){m:aV}(hm:bh m):ak P (n+9) 15 [m.d] M=.ok (.lst ((cE m).map aQ)) M:=by
 refine ax (ay h15 rfl ?_)
 have w4:=hm.w4
 have p2:=hm.p2
 simp [ft,tD h n hm]
 simp [aV.d,eL]
 refine ⟨by decide,by omega,?_⟩
 refine cz (ds:=(List.range m.places).map fun (k:Nat)=>D.int (k:Int)) (fun i Z M'=>M'=M/\∃a,Z=[some m.d,some (nD m.words),some (nD m.places),some (.tup #[80]),some (.lst ((fc m.words i).map aQ)),a]) #[36] ⟨rfl,none,by simp [aV.d,fc,aQ]⟩ ?_ ?_
 ·rintro i d Z M' hd ⟨rfl,a,rfl⟩
  have hi:i<m.places:=by
   have:=#[246].1
   simpa using this
  refine ⟨_,rfl,?_⟩
  simp [dJ]
  refine xJ (ds:=(fc m.words i).map aQ) (fun _=>(List.range m.words).map fun (k:Nat)=>D.int (k:Int)) (fun d e=>match d,e with|.tup x,e=>.tup (x++[e])|_,_=>.non) 4 (by simpa using fun _ _=>w4) ?_ rfl ?_ ?_
  ·have:=kB w4 i #[0]
   have:(4:Nat)^i<=4^2:=Nat.pow_le_pow_right #[1] #[0]
   simp only [MN]
   exact av #[0]
  ·intro d hd
   obtain ⟨s,hs,rfl⟩:=Nu.mp hd
   have ⟨l1,_⟩:=uX s hs
   refine ⟨_,rfl,(fun _=>some #[348]),aM ?_,rfl,fun e he=>⟨_,rfl,ax ?_⟩⟩
   ·simp
    omega
   ·simp [aQ,sz]
    omega
  ·have e0:((fc m.words i).map aQ).flatMap (fun d=>#[348].map (fun e=>match d,e with|.tup x,e=>D.tup (x++[e])|_,_=>.non))=(fc m.words (i+1)).map aQ:=by
    simp only [fc,xE,List.flatMap_map,List.map_flatMap,List.map_map]
    congr 1
    funext s
    simp [aQ,OI]
   rw [e0]
   refine ⟨?_,rfl,rfl⟩
   have:=kB w4 (i+1) #[0]
   have:(4:Nat)^(i+1)<=4^2:=Nat.pow_le_pow_right #[1] #[0]
   simp only [MN]
   exact av #[0]
 ·rintro Z M' ⟨rfl,a,rfl⟩
  simp [cE]
theorem Ea (n:Nat){m:aV}{i:Nat}(hi:i<m.deeds.length):ak P (n+2) 16 [m.d,nD i] M=.ok #[170] M:=by
 refine ax (ay h.is_deed_number rfl ?_)
 simp [fE,aV.d,bB,wI h]
 omega
theorem wG (n:Nat){m:aV}{x:D}{r:List Nat}(hx:dZ M x r)(hr:∀i∈r,i<m.deeds.length):ak P (n+3) 17 [m.d,x] M=.ok .non M:=by
 refine ax (ay h.need_numbers rfl ?_)
 obtain ⟨i1,i2,i3⟩:=hx.is
 simp [cF,i1,i2,i3]
 refine cz (ds:=cf 0 #[231]) (fun i Z M'=>M'=M/\∃a b,Z=[some m.d,some x,a,b]) (fun _ _ _ e=>by rw [e.1,hx.seq];rfl) ⟨rfl,none,none,rfl⟩ ?_ ?_
 ·rintro i d Z M' hd ⟨rfl,a,b,rfl⟩
  rw [cQ] at hd
  rw [Nm] at hd
  cases e:r[i]? with
  |none=>rw [e] at hd;cases hd
  | some x =>
    rw [e] at hd
    simp at hd
    subst hd
    refine ⟨_,rfl,?_⟩
    simp [Ea h n (hr x (MO e))]
 ·rintro Z M' ⟨rfl,a,b,rfl⟩
  simp
theorem qX (n:Nat){m:aV}{x:D}{r:List Nat}(hx:dZ M x r)(hm:bh m)(hr:dP m r):ak P (n+9) 18 [m.d,x] M=.ok .non M:=by
 have e:=wG h (n+5) (m:=m) hx hr.2
 refine ax (ay h.need_row rfl ?_)
 simp [dY,tD h n hm,e]
 rw [hx.len]
 have:=hr.1
 simp
 omega
theorem F2 (n:Nat){m:aV}{r:List Nat}(hm:bh m)(hr:dP m r):ak P (n+9) 18 [m.d,bI r] M=.ok .non M:=qX h n .l hm hr
end
section
variable {P:Nat->Option Df}(h:HasM P){M:Mem}
include h
theorem yD (n:Nat){m:aV}{a c:Nat}{t s:List Nat}(hd:cq m.words m.places (.turn a t c))(hs:gQ m s):ak P (n+1) 20 [(ba.turn a t c).d,aQ s] M=.ok (nD (eJ (.turn a t c) s)) M:=by
 obtain ⟨h1,h2,h3⟩:=hd
 have a1:a<s.length:=by rw [hs.1];exact h1
 have a2:s.getD a 0<t.length:=by rw [h2.1];exact hs.2 _ (getD_mem a1)
 refine ax (ay h.turned rfl ?_)
 simp [-gX,-List.getD_eq_getElem?_getD,oC,ba.d,eL,ip a1,ip a2,eJ]
theorem yJ (n:Nat){m:aV}{a o c:Nat}{t:List #[174]}{s:List Nat}(hd:cq m.words m.places (.join a o t c))(hs:gQ m s):ak P (n+1) 21 [(ba.join a o t c).d,aQ s] M=.ok (nD (eJ (.join a o t c) s)) M:=by
 obtain ⟨h1,h2,h3,h4⟩:=hd
 have a1:a<s.length:=by rw [hs.1];exact h1
 have a2:o<s.length:=by rw [hs.1];exact h2
 have a3:s.getD a 0<t.length:=by rw [h3.1];exact hs.2 _ (getD_mem a1)
 have a4:s.getD o 0<(t.getD (s.getD a 0) []).length:=by rw [(h3.2 _ (getD_mem a3)).1];exact hs.2 _ (getD_mem a2)
 refine ax (ay h.joined rfl ?_)
 simp [-gX,-List.getD_eq_getElem?_getD,oG,ba.d,eL,ip a1,ip a2,zH a3,ip a4,eJ]
theorem Bc (n:Nat){m:aV}{a o c:Nat}{s:List Nat}(hd:cq m.words m.places (.move a o c))(hs:gQ m s):ak P (n+1) 22 [(ba.move a o c).d,aQ s] M=.ok (nD (eJ (.move a o c) s)) M:=by
 obtain ⟨h1,h2,h3⟩:=hd
 have a2:o<s.length:=by rw [hs.1];exact h2
 refine ax (ay h.moved rfl ?_)
 simp [-gX,-List.getD_eq_getElem?_getD,qH,ba.d,eL,ip a2,eJ]
theorem Bb (n:Nat){a x c:Nat}{s:List Nat}:ak P (n+1) 23 [(ba.put a x c).d,aQ s] M=.ok (nD (eJ (.put a x c) s)) M:=by
 refine ax (ay h.put_in rfl ?_)
 simp [oE,ba.d,eL,eJ]
end
theorem Ls:dq.lookup (Str.ofString "turn")=some 20:=by decide +kernel
theorem Lr:dq.lookup (Str.ofString "join")=some 21:=by decide +kernel
theorem Lq:dq.lookup (Str.ofString "move")=some 22:=by decide +kernel
theorem Lp:dq.lookup (Str.ofString "put")=some 23:=by decide +kernel
theorem F7 {s:List Nat}{M:Mem}{k:D->Mem->Prop}{a:Nat}(ha:a<=s.length):ai (eG false (aQ s) .non (.int a) M) k↔k (aQ (s.take a)) M:=by
 simp only [eG,aQ,aS,cut]
 rw [if_neg #[0]]
 simp
 rw [O9 (by simpa using ha)]
theorem Ed {s:List Nat}{M:Mem}{k:D->Mem->Prop}{a:Nat}(ha:a<=s.length):ai (eG false (aQ s) (.int a) .non M) k↔k (aQ (s.drop a)) M:=by
 simp only [eG,aQ,aS,cut]
 rw [if_neg #[0]]
 simp
 rw [O9 (by simpa using ha),NT (by simp)]
section
variable {P:Nat->Option Df}(h:HasM P){M:Mem}
include h
theorem D9 (n:Nat){m:aV}{d:ba}{s:List Nat}(hm:bh m)(hd:cq m.words m.places d)(hs:gQ m s):ak P (n+2) 24 [d.d,aQ s] M=.ok (aQ (fo d s)) M:=by
 have a0:=sN hd
 have l0:=hs.1
 have p2:=hm.p2
 have key:∀f,ak P (n+1) f [d.d,aQ s] M=.ok (nD (eJ d s)) M->cu d.d (.int 1) M=some (nD d.at')->(∀k:D->Mem->Prop,(∃y,cu d.d (.int 0) M=some (.str y)/\dq.lookup y=some f))->ak P (n+2) 24 [d.d,aQ s] M=.ok (aQ (fo d s)) M:=fun f e1 e2 e3=>by
  obtain ⟨y,e3,e4⟩:=e3 fun _ _=>True
  refine ax (ay h.done rfl ?_)
  simp only [uY,aC,fk,HU,fA,aU,cS,d3,cj,dz,nv,gE,aY,bo,Fe]
  simp [-gX,e1,e2,e3,e4,b9]
  rw [F7 #[0],e1]
  have e5:(d.at':Int)+1=((d.at'+1:Nat):Int):=by omega
  rw [e5]
  simp only [dW,aQ,lj]
  refine ⟨by decide,?_,?_⟩
  ·simp
   exact av #[0]
  ·rw [show D.tup (s.map nD)=aQ s from rfl,Ed #[0]]
   simp only [aQ,lj]
   refine ⟨?_,?_,trivial⟩
   ·simp
    exact av #[0]
   ·simp [fo]
 cases d with
 |turn a t c=>exact key 20 (yD h n hd hs) rfl fun _=>⟨_,rfl,Ls⟩
 |join a o t c=>exact key 21 (yJ h n hd hs) rfl fun _=>⟨_,rfl,Lr⟩
 |move a o c=>exact key 22 (Bc h n hd hs) rfl fun _=>⟨_,rfl,Lq⟩
 |put a x c=>exact key 23 (Bb h n) rfl fun _=>⟨_,rfl,Lp⟩
theorem va (n:Nat){m:aV}{x:D}{r s:List Nat}(hx:dZ M x r)(hm:bh m)(hrl:r.length<=100000)(hr:∀i∈r,i<m.deeds.length)(hs:gQ m s):ak P (n+3) 25 [m.d,x,aQ s] M=.ok #[215] (M++[(fm m r s).map aQ]):=by
 refine ax (ay h.all_standing rfl ?_)
 simp [iQ,hx.is]
 refine ⟨by decide,?_⟩
 refine cz (ds:=r.map nD) (fun i Z M'=>M'=M++[(fm m (r.take i) s).map aQ]/\∃a,Z=[some m.d,some x,some (aQ s),some #[215],a]) (fun _ _ _ e=>by rw [e.1];exact (hx.sub Sub.app).seq) ⟨by simp [fm],none,rfl⟩ ?_ ?_
 ·rintro i d Z M' hd ⟨rfl,a,rfl⟩
  rw [Nm] at hd
  cases e:r[i]? with
  |none=>rw [e] at hd;cases hd
  | some x =>
    rw [e] at hd
    simp at hd
    subst hd
    have hx:=hr x (MO e)
    have hi:i<r.length:=(Mw.mp e).1
    refine ⟨_,rfl,?_⟩
    have hse:gQ m (cw m (r.take i) s):=qC hm (fun j hj=>hr j (Nw hj)) hs
    have hl:=n6 (m:=m) (r.take i) s
    have hl2:(r.take i).length=i:=by simp;omega
    simp [-gX,Hs,uz hx,nN,D9 h n hm (lF hm hx) hse]
    refine ⟨?_,?_⟩
    ·rw [hl,hl2]
     exact OD (show i+1<=100001 by omega) #[1]
    ·rw [NS,e]
     simp [qZ]
 ·rintro Z M' ⟨rfl,a,rfl⟩
  simp
def oB (m:aV)(r:List Nat):D:=.tup ((cE m).map fun s=>aQ (cw m r s))
theorem tG (h15:P 15=some ⟨1,6,ft⟩)(h46:P 46=some ⟨2,2,ji⟩)(n:Nat){m:aV}{x:D}{r:List Nat}(hx:dZ M x r)(hm:bh m)(hrl:r.length<=100000)(hr:∀i∈r,i<m.deeds.length):ak P (n+10) 46 [m.d,x] M=.ok (oB m r) (M++(cE m).map fun s=>(fm m r s).map aQ):=by
 refine ax (ay h46 rfl ?_)
 simp [ji,vp h.toHasM0 h15 n hm]
 refine ⟨rfl,?_⟩
 have bl:=uW hm
 refine comp_map (ds:=(cE m).map aQ) (fun i acc M'=>acc=((cE m).take i).map (fun s=>aQ (cw m r s))/\M'=M++((cE m).take i).map fun s=>(fm m r s).map aQ) (av #[7]) #[36] (by simp) ?_ ?_
 ·rintro i d acc M' hd _ ⟨rfl,eM⟩
  rw [Nm] at hd
  cases e:(cE m)[i]? with
  |none=>rw [e] at hd;cases hd
  | some s =>
    rw [e] at hd
    have hd:aQ s=d:=MA hd
    subst hd
    have hs:=wc s (MO e)
    refine ⟨_,rfl,?_⟩
    have st:=va h (n+6) (M:=M') (by rw [eM];exact hx.sub Sub.app) hm hrl hr hs
    simp [st,nN]
    rw [eM,NS,NS]
    simp [e]
 ·rintro acc M' _ ⟨rfl,rfl⟩
  simp
  exact ⟨av #[0],by simp [oB,NT]⟩
theorem qY (h15:P 15=some ⟨1,6,ft⟩)(h27:P 27=some ⟨2,2,i5⟩)(h46:P 46=some ⟨2,2,ji⟩)(n:Nat){m:aV}{x:D}{r:List Nat}(hx:dZ M x r)(hm:bh m)(hr:dP m r):ak P (n+11) 27 [m.d,x] M=.ok (oB m r) (M++(cE m).map fun s=>(fm m r s).map aQ):=by
 refine ax (ay h27 rfl ?_)
 simp [i5,qX h.toHasM0 (n+1) hx hm hr,tG h h15 h46 n hx hm (MF hr.1 #[1]) hr.2]
end
end LD
namespace LD
open PySem
@[simp] theorem uj {j:Nat}{M:Mem}{k:D->Mem->Prop}:ai (eV .len [.cell j] M) k↔∃ds,M[j]?=some ds/\k (.int ds.length) M:=by
 show ai (match M[j]? with|some xs=>_|none=>_) k↔_
 cases M[j]?<;>simp
structure aH (M:Mem) (p B:Nat):Prop where
 ex:∃(c:Nat) (cells:List Int) (at_ st:Int),M[p]?=some [.cell c,.int at_,.int st]/\M[c]?=some (cells.map D.int)/\c<p/\0<=at_/\at_<=B/\0<=st
structure aZ (p:Nat) (M M':Mem):Prop where
 len:M.length<=M'.length
 at':∀k,k<M.length->k≠p->M'[k]?=M[k]?
theorem aZ.refl {p:Nat}{M:Mem}:aZ p M M:=⟨My _,fun _ _ _=>rfl⟩
theorem aZ.trans {p:Nat}{M M1 M2:Mem}(a:aZ p M M1)(b:aZ p M1 M2):aZ p M M2:=⟨MF a.len b.len,fun k hk n=>(b.at' k (MQ hk a.len) n).trans (a.at' k hk n)⟩
theorem aZ.set {p:Nat}{M:Mem}{ds:List D}:aZ p M (M.set p ds):=⟨by simp,fun k _ n=>MY (NM n)⟩
theorem aZ.app {p:Nat}{M X:Mem}:aZ p M (M++X):=⟨by simp,fun k hk _=>Ng hk⟩
theorem aZ.get {p k:Nat}{M M':Mem}{ds:List D}(h:aZ p M M')(e:M[k]?=some ds)(n:k≠p):M'[k]?=some ds:=by rw [h.at' k (Mw.mp e).1 n];exact e
theorem aH.lt {M:Mem}{p B:Nat}(h:aH M p B):p<M.length:=by obtain ⟨_,_,_,_,e,_⟩:=h.ex;exact (Mw.mp e).1
theorem aH.app {M X:Mem}{p B:Nat}(h:aH M p B):aH (M++X) p B:=by
 obtain ⟨c,cells,a,st,e1,e2,r⟩:=h.ex
 exact ⟨c,cells,a,st,by rw [Ng (Mw.mp e1).1];exact e1,by rw [Ng (Mw.mp e2).1];exact e2,r⟩
theorem aH.mono {M:Mem}{p B B':Nat}(h:aH M p B)(hb:B<=B'):aH M p B':=by
 obtain ⟨c,cells,a,st,e1,e2,e3,e4,e5,e6⟩:=h.ex
 exact ⟨c,cells,a,st,e1,e2,e3,e4,by omega,e6⟩
theorem aH.setq {M:Mem}{p q B:Nat}{ds:List D}(h:aH M p B)(hq:p<q):aH (M.set q ds) p B:=by
 obtain ⟨c,cells,a,st,e1,e2,e3,e4,e5,e6⟩:=h.ex
 exact ⟨c,cells,a,st,by rw [MY #[0]];exact e1,by rw [MY #[0]];exact e2,e3,e4,e5,e6⟩
theorem aZ.setq {p q:Nat}{M M':Mem}{ds:List D}(h:aZ p M M')(hq:M.length<=q):aZ p M (M'.set q ds):=⟨by simpa using h.len,fun k hk n=>by rw [MY #[0]];exact h.at' k hk n⟩
theorem zr {a b A B:Int}(h1:0<=a)(h2:a<=A)(h3:0<=b)(h4:b<=B):0<=a*b/\a*b<=A*B:=
 ⟨Int.mul_nonneg h1 h3,Int.mul_le_mul h2 h4 h3 (Int.le_trans h1 h2)⟩
def EE:List D:=[.int 2147483629,.int 2147483587,.int 2147483579,.int 2147483563,.int 2147483549,.int 2147483543,.int 2147483497,.int 2147483489,.int 2147483477,.int 2147483423,.int 2147483399,.int 2147483353,.int 2147483323]
theorem og (j:Int)(M:Mem):∃q:Int,cu (.lst EE) (.int (j % 13)) M=some (.int q)/\0<q/\q<2147483648:=by
 have h1:0<=j % 13:=NX _ #[1]
 have h2:j % 13<13:=NP _ #[1]
 generalize j % 13=i at h1 h2
 have:i=0\/i=1\/i=2\/i=3\/i=4\/i=5\/i=6\/i=7\/i=8\/i=9\/i=10\/i=11\/i=12:=by omega
 rcases this with rfl|rfl|rfl|rfl|rfl|rfl|rfl|rfl|rfl|rfl|rfl|rfl|rfl<;>exact ⟨_,rfl,by decide,by decide⟩
section
variable {P:Nat->Option Df}(h:HasP0 P){M:Mem}
include h
theorem yF (n:Nat){x a:Int}(h0:0<=a)(h1:a<=1000000):ai (ak P (n+1) 28 [.int x,.int a] M) fun d M'=>M'=M/\∃v:Int,d=.int v/\0<=v:=by
 refine ay h.law_spread rfl ?_
 simp [-vS,jq]
 by_cases hx:(1000000000000000000:Int)<=x
 ·exact .inr ⟨hx,by omega⟩
 ·have r1:=NX x (show (1000000007:Int)≠0 by decide)
  have r2:=NP x (show (0:Int)<1000000007 by decide)
  have r3:=NX x (show (65537:Int)≠0 by decide)
  have r4:=NP x (show (0:Int)<65537 by decide)
  obtain ⟨m1,m2⟩:=zr r1 (Int.le_of_lt r2) (show 0<=2*a+69069 by omega) (show 2*a+69069<=2069069 by omega)
  refine .inl ⟨by omega,by decide,by decide,by decide,.inl ⟨by omega,by omega⟩,by omega,?_⟩
  obtain ⟨q1,e1,p1,p2⟩:=og a M
  refine ⟨.int q1,e1,?_⟩
  generalize (x % 1000000007*(2*a+69069)+a*40503+977)^3=y1
  have b1:=NX y1 (show q1≠0 by omega)
  have b2:=NP y1 p1
  generalize hz1:y1 % q1=one at b1 b2
  obtain ⟨m3,m4⟩:=zr b1 (show one<=2147483648 by omega) (show 0<=a+3 by omega) (show a+3<=1000003 by omega)
  simp only [pz,ug,fK,tU,hz1]
  refine ⟨p1,.inr ⟨by omega,by omega⟩,⟨by decide,by decide,by omega⟩,?_⟩
  obtain ⟨q2,e2,p3,p4⟩:=og (a+5) M
  refine ⟨.int q2,e2,?_⟩
  generalize (one*(a+3)+x % 65537+5)^(5:Int).toNat=y2
  have b3:=NX y2 (show q2≠0 by omega)
  have b4:=NP y2 p3
  generalize hz2:y2 % q2=two at b3 b4
  have r5:=NX one (show (1009:Int)≠0 by decide)
  have r6:=NP one (show (0:Int)<1009 by decide)
  simp only [pz,ug,fK,tU,hz2]
  refine ⟨p3,by decide,⟨by decide,by decide,by omega⟩,?_⟩
  obtain ⟨q3,e3,p5,p6⟩:=og (a+7) M
  refine ⟨.int q3,e3,?_⟩
  generalize (two+one % 1009+a)^(3:Int).toNat=y3
  have b5:=NX y3 (show q3≠0 by omega)
  simp only [pz,ug,fK,tU]
  refine ⟨p5,.inr ⟨by decide,by decide⟩,.inr ⟨by decide,by decide⟩,trivial,_,rfl,by omega⟩
omit h in
theorem LG:bB 3 0=some 0:=rfl
omit h in
theorem LF:bB 3 1=some 1:=rfl
omit h in
theorem HF:bB 3 2=some 2:=rfl
omit h in
theorem qs {l:List Int}{i:Int}(h0:0<=i)(h1:i<l.length):∃x,((bB l.length i).bind fun j=>Option.map D.int l[j]?)=some (.int x):=by
 obtain ⟨k,rfl⟩:=Int.eq_ofNat_of_zero_le h0
 have hk:k<l.length:=by omega
 refine ⟨l[k],?_⟩
 rw [eQ hk]
 simp [hk]
def lG:GS:=ag (aJ (.one 4) (au false .mod #[35] (ae 1))) #[232]
def pZ (c:Call):GS:=ag (f6 (ae 0) (gI 1) #[352]) #[339]
omit h in
theorem qU {M M1:Mem}{p c many B:Nat}{cells:List Int}{a st:Int}{x y:Option D}(e1:M1[p]?=some [.cell c,.int a,.int st])(e2:M1[c]?=some (cells.map D.int))(lt:c<p)(a0:0<=a)(aB:a<=(B+1:Nat))(s0:0<=st)(k:aZ p M M1)
 (h0:0<many) (h1:many<=10000000):ai (lG [some (.cell p),some (nD many),x,y,none] M1) (iK fun d M'=>∃v:Nat,d=nD v/\v<many/\aH M' p (B+1)/\aZ p M M'):=by
 have hp:p<M1.length:=(Mw.mp e1).1
 have ne:c≠p:=Nt lt
 have b0:(0:Int)<(many:Int):=by omega
 have r1:=NX st (show (many:Int)≠0 by omega)
 have r2:=NP st b0
 simp [lG,e1,bB]
 refine ⟨by omega,by omega,(st % many).toNat,by omega,by omega,⟨c,cells,a,st / many,?_,?_,lt,a0,aB,Int.ediv_nonneg s0 #[0]⟩,k.trans aZ.set⟩
 ·simp [hp]
 ·rw [MY (NM ne)];exact e2
theorem vm (n:Nat){p B many:Nat}(hp:aH M p B)(hB:B<=1000000)(h0:0<many)(h1:many<=10000000):ai (ak P (n+2) 31 [.cell p,nD many] M) fun d M'=>∃v:Nat,d=nD v/\v<many/\aH M' p (B+1)/\aZ p M M':=by
 obtain ⟨c,cells,a,st,e1,e2,lt,a0,aB,s0⟩:=hp.ex
 have ne:c≠p:=Nt lt
 have hpl:p<M.length:=(Mw.mp e1).1
 refine ay h.law_take rfl ?_
 show ai (ag (aR _ (ag _ (ag _ (ag _ (pZ (ak P (n+1)))))) _) lG [some (.cell p),some (nD many),none,none,none] M) _
 have mid:∀(x:Int),ai (pZ (ak P (n+1)) [some (.cell p),some (nD many),some (.int a),some (.int x),none] M) (iV lG (iK fun d M'=>∃v:Nat,d=nD v/\v<many/\aH M' p (B+1)/\aZ p M M')):=by
  intro x
  unfold pZ
  simp [e1,bB]
  refine aG (yF h n (x:=x) (a:=a) a0 #[0]) fun d M' ⟨e,v,ev,v0⟩=>?_
  subst e ev
  refine ⟨[.cell c,.int (a+1),.int st],by simp [hpl],2,by simp,?_⟩
  have k1:aZ p M ((M.set p [.cell c,.int (a+1),.int st]).set p ([.cell c,.int (a+1),.int st].set 2 (.int v))):=aZ.set.trans aZ.set
  refine qU (c:=c) (cells:=cells) (a:=a+1) (st:=v) ?_ ?_ lt #[0] #[0] v0 k1 h0 h1
  ·simp [hpl]
  ·rw [MY (NM ne),MY (NM ne)];exact e2
 have c0:(0:Int)<=(cells.length:Int):=by omega
 simp [e1,e2,LG,LF,HF,nD]
 by_cases c1:st<many
 ·refine .inr ⟨c1,?_⟩
  by_cases c2:a<(cells.length:Int)
  ·obtain ⟨x,ex⟩:=qs a0 c2
   exact .inr ⟨c2,_,ex,mid x⟩
  ·refine .inl ⟨by omega,?_⟩
   by_cases c3:cells=[]
   ·exact .inl ⟨c3,mid 0⟩
   ·have c4:0<cells.length:=Pn.mpr c3
    have r1:=NX (a*5+3) (show (cells.length:Int)≠0 by omega)
    have r2:=NP (a*5+3) (show (0:Int)<(cells.length:Int) by omega)
    obtain ⟨x,ex⟩:=qs r1 r2
    refine .inr ⟨c4,_,ex,?_⟩
    simp only [pz]
    exact ⟨by omega,mid _⟩
 ·refine .inl ⟨by omega,?_⟩
  exact qU e1 e2 lt a0 #[0] s0 .refl h0 h1
end
end LD
namespace LD
open PySem
def ba.withC:ba->Nat->ba
 |.turn a t _,c=>.turn a t c
 |.join a o t _,c=>.join a o t c
 |.move a o _,c=>.move a o c
 |.put a x _,c=>.put a x c
theorem Az {w p c:Nat}{d:ba}(h:cq w p d)(hc:fM c):cq w p (d.withC c):=by
 cases d with
 |turn=>exact ⟨h.1,h.2.1,hc⟩
 |join=>exact ⟨h.1,h.2.1,h.2.2.1,hc⟩
 |move=>exact ⟨h.1,h.2.1,hc⟩
 |put=>exact ⟨h.1,h.2.1,hc⟩
theorem Fz {w p:Nat}{d:ba}(h:cq w p d):fM d.cost:=by
 cases d with
 |turn=>exact h.2.2
 |join=>exact h.2.2.2
 |move=>exact h.2.2
 |put=>exact h.2.2
theorem Cg {d:ba}{c:Nat}{M:Mem}{k:D->Mem->Prop}(hk:k (d.withC c).d M):ai (eG false d.d .non (.int (-1)) M) fun x M=>ai (eW false .add x (.tup [nD c]) M) k:=by
 cases d<;>(simp [ba.d,eG,aS,cut];exact ⟨by decide,hk⟩)
theorem A9 (n:Nat)(d:ba):aA (n+3) d.d=true:=by
 have tp:∀(n:Nat) (l:List Nat),(l.map nD).all (aA n)=true:=fun n l=>by
  rw [MC];intro x hx;obtain ⟨i,_,rfl⟩:=Nu.mp hx;cases n<;>rfl
 cases d with
 |turn a t c=>simp [ba.d,aA,aQ,nD];decide +kernel
 |join a o t c=>simp [ba.d,aA,nD,aQ];decide +kernel
 |move a o c=>simp [ba.d,aA,nD];decide +kernel
 |put a x c=>simp [ba.d,aA,nD];decide +kernel
theorem ne_nil {M:Mem}{q:Nat}{ds:List ba}(e:M[q]?=some #[184]):bx .ne (.cell q) (.lst []) M=some (!ds.isEmpty):=by
 have hp:#[184].all (aA 63)=true:=by
  rw [MC];intro x hx;obtain ⟨d,_,rfl⟩:=Nu.mp hx;exact A9 60 d
 have hv:view M (.cell q)=.lst #[184]:=by simp [view,e]
 have h1:aA 64 (.lst #[184])=true:=hp
 refine iM (by rw [hv];exact h1) rfl ?_
 rw [hv]
 cases ds<;>rfl
@[simp] theorem Hl {m:Bool}{x:List D}{j:Int}{M:Mem}{k:D->Mem->Prop}:ai (eW m .mul (.tup x) (.int j) M) k↔(x.length*j.toNat<=sz/\-(2^63)<=j/\j<2^63)/\k (.tup #[109].flatten) M:=jV
@[simp] theorem Hm {m:Bool}{x:List D}{j:Int}{M:Mem}{k:D->Mem->Prop}:ai (eW m .mul (.lst x) (.int j) M) k↔(x.length*j.toNat<=sz/\-(2^63)<=j/\j<2^63)/\ai (bG m #[109].flatten M) k:=jV
theorem oV {xs:List D}{a:Nat}{M:Mem}{k:D->Mem->Prop}:ai (eG false (.lst xs) .non (.int a) M) k↔(xs.take a).length<=sz/\k (.lst (xs.take a)) M:=by
 have e:cut xs 0 #[146]=xs.take a:=by
  unfold cut
  rcases Nat.le_total a xs.length with h|h
  ·rw [O9 h];simp
  ·rw [Nat.min_eq_right h];simp [NT h]
 show ai (match aS xs.length 0 D.non,aS xs.length xs.length (.int a) with|some l,some h=>bG false #[332] M|_,_=>.bad) k↔_
 have e2:aS xs.length xs.length (.int a)=some #[146]:=by
  show some _=_
  rw [if_neg #[0]];simp
 rw [e2]
 show ai (bG false (cut xs 0 #[146]) M) k↔_
 rw [e,bD]
theorem Bn {xs:List D}{a:Nat}{M:Mem}{k:D->Mem->Prop}:ai (eG false (.lst xs) (.int a) .non M) k↔(xs.drop a).length<=sz/\k (.lst (xs.drop a)) M:=by
 have e:cut xs #[146] xs.length=xs.drop a:=by
  unfold cut
  rcases Nat.le_total a xs.length with h|h
  ·rw [O9 h,NT (by simp)]
  ·rw [Nat.min_eq_right h];simp [List.drop_eq_nil_of_le h]
 show ai (match aS xs.length 0 (.int a),aS xs.length xs.length D.non with|some l,some h=>bG false #[332] M|_,_=>.bad) k↔_
 have e2:aS xs.length 0 (.int a)=some #[146]:=by
  show some _=_
  rw [if_neg #[0]];simp
 rw [e2]
 show ai (bG false (cut xs #[146] xs.length) M) k↔_
 rw [e,bD]
theorem uL {w:Nat}{ge:GE}{Z:Env}{M:Mem}{kl:List D->Mem->Prop}(f:Nat->Nat)(hw:w<=100)(hf:∀k,k<w->ge (some (.int (k:Int))::Z) M=.ok (nD (f k)) M)(hk:kl ((#[247].map f).map nD) M) :
 ai (dG (dI (.one 0) (bU ge) (none::Z)) (fun _=>some (#[247].map fun (k:Nat)=>D.int (k:Int))) [] M) kl:=by
 refine jg (ds:=#[247].map fun (k:Nat)=>D.int (k:Int)) (fun d=>match d with|.int i=>nD (f i.toNat)|_=>.non) (av #[7]) rfl (fun d hd=>?_) ?_
 ·obtain ⟨k,hk,rfl⟩:=Nu.mp hd
  exact ⟨_,rfl,hf k (Od.mp hk)⟩
 ·simpa [OI] using hk
theorem vi {w:Nat}{f:Nat->Nat}(hf:∀k,k<w->f k<w):gK w (#[247].map f):=⟨by simp,fun x hx=>by
 obtain ⟨k,hk,rfl⟩:=Nu.mp hx
 exact hf k (Od.mp hk)⟩
section
variable {P:Nat->Option Df}(h:HasP0 P){M:Mem}
include h
theorem Eb (n:Nat){p B:Nat}(hp:aH M p B):ai (ak P (n+1) 30 [.cell p] M) fun d M'=>d=.cell p/\aH M' p B/\aZ p M M':=by
 obtain ⟨c,cells,a,st,e1,e2,lt,a0,aB,s0⟩:=hp.ex
 have ne:c≠p:=Nt lt
 have hpl:p<M.length:=(Mw.mp e1).1
 refine ay h.law_anew rfl ?_
 simp [kM,e1,HF]
 refine ⟨⟨c,cells,a,0,by simp [hpl],?_,lt,a0,aB,by omega⟩,aZ.set⟩
 rw [MY (NM ne)];exact e2
theorem tk (n:Nat){p B many:Nat}{k:D->Mem->Prop}(hp:aH M p B)(hB:B<=1000000)(h0:0<many)(h1:many<=10000000)(hk:∀(v:Nat) (M':Mem),v<many->aH M' p (B+1)->aZ p M M'->k (nD v) M'):ai (ak P (n+2) 31 [.cell p,nD many] M) k:=
 aG (vm h n hp hB h0 h1) fun d M' ⟨v,e,hv,hp',hk'⟩=>by subst e;exact hk v M' hv hp' hk'
end
theorem bd {B c k m:Nat}(h:B<=c)(e:c+k<=m):B+k<=m:=MF (Nat.add_le_add_right h k) e
theorem xn {B k m:Nat}(e:k<=m):B+k<=B+m:=Nat.add_le_add_left e B
theorem nj {xs:List D}{v:Nat}{M:Mem}(h:v<xs.length):cu (.lst xs) (nD v) M=some xs[v]:=by
 show (bB xs.length (v:Int)).bind (fun j=>xs[j]?)=_
 rw [eQ h]
 simp [h]
theorem sE {Z:Env}{M:Mem}{j v c:Nat}(h:Z[j]?.getD none=some (nD v)):(aw (aL .lt (ae j) #[241]):GT) Z M=.ok (decide (v<c)) M:=by
 refine aM ?_
 simp only [eK,fT,aU,cS]
 refine ⟨_,h,_,rfl,_,rfl,?_,trivial⟩
 simp
theorem ky {Z:Env}{M:Mem}{j v c:Nat}(h:Z[j]?.getD none=some (nD v)):(aw (aL .eq (ae j) #[241]):GT) Z M=.ok ((v:Int)==(c:Int)) M:=by
 refine aM ?_
 simp only [eK,fT,aU,cS]
 exact ⟨_,h,_,rfl,_,rfl,rfl,trivial⟩
section
variable {Z:Env}{M:Mem}{g a:GE}{rest:GS}{kf:Fl->Mem->Prop}
section
variable {P:Nat->Option Df}(hp_:HasP0 P)(n:Nat){i j p B many:Nat}(hj:Z[j]?.getD none=some (.cell p))(hg:g Z M=.ok (nD many) M)(hp:aH M p B)(hB:B<=1000000)(h0:0<many)(h1:many<=10000000)
include hp_ hj hg hp hB h0 h1
theorem f9:ai (aq 31 #[182] (aa (ae j) (aa g ah)) Z M) fun d M'=>∃v:Nat,d=nD v/\v<many/\aH M' p (B+1)/\aZ p M M':=by
 rw [bH (az (aN hj) (az hg rfl))]
 exact vm hp_ n hp hB h0 h1
theorem fG (hk:∀(v:Nat) (M':Mem),v<many->aH M' p (B+1)->aZ p M M'->ai (rest (Z.set i (some (nD v))) M') kf):ai (ag (aJ (.one i) (aq 31 #[182] (aa (ae j) (aa g ah)))) rest Z M) kf:=by
 refine cb (f9 hp_ n hj hg hp hB h0 h1) ?_
 rintro x M' ⟨v,rfl,a,b,c⟩
 exact hk v M' a b c
theorem uy {xs:List D}(hl:a Z M=.ok (.lst xs) M)(hz:xs.length=many):ai (aF a (aq 31 #[182] (aa (ae j) (aa g ah))) Z M) fun d M'=>d∈xs/\aH M' p (B+1)/\aZ p M M':=by
 unfold aF
 rw [hl,br,dW,br]
 refine aG (f9 hp_ n hj hg hp hB h0 h1) ?_
 rintro x M' ⟨v,rfl,a,b,c⟩
 rw [nj #[0]]
 exact ⟨Nz _,b,c⟩
end
end
section
variable {Z:Env}{M:Mem}{k:D->Mem->Prop}
theorem jP {e:GE}{K:Fl->Mem->Prop}(h:ai (e Z M) fun x M=>K (.ret x) M):ai (ag (aK e) aj Z M) K:=by
 simp only [aC,cj]
 exact h
theorem zt {e:GE}{j v w:Nat}(he:e Z M=.ok (nD v) M)(hj:Z[j]?.getD none=some (nD w))(hw:0<w):au false .mod e (ae j) Z M=.ok (nD (v % w)) M:=by
 unfold au
 rw [he]
 show (ae j Z M).bind _=_
 rw [aN hj]
 show (if (0:Int)<(w:Int) then Res.ok (D.int ((v:Int) % (w:Int))) M else .bad)=_
 rw [if_pos #[0]]
 rfl
theorem qM {e f:GE}{v w:Nat}(he:e Z M=.ok (nD v) M)(hf:f Z M=.ok (nD w) M):au false .add e f Z M=.ok (nD (v+w)) M:=by
 unfold au
 rw [he]
 show (f Z M).bind _=_
 rw [hf]
 rfl
theorem F1 {e:GE}{v c:Nat}(he:e Z M=.ok (nD v) M)(hc:c<=v):au false .sub e #[241] Z M=.ok (nD (v-c)) M:=by
 unfold au
 rw [he]
 show Res.ok (D.int ((v:Int)-(c:Int))) M=_
 rw [<- Int.ofNat_sub hc]
end
section
variable {P:Nat->Option Df}(h:HasP P){M:Mem}
include h
theorem yE (n:Nat){p B w:Nat}(hp:aH M p B)(hB:B<=900000)(w2:2<=w)(w4:w<=4):ai (ak P (n+3) 32 [.cell p,nD w] M) fun d M'=>∃t,d=aQ t/\gK w t/\aH M' p (B+7)/\aZ p M M':=by
 have w0:0<w:=MQ #[1] w2
 have wM:w<=10000000:=MF w4 (Nl rfl)
 refine ay h.law_tab rfl ?_
 show ai (jD #[182] [some (.cell p),some (nD w),none,none,none,none] M) _
 unfold jD
 refine fG h n (many:=6) rfl rfl hp (MF hB #[1]) #[1] #[1] fun kind M1 hk p1 k1=>?_
 refine fG h n (many:=w) rfl rfl p1 (bd (k:=1) hB #[1]) w0 wM fun word M2 hw p2 k2=>?_
 refine fG h n (many:=w) rfl rfl p2 (bd (k:=2) hB #[1]) w0 wM fun other M3 ho p3 k3=>?_
 have K3:=#[324].trans k3
 have fin:∀(l:List Nat) (M':Mem),gK w l->aH M' p (B+7)->aZ p M M'->(l.map nD).length<=sz/\∃t,D.tup (l.map nD)=aQ t/\gK w t/\aH M' p (B+7)/\aZ p M M':=fun l M' hl hp' hk'=>⟨av (by rw [MN,hl.1];omega),l,rfl,hl,hp',hk'⟩
 have p7:aH M3 p (B+7):=p3.mono (xn (k:=3) #[1])
 show ai (ag _ _ [some (.cell p),some (nD w),some (nD kind),some (nD word),some (nD other),none] M3) _
 refine dR (sE (c:=2) rfl) (fun _=>?_) fun _=>?_
 ·simp only [aC,cj,dM,aY,bo,gA,fY,aU]
  refine ⟨_,rfl,_,rfl,⟨by omega,by omega⟩,?_⟩
  refine comp_map (ds:=#[247].map fun (k:Nat)=>D.int (k:Int)) (fun i acc M'=>∃t:List Nat,acc=t.map nD/\(∀x∈t,x<w)/\aH M' p (B+3+i)/\aZ p M M') (av #[7]) #[36] ⟨[],rfl,(fun _ hx=>nomatch hx),p3,K3⟩ ?_ ?_
  ·rintro i d acc M' hd _ ⟨t,rfl,ht,hp',hk'⟩
   have hi:i<w:=by
    have:=#[246].1
    simpa using this
   refine ⟨_,rfl,aG (f9 h n (many:=w) rfl rfl hp' #[0] w0 wM) ?_⟩
   rintro _ M4 ⟨v,rfl,hv,p4,k4⟩
   refine ⟨t++[v],by rw [List.map_append];rfl,fun x hx=>?_,p4,hk'.trans k4⟩
   rcases Nh.mp hx with z|z
   ·exact ht x z
   ·rw [Nc.mp z];exact hv
  ·rintro acc M' hl ⟨t,rfl,ht,hp',hk'⟩
   simp only [MN,Ol] at hl hp'
   exact bD.mpr (fin t M' ⟨hl,ht⟩ (hp'.mono #[0]) hk')
 refine dR (ky (c:=2) rfl) (fun _=>?_) fun _=>?_
 ·simp only [aC,cj,dM,aY,bo,gA,fY,aU]
  refine ⟨_,rfl,_,rfl,⟨by omega,by omega⟩,?_⟩
  exact uL (fun k=>(k+1+word) % w) #[0] (fun k hk=>zt (qM (qM (aN rfl) rfl) (aN rfl)) rfl w0) (bD.mpr (fin _ M3 (vi fun k _=>Nat.mod_lt _ w0) p7 K3))
 refine dR (ky (c:=3) rfl) (fun _=>?_) fun _=>?_
 ·simp only [aC,cj,dM,aY,bo,gA,fY,aU]
  refine ⟨_,rfl,_,rfl,⟨by omega,by omega⟩,?_⟩
  refine uL (fun k=>if k=word then other else k) #[0] (fun k hk=>?_) (bD.mpr (fin _ M3 (vi fun k hk=>by split<;>assumption) p7 K3))
  have e:(aw (aL .eq (ae 0) (ae 4)):GT) [some (.int (k:Int)),some (.cell p),some (nD w),some (nD kind),some (nD word),some (nD other),none] M3=.ok ((k:Int)==(word:Int)) M3:=rfl
  by_cases ck:k=word
  ·rw [if_pos ck]
   exact jH (k:=true) (e.trans (by rw [ck,beq_self_eq_true])) #[260] #[20]
  ·rw [if_neg ck]
   exact jH (k:=false) (e.trans (by rw [ND.mpr #[0]])) #[20] #[260]
 refine dR (ky (c:=4) rfl) (fun _=>jP ?_) fun _=>?_
 ·simp only [dz,gE,aY,bo,aU]
  refine ⟨_,rfl,av (n:=1) #[1],_,rfl,Hl.mpr ⟨⟨av #[7],by omega,by omega⟩,List.replicate w word,?_,⟨OJ,fun x hx=>by rw [List.eq_of_mem_replicate hx];exact hw⟩,p7,K3⟩⟩
  simp [aQ,nD]
 ·simp only [aC,fk,Fd,aU,ml,cj,dM,aY,bo,d3]
  simp
  refine ⟨by omega,av #[0],word,eQ hw,other,eQ ho,(#[247].set word other).set other word,?_,⟨by simp,fun x hx=>?_⟩,p7.app,K3.trans aZ.app⟩
  ·simp [aQ,nD,List.map_set]
  ·rcases List.mem_or_eq_of_mem_set hx with z|rfl
   ·rcases List.mem_or_eq_of_mem_set z with y|rfl
    ·exact Od.mp y
    ·exact ho
   ·exact hw
theorem Bg (n:Nat){p B w pl:Nat}(hp:aH M p B)(hB:B<=800000)(w2:2<=w)(w4:w<=4)(p1:1<=pl)(p2:pl<=2):ai (ak P (n+4) 33 [.cell p,nD w,nD pl] M) fun d M'=>∃e:ba,d=e.d/\cq w pl e/\aH M' p (B+40)/\aZ p M M':=by
 have pM:pl<=10000000:=MF p2 (Nl rfl)
 refine ay h.law_deed rfl ?_
 show ai (i6 (ak P (n+3)) [some (.cell p),some (nD w),some (nD pl),none,none,none,none] M) _
 unfold i6
 refine fG h (n+1) (many:=8) rfl rfl hp (MF hB #[1]) #[1] #[1] fun kind M1 hk q1 k1=>?_
 refine cb (k:=fun d M'=>∃v:Nat,d=nD (1+v)/\v<3/\aH M' p (B+2)/\aZ p M1 M') ?_ ?_
 ·rw [dz]
  simp only [cS]
  refine aG (f9 h (n+1) (many:=3) rfl rfl q1 (bd (k:=1) hB #[1]) #[1] #[1]) ?_
  rintro _ M2 ⟨v,rfl,hv,q,kk⟩
  exact fK.mpr ⟨v,by show D.int (1+(v:Int))=D.int ((1+v:Nat):Int);rw [Int.natCast_add];rfl,hv,q,kk⟩
 rintro _ M2 ⟨price,rfl,hc,q2,k2⟩
 refine fG h (n+1) (many:=pl) rfl rfl q2 (bd (k:=2) hB #[1]) p1 pM fun at_ M3 ha q3 k3=>?_
 refine fG h (n+1) (many:=pl) rfl rfl q3 (bd (k:=3) hB #[1]) p1 pM fun other M4 ho q4 k4=>?_
 have K4:=(#[324].trans k3).trans k4
 have co:fM (1+price):=⟨by omega,by omega⟩
 have q40:aH M4 p (B+40):=q4.mono (xn (k:=4) #[1])
 show ai (ag _ _ [some (.cell p),some (nD w),some (nD pl),some (nD kind),some (nD (1+price)),some (nD at_),some (nD other)] M4) _
 refine dR (sE (c:=3) rfl) (fun _=>jP ?_) fun _=>?_
 ·simp only [gE,aY,bo,cS,aU,eR]
  refine ⟨_,rfl,_,rfl,_,rfl,aG (yE h n q4 (bd (k:=4) hB #[1]) w2 w4) fun d M' ⟨t,e,ht,hp',hk'⟩=>⟨_,rfl,av (n:=4) #[1],.turn at_ t (1+price),?_,⟨ha,ht,co⟩,hp'.mono (xn (k:=11) #[1]),K4.trans hk'⟩⟩
  subst e;rfl
 refine dR (sE (c:=5) rfl) (fun _=>jP ?_) fun _=>?_
 ·obtain ⟨o,eo,ho'⟩:∃o:Nat,fR (aw (aL .eq (ae 3) (gI 3))) #[353] (ae 6) [some (.cell p),some (nD w),some (nD pl),some (nD kind),some (nD (1+price)),some (nD at_),some (nD other)] M4=.ok (nD o) M4/\o<pl:=by
   have e:(aw (aL .eq (ae 3) (gI 3)):GT) [some (.cell p),some (nD w),some (nD pl),some (nD kind),some (nD (1+price)),some (nD at_),some (nD other)] M4=.ok ((kind:Int)==3) M4:=ky (c:=3) rfl
   cases q:(kind:Int)==3 with
   |true=>rw [q] at e;exact ⟨(at_+1) % pl,jH e (fun _=>zt (w:=pl) (qM (v:=at_) (w:=1) (aN rfl) rfl) rfl p1) #[20],Nat.mod_lt _ p1⟩
   |false=>rw [q] at e;exact ⟨other,jH e #[20] (fun _=>aN rfl),ho⟩
  simp only [gE,aY,bo,cS,aU]
  refine ⟨_,rfl,?_⟩
  rw [eo,dW]
  exact ⟨_,rfl,av (n:=4) #[1],.move at_ o (1+price),rfl,⟨ha,ho',co⟩,q40,K4⟩
 refine dR (ky (c:=5) rfl) (fun _=>jP ?_) fun _=>?_
 ·simp only [gE,aY,bo,cS]
  show ai (ak P (n+3) 31 [.cell p,nD w] M4) _
  refine tk h (n+1) q4 (bd (k:=4) hB #[1]) (MQ #[1] w2) (MF w4 (Nl rfl)) fun v M5 hv q5 k5=>?_
  exact ⟨av (n:=4) #[1],.put at_ v (1+price),rfl,⟨ha,hv,co⟩,q5.mono (xn (k:=5) #[1]),K4.trans k5⟩
 ·simp only [aC,cj,gE,aY,bo,cS,dM,gA,fY,aU]
  refine ⟨_,rfl,_,rfl,_,rfl,_,rfl,⟨by omega,by omega⟩,?_⟩
  refine comp_map (ds:=#[247].map fun (k:Nat)=>D.int (k:Int)) (fun i acc M'=>∃t:List #[174],acc=t.map aQ/\(∀x∈t,gK w x)/\aH M' p (B+4+i*7)/\aZ p M M') (av #[7]) #[36] ⟨[],rfl,(fun _ hx=>nomatch hx),q4,K4⟩ ?_ ?_
  ·rintro i d acc M' hd _ ⟨t,rfl,ht,hp',hk'⟩
   have hi:i<w:=by
    have:=#[246].1
    simpa using this
   refine ⟨_,rfl,?_⟩
   rw [bH #[19]]
   refine aG (yE h n hp' #[0] w2 w4) ?_
   rintro _ M4 ⟨v,rfl,hv,p4,k4⟩
   refine ⟨t++[v],by rw [List.map_append];rfl,fun x hx=>?_,p4.mono #[0],hk'.trans k4⟩
   rcases Nh.mp hx with z|z
   ·exact ht x z
   ·rw [Nc.mp z];exact hv
  ·rintro acc M' hl ⟨t,rfl,ht,hp',hk'⟩
   simp only [MN,Ol] at hl hp'
   exact bD.mpr ⟨av (by rw [MN];omega),_,rfl,av (n:=5) #[1],.join at_ other t (1+price),rfl,⟨ha,ho,⟨hl,ht⟩,co⟩,hp'.mono #[0],hk'⟩
theorem wH (n:Nat){p B W Pl mo:Nat}(hp:aH M p B)(hB:B<=700000)(W2:2<=W)(W4:W<=4)(P1:1<=Pl)(P2:Pl<=2)(m1:1<=mo)(m6:mo<=6):ai (ak P (n+5) 34 [.cell p,nD W,nD Pl,nD mo] M) fun d M'=>∃m:aV,d=m.d/\bh m/\m.words<=W/\m.places<=Pl/\m.deeds.length<=mo/\aH M' p (B+300)/\aZ p M M':=by
 refine ay h.law_machine rfl ?_
 show ai (gu (ak P (n+4)) [some (.cell p),some (nD W),some (nD Pl),some (nD mo),none,none,none,none] M) _
 unfold gu
 have plus:∀{Z:Env}{M:Mem}{g:GE}{B c many:Nat}{rest:GS}{K:Fl->Mem->Prop}{i:Nat},Z[0]?.getD none=some (.cell p)->g Z M=.ok (nD many) M->aH M p B->B<=1000000->0<many->many<=10000000->(∀(v:Nat) (M':Mem),v<many->aH M' p (B+1)->aZ p M M'->ai (rest (Z.set i (some (nD (c+v)))) M') K)->ai (ag (aJ (.one i) (au false .add #[241] (aq 31 (ak P (n+4)) (aa (ae 0) (aa g ah))))) rest Z M) K:=by
  intro Z M g B c many rest K i e0 eg hp hB h0 h1 hk
  refine cb (k:=fun d M'=>∃v:Nat,d=nD (c+v)/\v<many/\aH M' p (B+1)/\aZ p M M') ?_ ?_
  ·rw [dz]
   simp only [cS]
   refine aG (f9 h (n+2) (many:=many) e0 eg hp hB h0 h1) ?_
   rintro _ M2 ⟨v,rfl,hv,q,kk⟩
   exact fK.mpr ⟨v,by show D.int ((c:Int)+(v:Int))=D.int ((c+v:Nat):Int);rw [Int.natCast_add],hv,q,kk⟩
  ·rintro _ M' ⟨v,rfl,a,b,c⟩
   exact hk v M' a b c
 refine plus (c:=2) (many:=W-1) rfl (F1 (c:=1) (aN rfl) #[0]) hp (MF hB #[1]) #[0] #[0] fun w M1 hw q1 k1=>?_
 refine plus (c:=1) (many:=Pl) rfl (aN rfl) q1 (bd (k:=1) hB #[1]) P1 (MF P2 (Nl rfl)) fun pl M2 hpl q2 k2=>?_
 have pl2:p<M2.length:=q2.lt
 have K2:=k1.trans k2
 have ML:M.length<=M2.length:=K2.len
 have w2:2<=2+w:=O1 _ _
 have w4:2+w<=4:=by omega
 have l1:1<=1+pl:=O1 _ _
 have l2:1+pl<=2:=by omega
 generalize hW:2+w=w' at w2 w4
 generalize hP:1+pl=p' at l1 l2
 refine cb (k:=fun d M'=>d=.cell M2.length/\M'=M2++[[]]) ?_ ?_
 ·simp only [jz,bo]
  exact ng.mpr ⟨Oq _,rfl,rfl⟩
 rintro _ _ ⟨rfl,rfl⟩
 show ai (ag _ _ [some (.cell p),some (nD w'),some (nD p'),some (nD mo),some (.cell M2.length),none,none,none] (M2++[[]])) _
 simp only [aC,dU,fY,dz,cS]
 refine aG (f9 h (n+2) (many:=mo) rfl rfl q2.app (bd (k:=2) hB #[1]) m1 (MF m6 (Nl rfl))) ?_
 rintro _ M3 ⟨many,rfl,hmany,q3,k3⟩
 have e3:M3[M2.length]?=some []:=k3.get (List.getElem?_concat_length) #[0]
 have K3:aZ p M M3:=K2.trans (aZ.app.trans k3)
 generalize hq:M2.length=q at *
 refine fK.mpr ⟨_,rfl,⟨by omega,by omega⟩,?_⟩
 rw [show (1+(many:Int)).toNat=1+many by omega]
 refine cz (ds:=(List.range (1+many)).map fun (k:Nat)=>D.int (k:Int)) (fun i Z M'=>∃ds:List ba,M'[q]?=some #[184]/\ds.length=i/\(∀d∈ds,cq w' p' d)/\aH M' p (B+3+i*45)/\aZ p M M'/\∃a b c,Z=[some (.cell p),some (nD w'),some (nD p'),some (nD mo),some (.cell q),a,b,c])
  #[36] ⟨[],e3,rfl,(fun _ hd=>nomatch hd),q3,K3,none,none,none,rfl⟩ ?_ ?_
 ·rintro i d Z M' hd ⟨ds,e4,hl,hds,q4,K4,a,b,c,rfl⟩
  have hi:i<1+many:=by
   have:=#[246].1
   simpa using this
  have hi6:i<=5:=by omega
  have hB4:B+3+i*45<=700228:=by omega
  have hqM:M.length<=q:=ML
  have hpq:p<q:=pl2
  refine ⟨_,rfl,?_⟩
  refine fG h (n+2) (many:=5) rfl rfl q4 (MF hB4 #[1]) #[1] #[1] fun again M5 ha q5 k5=>?_
  have e5:=k5.get e4 (NI hpq)
  refine cb (k:=fun d M'=>∃e:ba,d=e.d/\cq w' p' e/\aH M' p (B+3+i*45+41)/\aZ p M5 M') ?_ ?_
  ·rw [bH (az (aN rfl) #[19])]
   exact aG (Bg h n (w:=w') (pl:=p') q5 (bd (k:=1) hB4 #[1]) w2 w4 l1 l2) fun d M' ⟨e,a,b,c,d⟩=>⟨e,a,b,c,d⟩
  rintro _ M6 ⟨e,rfl,he,q6,k6⟩
  have e6:=k6.get e5 (NI hpq)
  have K6:=(K4.trans k5).trans k6
  have hsm:#[184].length<sz:=OD (show #[184].length<=50 by rw [MN,hl];omega) #[1]
  have fin:∀(e:ba) (M'':Mem) (x5 x6:Option D),cq w' p' e->M''[q]?=some #[184]->aH M'' p (B+3+(i+1)*45)->aZ p M M''->
   ai (ag (jm (ae 4) (ae 7)) aj [some (.cell p),some (nD w'),some (nD p'),some (nD mo),some (.cell q),x5,x6,some e.d] M'') fun fl M'=>∃ρ',fl=.next ρ'/\∃ds:List ba,M'[q]?=some #[184]/\ds.length=i+1/\(∀d∈ds,cq w' p' d)/\aH M' p (B+3+(i+1)*45)/\aZ p M M'/\∃a b c,ρ'=[some (.cell p),some (nD w'),some (nD p'),some (nD mo),some (.cell q),a,b,c]:=by
   intro e M'' x5 x6 he e7 q7 K7
   simp only [aC,yQ,aU]
   refine ⟨_,rfl,_,rfl,q,ds.map ba.d,rfl,e7,hsm,_,rfl,ds++[e],?_,by rw [Nx,hl];rfl,fun d hd=>?_,q7.setq hpq,K7.setq hqM,_,_,_,rfl⟩
   ·rw [Nv (Mw.mp e7).1,List.map_append];rfl
   ·rcases Nh.mp hd with z|z
    ·exact hds d z
    ·rw [Nc.mp z];exact he
  show ai (ag _ _ [some (.cell p),some (nD w'),some (nD p'),some (nD mo),some (.cell q),some d,some (nD again),some e.d] M6) _
  have en:(aw (aL .ne (ae 4) #[162]):GT) [some (.cell p),some (nD w'),some (nD p'),some (nD mo),some (.cell q),some d,some (nD again),some e.d] M6=.ok (!ds.isEmpty) M6:=by
   refine fZ ?_
   unfold aL
   show (cV M6 (bx .ne (.cell q) (.lst []) M6)).bind _=_
   rw [ne_nil e6];rfl
  refine dR (FI (ky (c:=0) rfl) en) (fun cc=>?_) fun _=>fin e M6 _ _ he e6 (q6.mono #[0]) K6
  have hpos:0<ds.length:=by
   rw [Ms] at cc
   cases ds with
   |nil=>exact absurd cc.2 #[1]
   |cons _ _=>exact Nat.succ_pos _
  simp only [aC,fk,dz,nv,fA,gE,aY,bo,Dg,cS]
  have el:a8 .len #[79] [some (.cell p),some (nD w'),some (nD p'),some (nD mo),some (.cell q),some d,some (nD again),some e.d] M6=.ok (nD ds.length) M6:=by
   refine ax ?_
   simp only [dM,aY,bo,aU]
   exact ⟨_,rfl,uj.mpr ⟨_,e6,by rw [MN],rfl⟩⟩
  show ai (aq 31 (ak P (n+4)) (aa (ae 0) (aa (a8 .len #[79]) ah)) [some (.cell p),some (nD w'),some (nD p'),some (nD mo),some (.cell q),some d,some (nD again),some e.d] M6) _
  refine aG (f9 h (n+2) (many:=ds.length) rfl el q6 (bd (k:=41) hB4 #[1]) hpos #[0]) ?_
  rintro _ M7 ⟨v,rfl,hv,q7,k7⟩
  have e7:=k7.get e6 (NI hpq)
  refine ⟨(ds.getD v e).d,?_,1,rfl,rfl,rfl,?_⟩
  ·show (M7[q]?).bind (fun ds=>(bB ds.length (v:Int)).bind fun j=>ds[j]?)=_
   rw [e7]
   show (bB #[184].length (v:Int)).bind (fun j=>#[184][j]?)=_
   rw [eQ (by rw [MN];exact hv)]
   simp [NL,hv]
  ·refine aG (Cg (d:=ds.getD v e) (c:=e.cost) (k:=fun x M'=>ai (ag (jm (ae 4) (ae 7)) aj [some (.cell p),some (nD w'),some (nD p'),some (nD mo),some (.cell q),some d,some (nD again),some x] M') fun fl M'=>∃ρ',fl=.next ρ'/\∃ds:List ba,M'[q]?=some #[184]/\ds.length=i+1/\(∀d∈ds,cq w' p' d)/\aH M' p (B+3+(i+1)*45)/\aZ p M M'/\∃a b c,ρ'=[some (.cell p),some (nD w'),some (nD p'),some (nD mo),some (.cell q),a,b,c]) ?_) fun x1 M3 hx=>⟨1,rfl,nD e.cost,zI,av (n:=1) #[1],hx⟩
   exact fin _ M7 _ _ (Az (hds _ (getD_mem hv)) (Fz he)) e7 (q7.mono #[0]) (K6.trans k7)
 ·rintro Z M' ⟨ds,e4,hl,hds,q4,K4,a,b,c,rfl⟩
  simp only [MN,Ol] at hl q4
  refine jP ?_
  simp only [gE,aY,bo,dM,aU]
  refine ⟨_,rfl,_,rfl,_,rfl,wB.mpr ⟨_,e4,av (n:=3) #[1],⟨w',p',ds⟩,rfl,⟨w2,w4,l1,l2,?_,?_,hds⟩,?_,?_,?_,q4.mono #[0],K4⟩⟩
  ·show 1<=ds.length;omega
  ·show ds.length<=6;omega
  ·show w'<=W;omega
  ·show p'<=Pl;omega
  ·show ds.length<=mo;omega
theorem m7 (h35:P 35=some ⟨3,6,fF⟩)(n:Nat){p B mo:Nat}{m:aV}(hm:bh m)(hp:aH M p B)(hB:B<=700000)(hmo:mo<=40):ai (ak P (n+3) 35 [.cell p,m.d,nD mo] M) fun d M'=>∃r:List Nat,d=.lst #[231]/\dP m r/\r.length<=mo/\aH M' p (B+50)/\aZ p M M':=by
 refine ay h35 rfl ?_
 have d1:=hm.d1
 have d6:=hm.d6
 simp only [fF,aC,fk,eR,aY,bo,cS,aU,JM]
 simp only [Ni,exists_eq_left',MU,Nb,Nk,N4,OH,Of,NW,nD]
 refine tk h n (many:=4) hp #[0] #[0] #[0] fun kind M1 hk q1 k1=>?_
 simp [nD]
 have core:∀(many:Nat) (M2:Mem),many<=mo->aH M2 p (B+2)->aZ p M M2->ai (dG (dI (dv.one 0) (bU (aq 31 #[182] (aa (ae 1) (aa (a8 u7.len (aa (aF (ae 2) (gC (D.int 2))) ah)) ah))))
  [none,some (D.cell p),some m.d,some (D.int mo),some (D.int kind),some (D.int many),none]) (fun x=>some (List.map (fun k:Nat=>D.int k) (List.range many))) [] M2) fun acc M_2=>acc.length<=sz/\
   ((¬(kind : Int) = 1 /\ ∃ r, acc = List.map nD r /\ dP m r /\ r.length <= mo /\ aH M_2 p (B + 50) /\ aZ p M M_2) \/ (kind : Int) = 1 /\ b9 false D.non = true /\ b9 true (D.int 2) = true /\
     ai (eG false (D.lst acc) D.non (D.int 2) M_2) fun x_1 M_3=>ai (eW false lA.mul x_1 (D.int many) M_3) fun x_2 M_4=>b9 false D.non=true/\b9 true (D.int many)=true/\
      ai (eG false x_2 D.non (D.int many) M_4) fun d M'=>∃r,d=D.lst (List.map nD r)/\dP m r/\r.length<=mo/\aH M' p (B+50)/\aZ p M M'):=by
  intro many M2 hmany q2 k2
  refine comp_map (ds:=(List.range many).map fun (k:Nat)=>D.int (k:Int)) (fun i acc M'=>∃t:List Nat,acc=t.map nD/\(∀x∈t,x<m.deeds.length)/\aH M' p (B+2+i)/\aZ p M M') (av #[7]) #[36] ⟨[],rfl,by simp,q2,k2⟩ ?_ ?_
  ·rintro i d acc M' hd _ ⟨t,rfl,ht,hp',hk'⟩
   have hi:i<many:=by
    have:=#[246].1
    simpa using this
   refine ⟨_,rfl,?_⟩
   simp [-gX,Hs]
   refine tk h n hp' #[0] #[0] #[0] fun v M4 hv p4 k4=>⟨t++[v],by simp,fun x hx=>?_,p4.mono #[0],hk'.trans k4⟩
   rcases Nh.mp hx with z|z
   ·exact ht x z
   ·simp at z;omega
  ·rintro acc M' hl ⟨t,rfl,ht,hp',hk'⟩
   simp at hl
   have P50:aH M' p (B+50):=hp'.mono #[7]
   refine ⟨av #[7],?_⟩
   by_cases c1:kind=1
   ·refine .inr ⟨by omega,rfl,rfl,(oV (a:=2)).mpr ⟨av #[7],Hm.mpr ⟨⟨?_,by omega,by omega⟩,bD.mpr ⟨?_,rfl,rfl,oV.mpr ⟨?_,?_⟩⟩⟩⟩⟩
    ·refine MF (Nat.mul_le_mul (show _<=2 by simp;omega) (show _<=40 by omega)) #[1]
    ·rw [OU]
     simp
     exact MF (Nat.mul_le_mul (show many<=40 by omega) (show min 2 t.length<=2 by omega)) #[1]
    ·exact av #[7]
    ·rw [OU]
     refine ⟨((List.replicate many (t.take 2)).flatten).take many,by simp [List.map_flatten,Pq],⟨by simp;omega,fun i hi=>?_⟩,by simp;omega,P50,hk'⟩
     have:=Nw hi
     simp only [List.mem_flatten,List.mem_replicate] at this
     obtain ⟨l,⟨_,rfl⟩,hl2⟩:=this
     exact ht i (Nw hl2)
   ·exact .inl ⟨by omega,t,rfl,⟨by omega,ht⟩,by omega,P50,hk'⟩
 by_cases c0:kind=0
 ·exact .inr ⟨c0,by omega,core mo M1 (My _) (q1.mono #[0]) k1⟩
 ·refine .inl ⟨c0,?_⟩
  rw [show ((mo:Int)+1)=((mo+1:Nat):Int) by omega]
  refine tk h n q1 #[0] #[0] #[0] fun many M2 hmany q2 k2=>⟨many,rfl,⟨by omega,by omega⟩,?_⟩
  exact core many M2 #[0] q2 #[324]
end
end LD
namespace LD
open PySem
theorem Ee {xs:List D}{a b:Nat}{M:Mem}{k:D->Mem->Prop}:ai (eG false (.frz xs) (.int a) (.int b) M) k↔(cut xs #[146] #[295]).length<=sz/\k (.lst (cut xs #[146] #[295])) M:=by
 show ai (match aS xs.length 0 (.int a),aS xs.length xs.length (.int b) with|some l,some h=>bG false #[332] M|_,_=>.bad) k↔_
 have e1:aS xs.length 0 (.int a)=some #[146]:=by
  show some _=_
  rw [if_neg #[0]];simp
 have e2:aS xs.length xs.length (.int b)=some #[295]:=by
  show some _=_
  rw [if_neg #[0]];simp
 rw [e1,e2]
 exact bD
theorem Bm {xs:List D}{b:Nat}{M:Mem}{k:D->Mem->Prop}:ai (eG false (.frz xs) .non (.int b) M) k↔(cut xs 0 #[295]).length<=sz/\k (.lst (cut xs 0 #[295])) M:=by
 show ai (match aS xs.length 0 D.non,aS xs.length xs.length (.int b) with|some l,some h=>bG false #[332] M|_,_=>.bad) k↔_
 have e2:aS xs.length xs.length (.int b)=some #[295]:=by
  show some _=_
  rw [if_neg #[0]];simp
 rw [e2]
 exact bD
theorem v9 {α β:Type}(f:α->β)(l:List α)(a b:Nat):cut (l.map f) a b=(cut l a b).map f:=by simp [cut,Pq,List.map_drop]
theorem qE {α:Type}(l:List α)(a b:Nat):(cut l a b).length<=l.length:=by simp [cut];omega
section
variable {P:Nat->Option Df}(h:HasP0 P){M:Mem}
include h
theorem D8 (n:Nat){ns:List Int}(hn:ns.length<=63):ai (ak P (n+1) 29 [.frz #[333]] []) fun d M'=>d=.cell 1/\aH M' 1 0:=by
 refine ay h.law_open rfl ?_
 simp [kL,b9]
 refine (Bm (b:=12)).mpr ⟨?_,?_⟩
 ·exact av (MF (qE _ _ _) #[7])
 simp only [lR,ng]
 refine ⟨av (MF (qE _ _ _) #[7]),(Ee (a:=12) (b:=63)).mpr ⟨av (MF (qE _ _ _) #[7]),⟨rfl,rfl⟩,?_⟩⟩
 rw [v9,v9]
 simp only [MN,List.length_nil,NW]
 have e63:min 63 ns.length=ns.length:=by omega
 rw [e63]
 refine cz (ds:=cf 0 ((cut ns (min 12 ns.length) ns.length).map D.int)) (fun i Z M'=>∃l:List Int,M'=[l.map D.int]/\l.length=min 12 ns.length/\∃a b,Z=[some #[37],some (.cell 0),a,b]) #[36] ⟨cut ns 0 (min 12 ns.length),rfl,by simp [cut],none,none,rfl⟩ ?_ ?_
 ·rintro i d Z M' hd ⟨l,rfl,hl,a,b,rfl⟩
  rw [cQ,Nm] at hd
  cases e:(cut ns (min 12 ns.length) ns.length)[i]? with
  |none=>rw [e] at hd;cases hd
  | some x =>
    rw [e] at hd
    have hd:D.tup [.int ((0+i:Nat):Int),.int x]=d:=MA hd
    subst hd
    have hi:=(Mw.mp e).1
    have hlen:12<ns.length:=by
     by_cases c:12<ns.length
     ·exact c
     ·have:min 12 ns.length=ns.length:=by omega
      rw [this] at hi
      simp [cut] at hi
    have l12:l.length=12:=by omega
    have r1:=NX (i:Int) (show (12:Int)≠0 by decide)
    have r2:=NP (i:Int) (show (0:Int)<12 by decide)
    obtain ⟨y,ey⟩:=qs (l:=l) r1 (by rw [l12];exact r2)
    obtain ⟨k,ek⟩:∃k:Nat,(i:Int) % 12=(k:Int):=⟨((i:Int) % 12).toNat,by omega⟩
    refine ⟨_,rfl,?_⟩
    simp
    rw [ek] at ey ⊢
    have hk:k<l.length:=by omega
    refine ⟨_,ey,?_⟩
    simp only [fK]
    refine ⟨l.map D.int,rfl,k,?_,l.set k (y+x),?_,by simp [hl]⟩
    ·simpa using eQ hk
    ·simp [List.map_set]
 ·rintro Z M' ⟨l,rfl,hl,a,b,rfl⟩
  simp
  exact ⟨by decide,⟨0,l,0,0,rfl,rfl,by decide,by decide,by decide,by decide⟩⟩
end
end LD
namespace LD
open PySem
theorem Sub.keep {p:Nat}{M M':Mem}(h:Sub M M'):aZ p M M':=⟨h.len,fun k hk _=>h.at' k hk⟩
theorem Sub.pen {p B:Nat}{M M':Mem}(h:Sub M M')(hp:aH M p B):aH M' p B:=by
 obtain ⟨c,cells,a,st,e1,e2,r⟩:=hp.ex
 exact ⟨c,cells,a,st,h.get e1,h.get e2,r⟩
theorem n9 (n:Nat)(l:List Nat):aA (n+1) (aQ l)=true:=by
 show (l.map nD).all (aA n)=true
 rw [MC];intro x hx;obtain ⟨i,_,rfl⟩:=Nu.mp hx;cases n<;>rfl
theorem kg (n:Nat)(l:List #[174]):(l.map aQ).all (aA (n+1))=true:=by
 rw [MC];intro x hx;obtain ⟨i,_,rfl⟩:=Nu.mp hx;exact n9 n i
end LD
namespace LD
open PySem
structure l7 (P:Nat->Option Df):Prop where
 after:P 41=some ⟨2,4,j5⟩
 begins:P 42=some ⟨1,1,jr⟩
structure nJ (P:Nat->Option Df):Prop where
 same:P 40=some ⟨2,2,d8⟩
theorem qO:∀ds:List D,jl ds ds=ds.map fun d=>.tup [d,d]
 |[]=>rfl
 |d::r=>by simp [jl,qO r]
theorem wZ {ds:List D}{M:Mem}:bx .notin #[99] (.lst #[299]) M=some true:=by
 show ((bZ M (.lst #[299])).bind (ik (view M #[99]))).map (!·)=_
 show (ik #[99] #[299]).map (!·)=_
 unfold ik
 rw [if_pos]
 ·have:(ds.map fun _=>D.bl true).any (fun y=>bq y #[99])=false:=by
   rw [Py];intro x hx;obtain ⟨_,_,rfl⟩:=Nu.mp hx;simp [bq]
  rw [this];rfl
 ·simp [aA]
@[simp] theorem ui {m:Bool}{ds:List D}{M:Mem}{k:D->Mem->Prop}:ai (eV (.list m) [.tup ds] M) k↔ai (bG m ds M) k:=NG
theorem bw {x y:Str}{b:Bool}(e:pN (.str x) (.str y)=some b)(M:Mem):bx .eq (.str x) (.str y) M=some b:=by
 show la M (.str x) (.str y)=some b
 unfold la
 rw [show pN (view M (.str x)) (view M (.str y))=some b from e]
theorem xG {m:aV}{d:ba}{s:List Nat}(hd:cq m.words m.places d)(hs:gQ m s):fo d s=s.set d.at' (eJ d s):=by
 have a0:=sN hd
 rw [List.set_eq_take_append_cons_drop,if_pos (by rw [hs.1];exact a0)]
 simp [fo]
theorem eI {D0:D}{nm w:Str}{A rest:GS}{Z:Env}{M:Mem}{k:Fl->Mem->Prop}(h0:Z[0]?=some (some D0))(e0:cu D0 (.int 0) M=some (.str nm))(c:bx .eq (.str nm) (.str w) M=some false)(h:ai (rest Z M) k):ai #[309] k:=by
 simp [h0,e0,c,h]
theorem mY {D0:D}{nm w:Str}{A rest:GS}{Z:Env}{M:Mem}{k:Fl->Mem->Prop}(h0:Z[0]?=some (some D0))(e0:cu D0 (.int 0) M=some (.str nm))(c:bx .eq (.str nm) (.str w) M=some true)(h:ai (A Z M) (iV rest k)):ai #[309] k:=by
 simp [h0,e0,c,h]
def tN (c:Call):GS:=ag (aR (aw (aL .ne (a8 .len #[31]) #[67])) rF aj) #[149]
section
variable {P:Nat->Option Df}(h:nJ P){M:Mem}
include h
theorem yO (n:Nat){x y:D}{ds:List D}{Z:Env}{kl:List D->Mem->Prop}(hx:bZ M x=some ds)(hy:bZ M y=some ds)(hz:ds.length<=sz)(hs:∀d∈ds,ak P n 40 [d,d] M=.ok #[170] M)(hk:kl #[299] M) :
 ai (dG (dI (.tup [0,1]) (bU (aq 40 (ak P n) #[12])) (none::none::Z)) (mW x y) [] M) kl:=by
 refine jg (ds:=ds.map fun d=>.tup [d,d]) (fun _=>.bl true) (by simpa using hz) ?_ ?_ ?_
 ·simp [mW,hx,hy,qO]
 ·intro d hd
  obtain ⟨e,he,rfl⟩:=Nu.mp hd
  refine ⟨_,rfl,?_⟩
  refine ax ?_
  simp
  rw [hs e he]
  exact ⟨rfl,rfl⟩
 ·simpa [OI] using hk
theorem Bp (n:Nat){x y:D}{ds:List D}(hx:bZ M x=some ds)(hy:bZ M y=some ds)(lx:eV .len [x] M=.ok (.int ds.length) M)(ly:eV .len [y] M=.ok (.int ds.length) M)(sx:dJ x=true)(sy:dJ y=true)(hz:ds.length<=sz)(hs:∀d∈ds,ak P n 40 [d,d] M=.ok #[170] M) :
 ai (tN (ak P n) [some x,some y] M) (iK fun d M'=>d=.bl true/\M'=M):=by
 simp [tN,lx,ly,sx,sy]
 exact yO h n hx hy hz hs ⟨by simpa using hz,wZ,rfl⟩
end
section
variable {P:Nat->Option Df}(h:l7 P){M:Mem}
include h
set_option maxHeartbeats 2000000 in
theorem jE (n:Nat){D0:D}{nm:Str}{s:List Nat}{a:Nat}{v:Nat}(ha:a<s.length)(hz:s.length<=100)(e0:∀M,cu D0 (.int 0) M=some (.str nm))(e1:∀M,cu D0 (.int 1) M=some (nD a))
 (bT bJ bM bP:Bool) (cT:∀M,bx .eq (.str nm) (.str "turn") M=some bT) (cJ:∀M,bx .eq (.str nm) (.str "join") M=some bJ) (cM:∀M,bx .eq (.str nm) (.str "move") M=some bM) (cP:∀M,bx .eq (.str nm) (.str "put") M=some bP)
 (hb:(bT=true/\bJ=false/\bM=false/\bP=false/\∀M,∃t,cu D0 (.int 2) M=some t/\cu t (nD (s.getD a 0)) M=some (nD v))
  \/(bT=false/\bJ=true/\bM=false/\bP=false/\∀M,∃t u o,cu D0 (.int 3) M=some t/\cu t (nD (s.getD a 0)) M=some u/\cu D0 (.int 2) M=some (nD o)/\o<s.length/\cu u (nD (s.getD o 0)) M=some (nD v))
  \/(bT=false/\bJ=false/\bM=true/\bP=false/\∀M,∃o,cu D0 (.int 2) M=some (nD o)/\o<s.length/\v=s.getD o 0)
  \/(bT=false/\bJ=false/\bM=false/\bP=true/\∀M,cu D0 (.int 2) M=some (nD v))) :
 ak P (n+1) 41 [D0,aQ s] M=.ok (aQ (s.set a v)) (M++[(s.set a v).map nD]):=by
 refine ax (ay h.after rfl ?_)
 have S:∀M i,i<s.length->cu (aQ s) (nD i) M=some (nD (s.getD i 0)):=fun M i hi=>ip hi
 have T:ai (eV (.list true) [aQ s] M) (fun x M'=>x=.cell M.length/\M'=M++[s.map nD]):=by
  show ai (eV (.list true) [.tup (s.map nD)] M) _
  rw [ui,ng]
  exact ⟨av #[7],rfl,rfl⟩
 simp only [j5,aC,fk,dM,fA,cS,aY,bo,aU,N4,OH,Of,NW,MU,Nb,Nk,Ni,exists_eq_left',d3]
 refine aG T fun x M' hx=>?_
 obtain ⟨rfl,rfl⟩:=hx
 have q:=S #[300] a ha
 refine ⟨_,rfl,_,rfl,_,e1 _,_,q,?_⟩
 have fin:∀Z:Env,Z[2]?=some (some #[215])->ai (ag (aK (a8 .tuple #[39])) aj Z (#[300].set M.length ((s.map nD).set a (nD v)))) (iK fun x M'=>x=aQ (s.set a v)/\M'=M++[(s.set a v).map nD]):=fun Z hρ=>by
  simp [hρ]
  simp [aQ,List.map_set]
 have gl:#[300][M.length]?=some (s.map nD):=by simp
 have ix:bB (s.map nD).length (a:Int)=some a:=eQ (by simpa using ha)
 rcases hb with ⟨rfl,rfl,rfl,rfl,hv⟩|⟨rfl,rfl,rfl,rfl,hv⟩|⟨rfl,rfl,rfl,rfl,hv⟩|⟨rfl,rfl,rfl,rfl,hv⟩
 ·obtain ⟨t,v1,v2⟩:=hv #[300]
  refine aC.mp (mY rfl (e0 _) (cT _) ?_)
  simp only [aC,ml,fA,aU,cS]
  refine ⟨_,rfl,_,v1,_,rfl,_,v2,_,rfl,_,rfl,_,e1 _,_,_,_,_,rfl,rfl,gl,ix,?_⟩
  exact eI rfl (e0 _) (cJ _) (eI rfl (e0 _) (cM _) (eI rfl (e0 _) (cP _) (fin _ rfl)))
 ·obtain ⟨t,u,o,v1,v2,v3,v4,v5⟩:=hv #[300]
  refine aC.mp (eI rfl (e0 _) (cT _) (mY rfl (e0 _) (cJ _) ?_))
  simp only [aC,ml,fA,aU,cS]
  refine ⟨_,rfl,_,v1,_,rfl,_,v2,_,rfl,_,rfl,_,v3,_,S _ _ v4,_,v5,_,rfl,_,rfl,_,e1 _,_,_,_,_,rfl,rfl,gl,ix,?_⟩
  exact eI rfl (e0 _) (cM _) (eI rfl (e0 _) (cP _) (fin _ rfl))
 ·obtain ⟨o,v1,v2,v3⟩:=hv #[300]
  subst v3
  refine aC.mp (eI rfl (e0 _) (cT _) (eI rfl (e0 _) (cJ _) (mY rfl (e0 _) (cM _) ?_)))
  simp only [aC,ml,fA,aU,cS]
  refine ⟨_,rfl,_,rfl,_,v1,_,S _ _ v2,_,rfl,_,rfl,_,e1 _,_,_,_,_,rfl,rfl,gl,ix,?_⟩
  exact eI rfl (e0 _) (cP _) (fin _ rfl)
 ·have v1:=hv #[300]
  refine aC.mp (eI rfl (e0 _) (cT _) (eI rfl (e0 _) (cJ _) (eI rfl (e0 _) (cM _) (mY rfl (e0 _) (cP _) ?_))))
  simp only [aC,ml,fA,aU,cS]
  refine ⟨_,rfl,_,v1,_,rfl,_,rfl,_,e1 _,_,_,_,_,rfl,rfl,gl,ix,?_⟩
  exact fin [some D0,some (aQ s),some #[215],some (nD (s.getD a 0))] rfl
theorem Bk (n:Nat){m:aV}{d:ba}{s:List Nat}(hm:bh m)(hd:cq m.words m.places d)(hs:gQ m s):ak P (n+1) 41 [d.d,aQ s] M=.ok (aQ (fo d s)) (M++[(fo d s).map nD]):=by
 rw [xG hd hs]
 have l0:=hs.1
 have p2:=hm.p2
 have g:∀i,i<m.places->s.getD i 0<m.words:=fun i hi=>hs.2 _ (getD_mem #[0])
 have nw:=pw hd hs
 have a0:=sN hd
 have ha:d.at'<s.length:=by omega
 cases d with
 |turn a t c=>exact jE h n ha #[0] #[260] #[260] true false false false (bw #[3]) (bw #[3]) (bw #[3]) (bw #[3]) (.inl ⟨rfl,rfl,rfl,rfl,fun M=>⟨aQ t,rfl,ip (by rw [hd.2.1.1];exact g _ hd.1)⟩⟩)
 | join a o t c =>
   refine jE h n ha #[0] #[260] #[260] false true false false (bw #[3]) (bw #[3]) (bw #[3]) (bw #[3]) (.inr (.inl ⟨rfl,rfl,rfl,rfl,fun M=>⟨.tup (t.map aQ),aQ (t.getD (s.getD a 0) []),o,rfl,zH (by rw [hd.2.2.1.1];exact g _ hd.1),rfl,by rw [l0];exact hd.2.1,ip ?_⟩⟩))
   rw [(hd.2.2.1.2 _ (getD_mem (by rw [hd.2.2.1.1];exact g _ hd.1))).1]
   exact g _ hd.2.1
 |move a o c=>exact jE h n ha #[0] #[260] #[260] false false true false (bw #[3]) (bw #[3]) (bw #[3]) (bw #[3]) (.inr (.inr (.inl ⟨rfl,rfl,rfl,rfl,fun M=>⟨o,rfl,by rw [l0];exact hd.2.1,rfl⟩⟩)))
 |put a x c=>exact jE h n ha #[0] #[260] #[260] false false false true (bw #[3]) (bw #[3]) (bw #[3]) (bw #[3]) (.inr (.inr (.inr ⟨rfl,rfl,rfl,rfl,fun M=>rfl⟩)))
theorem yK (n:Nat){m:aV}(hm:bh m):ak P (n+1) 42 [m.d] M=.ok (.lst ((cE m).map aQ)) M:=by
 refine ax (ay h.begins rfl ?_)
 simp [jr]
 have p1:=hm.p1
 have p2:=hm.p2
 have w2:=hm.w2
 have w4:=hm.w4
 refine ⟨_,rfl,?_⟩
 have hp:m.places=1\/m.places=2:=by omega
 have hw:m.words=2\/m.words=3\/m.words=4:=by omega
 rcases hp with ep|ep
 ·refine .inr ⟨by rw [ep];rfl,_,rfl,_,rfl,by omega,?_⟩
  refine jg (ds:=(List.range m.words).map fun (k:Nat)=>D.int (k:Int)) (fun d=>.tup [d]) (av #[7]) (by simp) (fun d hd=>⟨_,rfl,ax (by simp;exact av #[0])⟩) ⟨av #[7],?_,rfl⟩
  unfold cE
  rw [ep]
  rcases hw with e|e|e<;>rw [e]<;>rfl
 ·refine .inl ⟨by rw [ep];rfl,_,rfl,_,rfl,?_⟩
  simp
  refine ⟨by omega,?_⟩
  have ew:((m.words:Int)*(m.words:Int)).toNat=m.words*m.words:=by rw [<- Pd];rfl
  have hw2:m.words*m.words<=16:=Nat.mul_le_mul w4 w4
  rw [ew]
  refine ⟨⟨by rw [<- Pd];omega,by rw [<- Pd];omega⟩,?_⟩
  have key:∀k:Nat,(bL (aa (au false lA.fdiv (ae 0) (aF (ae 1) (gC (D.int 0)))) (aa (au false lA.mod (ae 0) (aF (ae 1) (gC (D.int 0)))) ah))) [some (nD k),some m.d] M=.ok (aQ [k / m.words,k % m.words]) M:=by
   intro k
   refine ax ?_
   simp
   refine ⟨_,rfl,?_⟩
   simp
   refine ⟨by omega,_,rfl,?_⟩
   simp
   exact ⟨by omega,av #[0],rfl⟩
  refine comp_map (ds:=(List.range (m.words*m.words)).map fun (k:Nat)=>D.int (k:Int)) (fun i acc M'=>M'=M/\acc=((List.range (m.words*m.words)).take i).map fun k=>aQ [k / m.words,k % m.words]) (av (by simpa using by omega)) #[36] ⟨rfl,rfl⟩ ?_ ?_
  ·rintro i d acc M' hd _ ⟨rfl,rfl⟩
   have hi:=#[246].1
   simp at hi
   have:d=nD i:=by
    rw [Nm,OO #[0]] at hd
    exact (MA hd).symm
   subst this
   refine ⟨_,rfl,?_⟩
   rw [show List.set [none,some m.d] 0 (some (nD i))=[some (nD i),some m.d] from rfl,key i]
   refine ⟨rfl,?_⟩
   rw [NS,OO #[0]]
   simp
  ·rintro acc M' _ ⟨rfl,rfl⟩
   simp
   refine ⟨av #[0],?_⟩
   unfold cE
   rw [ep]
   rcases hw with e|e|e<;>rw [e]<;>rfl
end
end LD
namespace LD
open PySem
section
variable {Z:Env}{M:Mem}{a b d:GE}{k:D->Mem->Prop}{kw:Walk->Mem->Prop}{kf:Fl->Mem->Prop}
@[simp] theorem Mj:ai (pI a b d Z M) kw↔ai (a Z M) fun x M=>ai (b Z M) fun y M=>ai (d Z M) fun z M=>(dJ x&&dJ y&&dJ z)=true/\kw (mV x y z) M:=by
 simp only [pI,br];refine iff_of_eq ?_;congr 1;funext x M;congr 1;funext y M;congr 1;funext z M;split<;>simp_all
@[simp] theorem JL {m:Bool}:ai (ow m a Z M) k↔ai (a Z M) fun x M=>ai (wL m x M) k:=by simp [ow]
@[simp] theorem Me {m:Bool}{xs:List D}:ai (wL m (.lst xs) M) k↔ai (bG m xs.reverse M) k:=NG
@[simp] theorem Ek {m:Bool}{xs:List D}:ai (wL m (.tup xs) M) k↔k #[292] M:=NG
theorem qz {t:dv}{w:Walk}{gb:GS}{ds:List D}(I:Nat->Env->Mem->Prop)(R:D->Mem->Prop)(hw:∀i Z M,I i Z M->w M=some ds)(hwR:∀d M,R d M->w M=some ds)(h0:I 0 Z M)
 (hs:∀i d Z M,ds[i]?=some d->I i Z M->∃ρ1,cX t d Z=some ρ1/\ai (gb ρ1 M) fun fl M=>(∃ρ',fl=.next ρ'/\I (i+1) ρ' M)\/∃d,fl=.ret d/\R d M) (hk:∀Z M,I ds.length Z M->kf (.next Z) M) (hr:∀d M,R d M->kf (.ret d) M) :
 ai (dG (hJ t gb) w (.next Z) M) kf:=by
 refine fx (fun i fl M=>(∃Z,fl=.next Z/\I i Z M)\/∃d,fl=.ret d/\R d M) (fun i fl M h=>h.elim (fun ⟨Z,_,h⟩=>hw i Z M h) fun ⟨d,_,h⟩=>hwR d M h) (.inl ⟨Z,rfl,h0⟩) ?_ ?_
 ·rintro i d fl M hd (⟨Z,rfl,hI⟩|⟨d',rfl,hR⟩)
  ·obtain ⟨ρ1,e,h⟩:=hs i d Z M hd hI
   simp only [hJ,br,jU,e]
   exact ⟨ρ1,rfl,h⟩
  ·exact .inr ⟨d',rfl,hR⟩
 ·rintro fl M (⟨Z,rfl,hI⟩|⟨d,rfl,hR⟩)
  ·exact hk Z M hI
  ·exact hr d M hR
end
theorem Iq (i j:Nat):bq (nD i) (nD j)=decide (i=j):=by
 show ((i:Int)==(j:Int))=_
 rw [N8];simp;omega
theorem uV:∀l r:List Nat,jo (l.map nD) #[231]=decide (l=r)
 |[],[]=>rfl
 |[],_::_=>rfl
 |_::_,[]=>rfl
 | i :: l, j :: r => by
   show (bq (nD i) (nD j)&&jo (l.map nD) #[231])=_
   rw [Iq,uV l r,N8];simp
theorem Ah (l r:List Nat):bq (aQ l) (aQ r)=decide (l=r):=uV l r
theorem uU:∀l r:List #[174],jo (l.map aQ) (r.map aQ)=decide (l=r)
 |[],[]=>rfl
 |[],_::_=>rfl
 |_::_,[]=>rfl
 | i :: l, j :: r => by
   show (bq (aQ i) (aQ j)&&jo (l.map aQ) (r.map aQ))=_
   rw [Ah,uU l r,N8];simp
theorem tR (n:Nat)(l:List Nat):aA (n+1) (.lst (l.map nD))=true:=by
 show (l.map nD).all (aA n)=true
 rw [MC];intro x hx;obtain ⟨i,_,rfl⟩:=Nu.mp hx;cases n<;>rfl
theorem uR {l r:List Nat}{M:Mem}:bx .ne (aQ l) (aQ r) M=some (!decide (l=r)):=iM (n9 63 l) (n9 63 r) (Ah l r)
theorem rN {l r:List #[174]}{M:Mem}:bx .eq (.tup (l.map aQ)) (.tup (r.map aQ)) M=some (decide (l=r)):=nE (kg 62 l) (kg 62 r) (uU l r)
theorem rM {l r:List #[174]}{M:Mem}:bx .ne (.tup (l.map aQ)) (.tup (r.map aQ)) M=some (!decide (l=r)):=iM (kg 62 l) (kg 62 r) (uU l r)
theorem Ag {l r:List Nat}{M:Mem}:bx .ne (.lst (l.map nD)) (.lst #[231]) M=some (!decide (l=r)):=iM (tR 63 l) (tR 63 r) (uV l r)
def ends (m:aV)(r:List Nat):List #[174]:=(cE m).map (cw m r)
section
variable {P:Nat->Option Df}(h:l7 P){M:Mem}
include h
theorem vb (he:P 44=some ⟨2,5,cW⟩)(n:Nat){m:aV}{x:D}{r:List Nat}(hx:dZ M x r)(hm:bh m)(hr:∀i∈r,i<m.deeds.length):ai (ak P (n+2) 44 [m.d,x] M) fun d M'=>d=.tup ((ends m r).map aQ)/\Sub M M':=by
 have bb:=yK h n (M:=M++[[]]) hm
 have bl:=uW hm
 refine ay he rfl ?_
 simp [cW,bb]
 refine ⟨rfl,?_⟩
 generalize hq:M.length=q
 refine cz (ds:=(cE m).map aQ) (fun i Z M'=>M'[q]?=some (((cE m).take i).map fun s=>aQ (cw m r s))/\Sub M M'/\q<M'.length/\∃x3 x4,Z=[some m.d,some x,some (.cell q),x3,x4]) #[36] ⟨by subst hq;simp,Sub.app,by subst hq;simp,none,none,rfl⟩ ?_ ?_
 ·rintro i d Z M' hd ⟨e4,S4,hql,x3,x4,rfl⟩
  rw [Nm] at hd
  cases e:(cE m)[i]? with
  |none=>rw [e] at hd;cases hd
  | some s =>
    rw [e] at hd
    cases MA hd
    have hi:=(Mw.mp e).1
    have hs:=wc s (MO e)
    refine ⟨_,rfl,?_⟩
    simp [hx.is]
    refine cz (ds:=r.map nD) (fun j Z M2=>M2[q]?=some (((cE m).take i).map fun s=>aQ (cw m r s))/\Sub M M2/\q<M2.length/\∃x4,Z=[some m.d,some x,some (.cell q),some (aQ (cw m (r.take j) s)),x4]) (fun _ _ _ e=>(hx.sub e.2.1).seq) ⟨e4,S4,hql,x4,rfl⟩ ?_ ?_
    ·rintro j dd Z M2 hj ⟨f4,T4,ql2,y4,rfl⟩
     rw [Nm] at hj
     cases ej:r[j]? with
     |none=>rw [ej] at hj;cases hj
     | some k =>
       rw [ej] at hj
       cases MA hj
       have hk:=hr k (MO ej)
       have hst:gQ m (cw m (r.take j) s):=qC hm (fun x hx=>hr x (Nw hx)) hs
       have af:=Bk h n (M:=M2) hm (lF hm hk) hst
       refine ⟨_,rfl,?_⟩
       simp [-gX,Hs,uz hk,af]
       exact ⟨by rw [Ng ql2,f4,Pq],T4.trans Sub.app,by omega,by rw [NS,ej];simp [uD,cw]⟩
    ·rintro Z M2 ⟨f4,T4,ql2,y4,rfl⟩
     simp [f4]
     exact ⟨OD (show _<=50 by omega) #[1],by rw [Nv ql2,NS];simp [e],T4.setq #[0],ql2⟩
 ·rintro Z M' ⟨e4,S4,hql,x3,x4,rfl⟩
  rw [MN,List.take_length] at e4
  simp [e4,ends,OI,S4]
theorem iF (he:P 44=some ⟨2,5,cW⟩)(n:Nat){m:aV}{r:List Nat}(hm:bh m)(hr:∀i∈r,i<m.deeds.length):ai (ak P (n+2) 44 [m.d,.lst #[231]] M) fun d M'=>d=.tup ((ends m r).map aQ)/\Sub M M':=vb h he n .l hm hr
end
def ib (m:aV)(a b:List Nat):Option #[174]:=(cE m).find? fun s=>!decide (cw m a s=cw m b s)
def G3:Option #[174]->D
 |some s=>aQ s
 |none=>.non
theorem nW {α:Type}(f g e:α->D):∀l:List α,gm (l.map f) (l.map g) (l.map e)=l.map fun s=>.tup [f s,g s,e s]
 |[]=>rfl
 |a::l=>by simp [gm,nW f g e l]
theorem zg {m:aV}{a b:List Nat}{i:Nat}{s:List Nat}(hi:(cE m)[i]?=some s)(h:∀t∈(cE m).take i,cw m a t=cw m b t)(hs:cw m a s≠cw m b s):ib m a b=some s:=by
 have e:cE m=(cE m).take i++s::(cE m).drop (i+1):=by
  obtain ⟨h1,h2⟩:=Mw.mp hi
  rw [<- h2,<- List.drop_eq_getElem_cons h1,Pe]
 unfold ib
 rw [e,List.find?_append]
 have:((cE m).take i).find? (fun s=>!decide (cw m a s=cw m b s))=none:=by
  rw [Pw];intro t ht;simp [h t ht]
 rw [this]
 simp [List.find?_cons,hs]
theorem zf {m:aV}{a b:List Nat}(h:∀t∈cE m,cw m a t=cw m b t):ib m a b=none:=by
 unfold ib
 rw [Pw];intro t ht;simp [h t ht]
theorem l9 {m:aV}{a b:List Nat}:ib m a b=none↔ends m a=ends m b:=by
 unfold ib ends
 rw [Pw,List.map_inj_left]
 simp
structure xV (P:Nat->Option Df):Prop where
 h15:P 15=some ⟨1,6,ft⟩
 h27:P 27=some ⟨2,2,i5⟩
 h46:P 46=some ⟨2,2,ji⟩
 parted:P 48=some ⟨3,8,oF⟩
section
variable {P:Nat->Option Df}{M:Mem}
theorem tB (h:HasM P)(ha:xV P)(n:Nat){m:aV}{x y:D}{a b:List Nat}(hx:dZ M x a)(hy:dZ M y b)(hm:bh m)(h1:dP m a)(h2:dP m b):ai (ak P (n+12) 48 [m.d,x,y] M) fun d M'=>d=G3 (ib m a b)/\Sub M M':=by
 have b1:=qY h ha.h15 ha.h27 ha.h46 n hx hm h1
 have b2:=qY h ha.h15 ha.h27 ha.h46 n (hy.sub (Sub.app (X:=(cE m).map fun s=>(fm m a s).map aQ))) hm h2
 generalize hM2:(M++(cE m).map fun s=>(fm m a s).map aQ)++((cE m).map fun s=>(fm m b s).map aQ)=M2 at b2
 have S2:Sub M M2:=by subst hM2;rw [List.append_assoc];exact Sub.app
 have bb:=vp h.toHasM0 ha.h15 (n+2) (M:=M2) hm
 refine ay ha.parted rfl ?_
 simp [oF,b1,b2,bb,dJ]
 refine ⟨⟨rfl,rfl⟩,?_⟩
 refine qz (ds:=(cE m).map fun s=>.tup [aQ s,aQ (cw m a s),aQ (cw m b s)]) (fun i Z M'=>(∀t∈(cE m).take i,cw m a t=cw m b t)/\Sub M M'/\∃x5 x6 x7,Z=[some m.d,some x,some y,some (oB m a),some (oB m b),x5,x6,x7]) (fun d M'=>d=G3 (ib m a b)/\Sub M M') ?_ ?_ ⟨by simp,S2,none,none,none,rfl⟩ ?_ ?_ ?_
 ·rintro i Z M' _
  simp [mV,bZ,oB,nW]
 ·rintro d M' _
  simp [mV,bZ,oB,nW]
 ·rintro i d Z M' hd ⟨hp,S',x5,x6,x7,rfl⟩
  rw [Nm] at hd
  cases e:(cE m)[i]? with
  |none=>rw [e] at hd;cases hd
  | some s =>
    rw [e] at hd
    cases MA hd
    refine ⟨_,rfl,?_⟩
    by_cases c:cw m a s=cw m b s
    ·simp [uR,c]
     refine ⟨?_,S'⟩
     intro t ht
     rw [NS,e] at ht
     rcases Nh.mp ht with z|z
     ·exact hp t z
     ·simp at z;subst z;exact c
    ·simp [uR,c]
     exact ⟨by rw [zg e hp c];rfl,S'⟩
 ·rintro Z M' ⟨hp,S',x5,x6,x7,rfl⟩
  simp at hp ⊢
  exact ⟨by rw [zf (by simpa [NT] using hp)];rfl,S'⟩
 ·rintro d M' ⟨rfl,S'⟩
  simp [S']
end
end LD
namespace LD
open PySem
theorem Sub.to {p:Nat}{M M1 M':Mem}(k:aZ p M M1)(h:Sub M1 M'):aZ p M M':=k.trans h.keep
theorem Ec {xs:List D}{a:Nat}{M:Mem}{k:D->Mem->Prop}:ai (eG false (.lst xs) .non (nD a) M) k↔(xs.take a).length<=sz/\k (.lst (xs.take a)) M:=oV
def pairD (p:List Nat×List Nat):D:=.tup [.lst (p.1.map nD),.lst (p.2.map nD)]
structure IC (m:aV) (k:Nat) (p:List Nat×List Nat):Prop where
 r1:dP m p.1
 r2:dP m p.2
 l1:p.1.length<=k
 l2:p.2.length<=k
 al:ends m p.1=ends m p.2
def sO (m:aV)(k:Nat)(prs:List (List Nat×List Nat)):Prop:=∀pr∈prs,IC m k pr
section
variable {P:Nat->Option Df}(hp_:HasP P)(h35:P 35=some ⟨3,6,fF⟩)(hs_:l7 P)(he:P 44=some ⟨2,5,cW⟩)(hal:P 49=some ⟨2,7,eT⟩){M:Mem}
include hp_ h35 hs_ he hal
theorem Bj (n:Nat){p B:Nat}{m:aV}(hm:bh m)(hp:aH M p B)(hB:B<=600000):ai (ak P (n+4) 49 [.cell p,m.d] M) fun d M'=>∃q prs,d=.cell q/\M.length<=q/\M'[q]?=some #[253]/\prs≠[]/\prs.length<=200/\sO m 3 prs/\aH M' p (B+450)/\aZ p M M':=by
 refine ay hal rfl ?_
 have d1:=hm.d1
 simp only [eT,aC,fk,dz,gA,fY,cS]
 refine ⟨9,rfl,by decide,?_⟩
 refine comp_map (ds:=(List.range 9).map fun (k:Nat)=>D.int (k:Int)) (fun i acc M'=>∃rs:List #[174],acc=rs.map bI/\rs.length=i/\(∀r∈rs,dP m r/\r.length<=3)/\aH M' p (B+i*50)/\aZ p M M') (av (by simp)) #[36] ⟨[],rfl,rfl,by simp,by simpa using hp,.refl⟩ ?_ ?_
 ·rintro i d acc M' hd _ ⟨rs,rfl,hl,hr,hp',hk'⟩
  have hi:i<9:=by
   have:=#[246].1
   simpa using this
  refine ⟨_,rfl,?_⟩
  simp
  refine aG (m7 hp_ h35 n (mo:=3) hm hp' #[0] #[1]) fun d M5 ⟨one,e1,h1,l1,q5,k5⟩=>?_
  subst e1
  refine ⟨rs++[one],by simp [bI],by simp [hl],fun r hr'=>?_,q5.mono #[0],hk'.trans k5⟩
  rcases Nh.mp hr' with z|z
  ·exact hr r z
  ·simp at z;subst z;exact ⟨h1,l1⟩
 ·rintro acc M1 _ ⟨rs,rfl,hl,hr,p1,k1⟩
  simp at hl p1
  simp only [bD]
  refine ⟨av #[7],?_⟩
  simp
  have szr:∀r:List Nat,r.length<=41->#[231].length<=sz:=fun r h=>av #[7]
  refine ⟨av #[0],av #[0],av #[0],?_⟩
  let some_:List #[174]:=rs++[[],[0]]
  have es:rs.map bI++[D.lst [],D.lst [D.int 0]]=some_.map bI:=by simp [some_,bI]
  rw [es]
  have hsome:∀r∈some_,dP m r/\r.length<=3:=by
   intro r hr'
   simp only [some_,Nh,Mz,MK,or_false] at hr'
   rcases hr' with z|z|z
   ·exact hr r z
   ·subst z;exact ⟨⟨by simp,fun i hi=>by cases hi⟩,by simp⟩
   ·subst z;exact ⟨⟨by simp,fun i hi=>by simp at hi;omega⟩,by simp⟩
  have lsome:some_.length=11:=by simp [some_,hl]
  obtain ⟨r0,rr,er⟩:∃r0 rr,some_=r0::rr:=by
   cases q:some_ with
   |nil=>rw [q] at lsome;cases lsome
   |cons a b=>exact ⟨a,b,rfl⟩
  have h0:=hsome r0 (by rw [er];exact MM)
  have i0:((bB (rs.length+2) 0).bind fun j=>(List.map bI some_)[j]?)=some (bI r0):=by
   rw [er]
   show ((bB (rs.length+2) ((0:Nat):Int)).bind _)=_
   rw [eQ #[0]];rfl
  refine ⟨bI r0,i0,bI r0,i0,?_⟩
  show ai (eV (.list false) [.lst (r0.map nD)] M1) _
  rw [lR,bD]
  refine ⟨szr r0 #[0],av #[0],av #[0],⟨rfl,rfl⟩,?_⟩
  generalize hq:M1.length=q
  have pq:p<q:=by have:=p1.lt;omega
  refine cz (ds:=cf 0 (some_.map bI)) (fun i Z M'=>(∃prs,M'[q]?=some #[253]/\prs≠[]/\prs.length<=1+i*11/\sO m 3 prs)/\aH M' p (B+450)/\aZ p M M'/\∃x4 x5 x6,Z=[some (.cell p),some m.d,some (.lst (some_.map bI)),some (.cell q),x4,x5,x6]) #[36] ?_ ?_ ?_
  ·refine ⟨⟨[(r0,r0)],?_,by simp,by simp,?_⟩,(p1.mono #[0]).app,k1.trans .app,none,none,none,rfl⟩
   ·subst hq;simp [pairD,bI]
   ·intro pr hpr
    simp at hpr;subst hpr
    exact ⟨h0.1,h0.1,h0.2,h0.2,rfl⟩
  ·rintro i d Z M' hd ⟨⟨prs,e1,e2,e3,e4⟩,p2,k2,x4,x5,x6,rfl⟩
   rw [cQ,Nm] at hd
   cases eo:some_[i]? with
   |none=>rw [eo] at hd;cases hd
   | some one =>
     rw [eo] at hd
     have hd:D.tup [.int ((0+i:Nat):Int),bI one]=d:=MA hd
     subst hd
     have hi:i<11:=by rw [<- lsome];exact (Mw.mp eo).1
     have ho:=hsome one (MO eo)
     refine ⟨_,rfl,?_⟩
     rw [Ow]
     simp
     refine ⟨rfl,rfl,oV.mpr ⟨av #[7],rfl,?_⟩⟩
     rw [<- Pq]
     refine cz (ds:=(some_.take i).map bI) (fun j Z M'=>(∃prs,M'[q]?=some #[253]/\prs≠[]/\prs.length<=1+i*11+j/\sO m 3 prs)/\aH M' p (B+450)/\aZ p M M'/\∃x6,Z=[some (.cell p),some m.d,some (.lst (some_.map bI)),some (.cell q),some (nD i),some (bI one),x6]) #[36] ⟨⟨prs,e1,e2,e3,e4⟩,p2,k2,x6,rfl⟩ ?_ ?_
     ·rintro j d Z M3 hd ⟨⟨prs,e1,e2,e3,e4⟩,p3,k3,y6,rfl⟩
      rw [Nm] at hd
      cases eo2:(some_.take i)[j]? with
      |none=>rw [eo2] at hd;cases hd
      | some other =>
        rw [eo2] at hd
        cases MA hd
        have hj:j<i:=by
         have:=(Mw.mp eo2).1
         simp at this;omega
        have h2:=hsome other (Nw (MO eo2))
        refine ⟨_,rfl,?_⟩
        have cne:bx .ne (bI one) (bI other) M3=some (!decide (one=other)):=Ag
        simp [cne]
        by_cases c:one=other
        ·exact .inl ⟨c,⟨prs,e1,e2,by omega,e4⟩,p3,k3⟩
        ·refine .inr ⟨c,?_⟩
         refine aG (iF hs_ he (n+1) (M:=M3) hm ho.1.2) fun d M4 ⟨ed,S4⟩=>?_
         subst ed
         refine aG (iF hs_ he (n+1) (M:=M4) hm h2.1.2) fun d M5 ⟨ed,S5⟩=>?_
         subst ed
         have S:=S4.trans S5
         have e5:M5[q]?=some #[253]:=S.get e1
         by_cases c2:ends m one=ends m other
         ·refine .inr ⟨by rw [rN,c2];simp,?_⟩
          show ai (eV (.list false) [.lst (other.map nD)] M5) _
          rw [lR,bD]
          refine ⟨szr other #[0],av #[0],_,e5,?_,⟨prs++[(one,other)],?_,by simp,by simp;omega,fun pr hpr=>?_⟩,(S.pen p3).setq pq,(S.to k3).setq ?_⟩
          ·exact OD (show _<=1000 by simp;omega) #[1]
          ·rw [Nv (Mw.mp e5).1];simp [pairD,bI]
          ·rcases Nh.mp hpr with z|z
           ·exact e4 pr z
           ·simp at z;subst z
            exact ⟨ho.1,h2.1,ho.2,h2.2,c2⟩
          ·have:=k1.len;omega
         ·exact .inl ⟨by rw [rN];simp [c2],⟨prs,e5,e2,by omega,e4⟩,S.pen p3,S.to k3⟩
     ·rintro Z M3 ⟨⟨prs,e1,e2,e3,e4⟩,p3,k3,y6,rfl⟩
      simp
      refine ⟨⟨prs,e1,e2,?_,e4⟩,p3,k3⟩
      simp at e3;omega
  ·rintro Z M3 ⟨⟨prs,e1,e2,e3,e4⟩,p3,k3,x4,x5,x6,rfl⟩
   simp
   refine ⟨by have:=k1.len;omega,prs,e1,e2,?_,e4,p3,k3⟩
   have:(cf 0 (some_.map bI)).length=11:=by rw [eE];simpa using lsome
   rw [this] at e3;omega
end
end LD
namespace LD
open PySem
abbrev Ct:=List Nat×List Nat
structure KD where
 place:Nat
 num:Nat
 back:Bool
def KD.d (s:KD):D:=.tup [nD s.place,nD s.num,.bl s.back]
def Ct.way (r:Ct)(b:Bool):Ct:=if b then (r.2,r.1) else r
end LD
namespace LD
open PySem
theorem mJ {tg:dv}{w:Walk}{gc:GT}{ge:GE}{ds:List D}{ρ0:Env}{M:Mem}{kl:List D->Mem->Prop}(f:D->Bool)(g:D->D)(hz:ds.length<=sz)(hw:w M=some ds)
 (hs:∀d∈ds,∃ρ1,cX tg d ρ0=some ρ1/\gc ρ1 M=.ok (f d) M/\(f d=true->ge ρ1 M=.ok (g d) M)) (hk:kl ((ds.filter f).map g) M):ai (dG (dI tg (k9 gc (bU ge)) ρ0) w [] M) kl:=by
 refine fx (fun i acc M'=>M'=M/\acc=((ds.take i).filter f).map g) (fun i acc M' h=>by rw [h.1];exact hw) ⟨rfl,rfl⟩ ?_ ?_
 ·rintro i d acc M' hd ⟨rfl,rfl⟩
  obtain ⟨ρ1,e1,e2,e3⟩:=hs d (MO hd)
  have hi:i<ds.length:=#[246].1
  simp only [dI,e1,BG,Res.bind_ok,k9,e2]
  rw [NS,hd]
  cases q:f d with
  | false =>
    simp [q]
  | true =>
    rw [if_pos rfl]
    have len:(((ds.take i).filter f).map g).length<=i:=by
     rw [MN]
     exact MF (Pf _ _) #[7]
    simp only [bU,e3 q,Res.bind_ok]
    rw [if_pos #[0]]
    simp [q]
 ·rintro acc M' ⟨rfl,rfl⟩
  simpa using hk
theorem oQ (M:Mem):∀(n k:Nat) (d:D),aA k d=true->cy n M d=d
 |0,_,_,_=>rfl
 | n + 1, k, d, h => by
   have all:∀(k:Nat) (ds:List D),ds.all (aA k)=true->ds.map (cy n M)=ds:=fun k ds hp=>by
    rw [MC] at hp
    conv=>rhs;rw [<- List.map_id ds]
    exact List.map_congr_left fun d hd=>oQ M n k d (hp d hd)
   cases d with
   | tup ds =>
     cases k with
     |zero=>simp [aA] at h
     |succ k=>exact congrArg D.tup (all k ds #[307])
   | lst ds =>
     cases k with
     |zero=>simp [aA] at h
     |succ k=>exact congrArg D.lst (all k ds #[307])
   |frz ds=>cases k<;>simp [aA] at h
   |cell q=>cases k<;>simp [aA] at h
   |fn f=>cases k<;>simp [aA] at h
   |exc y p=>cases k<;>simp [aA] at h
   |_=>rfl
end LD
namespace LD
open PySem
structure iT (P:Nat->Option Df):Prop where
 whole:P 67=some ⟨1,1,kF⟩
 is_in:P 68=some ⟨3,3,mM⟩
 numbers:P 69=some ⟨4,4,iR⟩
 is_deed:P 70=some ⟨3,3,bt⟩
 is_machine:P 71=some ⟨1,1,fg⟩
def oP:D->Bool
 |.int _=>true
 |_=>false
theorem eq_empty {l:List D}{M:Mem}(hp:l.all (aA 63)=true):bx .eq (.lst l) (.lst []) M=some l.isEmpty:=by
 refine nE hp rfl ?_
 cases l<;>rfl
theorem lY (f:D->Bool):∀ds:List D,((ds.filter fun d=>!f d).map fun _=>D.int 1).isEmpty=ds.all f
 |[]=>rfl
 | d :: r => by
   have ih:=lY f r
   cases q:f d with
   |true=>simpa [q] using ih
   |false=>simp [q]
theorem qk {w:GW}{gc:GT}{Z:Env}{M:Mem}{ds:List D}{k:D->Mem->Prop}(f:D->Bool)(hw:ai (w Z M) fun wk M'=>M'=M/\wk M=some ds)(hz:ds.length<=sz)(he:∀d∈ds,gc (some d::Z) M=.ok (!f d) M)(hk:k (.bl (ds.all f)) M) :
 ai (aL .eq (bX false 1 (.one 0) w (k9 gc (bU (gI 1)))) #[162] Z M) k:=by
 simp only [fT,gA,jz,bo,bD]
 refine aG hw fun wk M' ⟨e1,e2⟩=>?_
 subst e1
 refine mJ (fun d=>!f d) (fun _=>.int 1) hz e2 (fun d hd=>⟨some d::Z,rfl,he d hd,fun _=>rfl⟩) ?_
 refine ⟨MF (by rw [MN];exact Pf _ _) hz,av #[1],_,eq_empty ?_,?_⟩
 ·rw [MC]
  intro x hx
  obtain ⟨_,_,rfl⟩:=Nu.mp hx
  rfl
 ·rw [lY];exact hk
section
variable {P:Nat->Option Df}(h:iT P){M:Mem}{k L:Nat}{d:D}
include h
theorem ka (n:Nat)(hd:Th k L d):ak P (n+1) 67 [d] M=.ok (.bl (oP d)) M:=by
 refine ax (ay h.whole rfl ?_)
 cases d with
 |fn j=>cases k<;>exact hd.elim
 |exc y p=>cases k<;>exact hd.elim
 |_=>exact cU rfl
theorem i9 (n:Nat)(hd:Th k L d)(lo hi:Int):ak P (n+2) 68 [d,.int lo,.int hi] M=.ok (.bl (a9 lo hi d)) M:=by
 refine ax (ay h.is_in rfl ?_)
 have e:aq 67 (ak P (n+1)) #[31] [some d,some (.int lo),some (.int hi)] M=.ok (.bl (oP d)) M:=i4 rfl (ka h n (M:=M) hd)
 cases d with
 |fn j=>cases k<;>exact hd.elim
 |exc y p=>cases k<;>exact hd.elim
 |int i=>exact cD (iy e fun _=>Io rfl rfl rfl) ⟨rfl,rfl⟩
 |_=>exact cD (iy (y:=false) e fun z=>by cases z) ⟨rfl,rfl⟩
def qi (many:Nat)(lo hi:Int):D->Bool
 |.tup ds=>ds.length==many&&ds.all (a9 lo hi)
 |_=>false
theorem qa (n:Nat)(hd:Th k L d)(hL:L<=100){many:Nat}(lo hi:Int):ak P (n+3) 69 [d,nD many,.int lo,.int hi] M=.ok (.bl (qi many lo hi d)) M:=by
 refine ax (ay h.numbers rfl ?_)
 cases d with
 |fn j=>cases k<;>exact hd.elim
 |exc y p=>cases k<;>exact hd.elim
 | tup ds =>
   have ht:=hd.tup
   simp only [iR,aC,oX,cj,d3,sY,jb,lH,eK,A7,cS,aU,uE,N4,OH,Of,NW,MU,Nb,Nk,Ni,exists_eq_left']
   refine ⟨true,rfl,true,rfl,?_⟩
   rw [if_neg #[1]]
   refine fT.mpr (dM.mpr (aY.mpr (aU.mpr ⟨_,rfl,bo.mpr (kZ.mpr (aU.mpr ⟨_,rfl,_,J5,_,rfl,?_⟩))⟩)))
   by_cases el:ds.length=many
   ·have e0:(!((ds.length:Int)==(many:Int)))=false:=by simp [el]
    rw [e0,if_neg #[1]]
    refine qk (a9 lo hi) (ds:=ds) #[228] (av #[0]) (fun d hd=>aM (by simp [i9 h n (ht.2 d hd)])) ?_
    exact ⟨by simp [qi,el],rfl⟩
   ·have e0:(!((ds.length:Int)==(many:Int)))=true:=by simp;omega
    rw [e0,if_pos #[1]]
    exact ⟨by simp [qi,el],rfl⟩
 |_=>exact cU rfl
end
abbrev dA:List D:=[.str "turn",.str "join",.str "move",.str "put"]
theorem zq {k L:Nat}{x:D}{M:Mem}(hx:Th k L x)(hk:k<=60):bx .notin x (.tup dA) M=some (!#[340]):=by
 have hp:aA 64 x=true:=(hx.mono (n':=64) #[0] (My L)).pure
 have e:bx .notin x (.tup dA) M=((bZ M (.tup dA)).bind (ik (view M x))).map (!·):=by cases x<;>rfl
 rw [e,hx.view]
 show Option.map _ (ik x dA)=_
 unfold ik
 rw [hp,show dA.all (aA 63)=true by decide +kernel]
 rfl
section
variable {P:Nat->Option Df}(h:iT P){M:Mem}{k L:Nat}{d:D}
include h
theorem zy (n:Nat){w p:Nat}{xs:List D}(hl:xs.length≠4/\xs.length≠5):ak P (n+4) 70 [.tup xs,nD w,nD p] M=.ok #[99] M:=by
 refine ax #[62]
 show ai (bt _ [some (.tup xs),some (nD w),some (nD p)] M) _
 unfold bt
 refine bA (aM ?_) rfl ⟨rfl,rfl⟩
 have e:bx .notin #[263] #[341] M=some true:=by
  show ((ik #[263] [.int 4,.int 5]).map (!·))=_
  have e1:bq (.int 4) #[263]=false:=by simp [bq];omega
  have e2:bq (.int 5) #[263]=false:=by simp [bq];omega
  show (some ([D.int 4,D.int 5].any fun y=>bq y #[263])).map (!·)=_
  simp [e1,e2]
 simp [bN,e]
 exact av #[1]
theorem xp (n:Nat){w p:Nat}{x:D}{xs:List D}(hx:Th k L x)(hk:k<=60)(hl:xs.length=3\/xs.length=4)(hn:#[340]=false):ak P (n+4) 70 [.tup (x::xs),nD w,nD p] M=.ok #[99] M:=by
 refine ax #[62]
 show ai (bt _ [some (.tup (x::xs)),some (nD w),some (nD p)] M) _
 unfold bt
 have e:bx .notin (.int (x::xs).length) #[341] M=some false:=by
  show ((ik (.int (x::xs).length) [.int 4,.int 5]).map (!·))=_
  show (some ([D.int 4,D.int 5].any fun y=>bq y (.int (x::xs).length))).map (!·)=_
  rcases hl with e|e<;>simp [bq,e]
 have e2:=zq (M:=M) hx hk
 rw [hn] at e2
 refine aE (aM ?_) #[342]
 ·simp at e
  simp [bN,e]
  exact av #[1]
 ·simp [bB,e2]
  exact av #[1]
theorem Dj (n:Nat){w p:Nat}{xs:List D}{a c:D}(hL1:L+1<=100)(i1:cu (.tup xs) (.int 1) M=some a)(il:cu (.tup xs) (.int (-1)) M=some c)(ha:Th k L a)(hc:Th k L c) :
 (eh (bE (aw (aq 69 (ak P (n+3)) (aa (bL (aa #[90] ah)) (aa (gI 1) #[83]))))) (bE (aw (aq 68 (ak P (n+3)) #[322]))):GT) [some (.tup xs),some (nD w),some (nD p)] M=.ok (!#[211]) M:=by
 have q1:ak P (n+3) 69 [.tup [a],.int 1,.int 0,.int #[61]] M=.ok (.bl (qi 1 0 #[61] (.tup [a]))) M:=qa h n (d:=.tup [a]) (k:=k+1) (L:=L+1) (many:=1) (show [a].length<=L+1/\∀d∈[a],Th k (L+1) d from ⟨by simp,fun d hd=>by rw [Nc.mp hd];exact ha.mono (My k) (Nat.le_succ L)⟩) hL1 0 _
 have q2:=i9 h (n+1) (M:=M) hc 1 3
 have z1:1<=sz:=av #[1]
 refine aM ?_
 simp [-gX,i1,il,q1,q2,z1,qi]
 cases a9 0 #[61] a<;>cases a9 1 3 c<;>simp
end
theorem EV {M:Mem}:bx .notin (.str "turn") (.tup dA) M=some false:=by
 show (ik (.str "turn") dA).map (!·)=_
 decide +kernel
theorem EX {M:Mem}:bx .notin (.str "join") (.tup dA) M=some false:=by
 show (ik (.str "join") dA).map (!·)=_
 decide +kernel
theorem EW {M:Mem}:bx .notin (.str "move") (.tup dA) M=some false:=by
 show (ik (.str "move") dA).map (!·)=_
 decide +kernel
theorem Hj {M:Mem}:bx .notin (.str "put") (.tup dA) M=some false:=by
 show (ik (.str "put") dA).map (!·)=_
 decide +kernel
theorem CY {M:Mem}{x y:Bool}:bx .ne (.bl x) (.bl y) M=some (x != y):=by cases x<;>cases y<;>rfl
theorem HI {M:Mem}:bx .notin (.int 4) #[341] M=some false/\bx .notin (.int 5) #[341] M=some false:=⟨rfl,rfl⟩
section
variable {P:Nat->Option Df}(h:iT P){M:Mem}{k L:Nat}{d:D}
include h
theorem xo (n:Nat){w p:Nat}{a b c:D}(hL:L+1<=100)(ha:Th k L a)(hb:Th k L b)(hc:Th k L c):ak P (n+4) 70 [.tup [.str "turn",a,b,c],nD w,nD p] M=.ok (.bl (j9 w p [a,b,c])) M:=by
 refine ax #[62]
 show ai (bt _ [some (.tup [.str "turn",a,b,c]),some (nD w),some (nD p)] M) _
 unfold bt
 have z2:2<=sz:=av #[1]
 have z4:4<=sz:=av #[1]
 have ej:=bw (x:="turn") (y:="join") (b:=false) #[3] M
 have et:=bw (x:="turn") (y:="turn") (b:=true) #[3] M
 have ep:=bw (x:="turn") (y:="put") (b:=false) #[3] M
 have em:=bw (x:="turn") (y:="move") (b:=false) #[3] M
 refine aE #[14] (aE #[14] ?_)
 have t3:=Dj h n (w:=w) (p:=p) (M:=M) (xs:=[.str "turn",a,b,c]) hL rfl rfl ha hc
 cases A:#[211] with
 | false =>
   rw [A] at t3
   refine bA t3 rfl ⟨?_,rfl⟩
   simp only [j9]
   rcases OK.mp A with q|q<;>simp [q]
 | true =>
   rw [A] at t3
   simp only [Ms] at A
   refine aE t3 ?_
   have q:=qa h n (M:=M) (many:=w) hb #[0] 0 #[222]
   refine bA (v:=.bl (gx w b)) #[14] (ax (by simp [bB,q];cases b<;>rfl)) ⟨?_,rfl⟩
   simp [j9,A.1,A.2]
theorem zw (n:Nat){w p:Nat}{a b c:D}(hL:L+1<=100)(ha:Th k L a)(hb:Th k L b)(hc:Th k L c):ak P (n+4) 70 [.tup [.str "put",a,b,c],nD w,nD p] M=.ok (.bl (mv w p [a,b,c])) M:=by
 refine ax #[62]
 show ai (bt _ [some (.tup [.str "put",a,b,c]),some (nD w),some (nD p)] M) _
 unfold bt
 have z2:2<=sz:=av #[1]
 have z4:4<=sz:=av #[1]
 have ej:=bw (x:="put") (y:="join") (b:=false) #[3] M
 have et:=bw (x:="put") (y:="turn") (b:=false) #[3] M
 have ep:=bw (x:="put") (y:="put") (b:=true) #[3] M
 have em:=bw (x:="put") (y:="move") (b:=false) #[3] M
 refine aE #[14] (aE #[14] ?_)
 have t3:=Dj h n (w:=w) (p:=p) (M:=M) (xs:=[.str "put",a,b,c]) hL rfl rfl ha hc
 cases A:#[211] with
 | false =>
   rw [A] at t3
   refine bA t3 rfl ⟨?_,rfl⟩
   simp only [mv]
   rcases OK.mp A with q|q<;>simp [q]
 | true =>
   rw [A] at t3
   simp only [Ms] at A
   refine aE t3 ?_
   have q:=i9 h (n+1) (M:=M) hb 0 #[222]
   refine aE #[14] (bA (v:=.bl (a9 0 #[222] b)) #[14] (ax (by simp [bB,q])) ⟨?_,rfl⟩)
   simp [mv,A.1,A.2]
theorem xq (n:Nat){w p:Nat}{a b c:D}(hL:L+1<=100)(ha:Th k L a)(hb:Th k L b)(hc:Th k L c):ak P (n+4) 70 [.tup [.str "move",a,b,c],nD w,nD p] M=.ok (.bl (jv w p [a,b,c])) M:=by
 refine ax #[62]
 show ai (bt _ [some (.tup [.str "move",a,b,c]),some (nD w),some (nD p)] M) _
 unfold bt
 have z2:2<=sz:=av #[1]
 have z4:4<=sz:=av #[1]
 have ej:=bw (x:="move") (y:="join") (b:=false) #[3] M
 have et:=bw (x:="move") (y:="turn") (b:=false) #[3] M
 have ep:=bw (x:="move") (y:="put") (b:=false) #[3] M
 have em:=bw (x:="move") (y:="move") (b:=true) #[3] M
 refine aE #[14] (aE #[14] ?_)
 have t3:=Dj h n (w:=w) (p:=p) (M:=M) (xs:=[.str "move",a,b,c]) hL rfl rfl ha hc
 cases A:#[211] with
 | false =>
   rw [A] at t3
   refine bA t3 rfl ⟨?_,rfl⟩
   simp only [jv]
   rcases OK.mp A with q|q<;>simp [q]
 | true =>
   rw [A] at t3
   simp only [Ms] at A
   refine aE t3 ?_
   have q:=i9 h (n+1) (M:=M) hb 0 #[61]
   refine aE #[14] (aE #[14] ?_)
   cases B:a9 0 #[61] b with
   | false =>
     rw [B] at q
     exact bA (aM (by simp [bB,q])) rfl ⟨by simp [jv,B],rfl⟩
   | true =>
     rw [B] at q
     refine aE (aM (by simp [bB,q])) (bA #[14] rfl ⟨?_,rfl⟩)
     simp [jv,A.1,A.2,B]
theorem xr (n:Nat){w p:Nat}{a b e c:D}(hL:L+1<=100)(ha:Th k L a)(hb:Th k L b)(he:Th k L e)(hc:Th k L c):ak P (n+4) 70 [.tup [.str "join",a,b,e,c],nD w,nD p] M=.ok (.bl (iX w p [a,b,e,c])) M:=by
 refine ax #[62]
 show ai (bt _ [some (.tup [.str "join",a,b,e,c]),some (nD w),some (nD p)] M) _
 unfold bt
 have z2:2<=sz:=av #[1]
 have z4:4<=sz:=av #[1]
 have ej:=bw (x:="join") (y:="join") (b:=true) #[3] M
 have et:=bw (x:="join") (y:="turn") (b:=false) #[3] M
 have ep:=bw (x:="join") (y:="put") (b:=false) #[3] M
 have em:=bw (x:="join") (y:="move") (b:=false) #[3] M
 refine aE #[14] (aE #[14] ?_)
 have t3:=Dj h n (w:=w) (p:=p) (M:=M) (xs:=[.str "join",a,b,e,c]) hL rfl rfl ha hc
 cases A:#[211] with
 | false =>
   rw [A] at t3
   refine bA t3 rfl ⟨?_,rfl⟩
   simp only [iX]
   rcases OK.mp A with q|q<;>simp [q]
 | true =>
   rw [A] at t3
   simp only [Ms] at A
   refine aE t3 ?_
   have q:=i9 h (n+1) (M:=M) hb 0 #[61]
   refine aE #[14] (aE #[14] ?_)
   cases B:a9 0 #[61] b with
   | false =>
     rw [B] at q
     exact bA (aM (by simp [bB,q])) rfl ⟨by simp [iX,B],rfl⟩
   | true =>
     rw [B] at q
     refine aE (aM (by simp [bB,q])) (aE #[14] ?_)
     have e0:iX w p [a,b,e,c]=iY w e:=by simp [iX,A.1,A.2,B]
     rw [e0]
     cases e with
     |fn j=>exact absurd he (by cases k<;>exact id)
     |exc y p=>exact absurd he (by cases k<;>exact id)
     | tup ds =>
       have ht:=he.tup
       by_cases el:ds.length=w
       ·refine aE (aM (by simp [bB,bN,el])) ?_
        simp only [aC,cj]
        refine qk (gx w) (ds:=ds) (by simp [bB];exact ⟨rfl,rfl⟩) (av #[0]) (fun d hd=>aM (by
         have q:=qa h n (M:=M) (many:=w) (ht.2 d hd) #[0] 0 #[222]
         have:qi w 0 #[222] d=gx w d:=by cases d<;>rfl
         rw [this] at q
         simp [q])) ?_
        exact ⟨by simp [iY,el],rfl⟩
       ·have:¬ ((ds.length:Int)=(w:Int)):=by omega
        exact bA (aM (by simp [bB,bN,this])) rfl ⟨by simp [iY,el],rfl⟩
     |_=>exact bA rfl rfl ⟨rfl,rfl⟩
omit h in
theorem ze {w p:Nat}{s:Str}{ds:List D}(hl:ds.length≠3/\ds.length≠4):cK w p s ds=false:=by
 have t:j9 w p ds=false:=by
  match ds,hl with
  |[],_=>rfl
  |[_],_=>rfl
  |[_,_],_=>rfl
  |[_,_,_],hl=>simp at hl
  |_::_::_::_::_,_=>rfl
 have j:iX w p ds=false:=by
  match ds,hl with
  |[],_=>rfl
  |[_],_=>rfl
  |[_,_],_=>rfl
  |[_,_,_],_=>rfl
  |[_,_,_,_],hl=>simp at hl
  |_::_::_::_::_::_,_=>rfl
 have m:jv w p ds=false:=by
  match ds,hl with
  |[],_=>rfl
  |[_],_=>rfl
  |[_,_],_=>rfl
  |[_,_,_],hl=>simp at hl
  |_::_::_::_::_,_=>rfl
 have u:mv w p ds=false:=by
  match ds,hl with
  |[],_=>rfl
  |[_],_=>rfl
  |[_,_],_=>rfl
  |[_,_,_],hl=>simp at hl
  |_::_::_::_::_,_=>rfl
 unfold cK
 rw [t,j,m,u]
 split<;>first|rfl|(split<;>first|rfl|(split<;>first|rfl|(split<;>rfl)))
theorem kn (n:Nat){w p:Nat}{s:Str}{xs:List D}{bj:Bool}(hs:bx .notin (.str s) (.tup dA) M=some false)(ej:bx .eq (.str s) (.str "join") M=some bj)(hl:xs.length=3/\bj=true\/xs.length=4/\bj=false):ak P (n+4) 70 [.tup (.str s::xs),nD w,nD p] M=.ok #[99] M:=by
 refine ax #[62]
 show ai (bt _ [some (.tup (.str s::xs)),some (nD w),some (nD p)] M) _
 unfold bt
 have z2:2<=sz:=av #[1]
 have z4:4<=sz:=av #[1]
 rcases hl with ⟨e,rfl⟩|⟨e,rfl⟩
 ·refine aE (aM (by simp [bN,e,HI.1,z2])) #[342]
  simp [bB,hs,z4,ej,CY,e]
 ·refine aE (aM (by simp [bN,e,HI.2,z2])) #[342]
  simp [bB,hs,z4,ej,CY,e]
theorem zx (n:Nat){w p:Nat}(hi:bN .tuple d=some false):ak P (n+4) 70 [d,nD w,nD p] M=.ok #[99] M:=by
 refine ax #[62]
 show ai (bt _ [some d,some (nD w),some (nD p)] M) _
 unfold bt
 exact bA (aM (by simp [hi])) rfl ⟨rfl,rfl⟩
theorem yI (n:Nat){w p:Nat}(hd:Th k L d)(hk:k<=60)(hL:L+1<=100):ak P (n+4) 70 [d,nD w,nD p] M=.ok (.bl (fb w p d)) M:=by
 cases d with
 |fn j=>exact absurd hd (by cases k<;>exact id)
 |exc y p=>exact absurd hd (by cases k<;>exact id)
 | tup xs =>
   have ht:=hd.tup
   by_cases hl:xs.length≠4/\xs.length≠5
   ·rw [zy h n hl]
    cases xs with
    |nil=>rfl
    | cons x ds =>
      simp at hl
      cases x with
      |str s=>show _=Res.ok (D.bl (cK w p s ds)) M;rw [ze ⟨by omega,by omega⟩]
      |_=>rfl
   ·have hl:xs.length=4\/xs.length=5:=by omega
    cases xs with
    |nil=>simp at hl
    | cons x ds =>
      have hx:=ht.2 x MM
      have hds:∀d∈ds,Th k L d:=fun d hd=>ht.2 d (ME _ hd)
      have hl:ds.length=3\/ds.length=4:=by simp at hl;omega
      by_cases hn:#[340]=false
      ·rw [xp h n hx hk hl hn]
       cases x with
       | str s =>
         show _=Res.ok (D.bl (cK w p s ds)) M
         have q:∀z:Str,D.str z∈dA->¬ s=z:=fun z hz e=>by
          subst e
          rw [Py] at hn
          exact hn _ hz (by simp [bq])
         rw [tY (q _ (by simp)) (q _ (by simp)) (q _ (by simp)) (q _ (by simp))]
       |_=>rfl
      ·have hn:#[340]=true:=(Bool.not_eq_false _).mp hn
       obtain ⟨z,hz,e⟩:=List.any_eq_true.mp hn
       have hx:∃s:Str,x=.str s/\D.str s∈dA:=by
        simp only [dA,Mz,MK,or_false] at hz
        cases x<;>rcases hz with rfl|rfl|rfl|rfl<;>first|(simp [bq] at e;subst e;exact ⟨_,rfl,by simp⟩)|simp [bq] at e
       obtain ⟨s,rfl,hs⟩:=hx
       show _=Res.ok (D.bl (cK w p s ds)) M
       simp only [dA,Mz,MK,or_false,D.str.injEq] at hs
       match ds,hds,hl with
       | [a, b, c], hds, _ =>
         simp only [Mz,MK,or_false,forall_eq_or_imp,forall_eq] at hds
         rcases hs with rfl|rfl|rfl|rfl
         ·rw [mz];exact xo h n hL hds.1 hds.2.1 hds.2.2
         ·rw [my];exact kn h n EX (bw #[3] M) (.inl ⟨rfl,rfl⟩)
         ·rw [mx];exact xq h n hL hds.1 hds.2.1 hds.2.2
         ·rw [mw];exact zw h n hL hds.1 hds.2.1 hds.2.2
       | [a, b, e, c], hds, _ =>
         simp only [Mz,MK,or_false,forall_eq_or_imp,forall_eq] at hds
         rcases hs with rfl|rfl|rfl|rfl
         ·rw [mz];exact kn h n EV (bw #[3] M) (.inr ⟨rfl,rfl⟩)
         ·rw [my];exact xr h n hL hds.1 hds.2.1 hds.2.2.1 hds.2.2.2
         ·rw [mx];exact kn h n EW (bw #[3] M) (.inr ⟨rfl,rfl⟩)
         ·rw [mw];exact kn h n Hj (bw #[3] M) (.inr ⟨rfl,rfl⟩)
       |[],_,hl=>simp at hl
       |[_],_,hl=>simp at hl
       |[_,_],_,hl=>simp at hl
       |_::_::_::_::_::_,_,hl=>simp at hl
 |_=>exact zx h n rfl
theorem kc (n:Nat)(hd:Th k L d)(hk:k<=60)(hL:L+1<=100):ak P (n+5) 71 [d] M=.ok (.bl (eP d)) M:=by
 refine ax (ay h.is_machine rfl ?_)
 show ai (fg _ [some d] M) _
 unfold fg
 by_cases hn:fP 3 d=false
 ·rw [uh hn]
  cases d with
  |fn j=>exact absurd hd (by cases k<;>exact id)
  |exc y p=>exact absurd hd (by cases k<;>exact id)
  | tup xs =>
    have:¬ ((xs.length:Int)=3):=by simp [fP] at hn;omega
    exact bA (aM (by simp [bN,this])) rfl ⟨rfl,rfl⟩
  |_=>exact bA rfl rfl ⟨rfl,rfl⟩
 ·match d,hd,hn with
  | .tup [a, b, c], hd, _ =>
    have ht:=hd.tup.2
    simp only [Mz,MK,or_false,forall_eq_or_imp,forall_eq] at ht
    have b1:=i9 h (n+2) (M:=M) ht.1 2 4
    have b2:=i9 h (n+2) (M:=M) ht.2.1 1 2
    show ai _ (iK fun x M'=>x=.bl (a9 2 4 a&&#[152])/\M'=M)
    cases c1:a9 2 4 a with
    | false =>
      rw [c1] at b1
      exact bA (aM (by simp [bN,bB,b1])) rfl ⟨rfl,rfl⟩
    | true =>
      rw [c1] at b1
      refine aE (aM (by simp [bN,bB,b1])) ?_
      cases c2:a9 1 2 b with
      | false =>
        rw [c2] at b2
        exact bA (aM (by simp [bB,b2])) rfl ⟨rfl,rfl⟩
      | true =>
        rw [c2] at b2
        obtain ⟨ea,_,_⟩:=nH c1 #[1]
        obtain ⟨eb,_,_⟩:=nH c2 #[1]
        by_cases hcc:∃ds,c=.tup ds
        ·obtain ⟨ds,rfl⟩:=hcc
         have hc:=ht.2.2.tup
         cases lb:fQ (.tup ds) with
         | false =>
           refine bA (aM ?_) rfl ⟨rfl,rfl⟩
           simp [fQ] at lb
           simp [bB,b2,bN]
           omega
         | true =>
           refine aE (aM ?_) ?_
           ·simp [fQ] at lb
            simp [bB,b2,bN]
            omega
           ·simp only [aC,cj]
            refine qk (fb (eC a) (eC b)) (ds:=ds) (by simp [bB];exact ⟨rfl,rfl⟩) (av #[0]) (fun d hd=>aM (by
             have q:=yI h n (w:=eC a) (p:=eC b) (M:=M) (hc.2 d hd) hk hL
             rw [<- ea,<- eb] at q
             simp [bB,q])) ?_
            exact ⟨by simp [pD],rfl⟩
        ·have e1:fQ c=false:=by cases c<;>first|rfl|exact absurd ⟨_,rfl⟩ hcc
         have e2:=uu ht.2.2 (t:=.tuple) (.inr ⟨hcc,rfl⟩)
         exact bA (aM (by simp [bB,b2,e2])) rfl ⟨by simp [e1],rfl⟩
  |.tup [],_,hn=>exact absurd rfl hn
  |.tup [_],_,hn=>exact absurd rfl hn
  |.tup [_,_],_,hn=>exact absurd rfl hn
  |.tup (_::_::_::_::r),_,hn=>exact absurd (by simp [fP]) hn
  |.non,_,hn=>exact absurd rfl hn
  |.bl _,_,hn=>exact absurd rfl hn
  |.int _,_,hn=>exact absurd rfl hn
  |.str _,_,hn=>exact absurd rfl hn
  |.lst _,_,hn=>exact absurd rfl hn
  |.frz _,_,hn=>exact absurd rfl hn
  |.cell _,_,hn=>exact absurd rfl hn
  |.fn _,_,hn=>exact absurd rfl hn
  |.exc _ _,_,hn=>exact absurd rfl hn
end
end LD
namespace LD
open PySem
structure HasT0 (P:Nat->Option Df):Prop where
 but:P 64=some ⟨2,4,fV⟩
 any:P 65=some ⟨1,1,fX⟩
structure HasT (P:Nat->Option Df):Prop extends HasT0 P where
 signed:P 66=some ⟨2,3,gF⟩
 bent:P 72=some ⟨3,9,i7⟩
instance coeHasT {P:Nat->Option Df}:Coe (HasT P) (HasT0 P):=⟨HasT.toHasT0⟩
section
variable {Z:Env}{M:Mem}{a b lo hi:GE}{k:D->Mem->Prop}{kw:Walk->Mem->Prop}
@[simp] theorem FQ:ai (pJ a Z M) kw↔ai (a Z M) fun x M=>∃z,x=.str z/\kw (fun _=>some (signs z)) M:=by
 simp only [pJ,br];refine iff_of_eq ?_;congr 1;funext x M;cases x<;>simp
theorem HS {hl hh:Bool}:ai (nr hl hh a lo hi Z M) k↔ai (a Z M) fun x M=>ai (lo Z M) fun l M=>ai (hi Z M) fun h M=>b9 hl l=true/\b9 hh h=true/\∃z i j,x=.str z/\z.cps.size<=sz/\aS z.cps.size 0 l=some i/\aS z.cps.size z.cps.size h=some j/\k (.str (iL z i j)) M:=by
 simp only [nr,br]
 refine iff_of_eq ?_
 congr 1;funext x M;congr 1;funext l M;congr 1;funext h M
 cases b9 hl l<;>cases b9 hh h<;>simp
 cases x<;>simp
 rename_i z
 by_cases hz:z.cps.size<=sz
 ·simp [hz]
  cases aS z.cps.size 0 l<;>cases aS z.cps.size z.cps.size h<;>simp
 ·simp [hz]
end
def gJ (L:Nat)(z:Str):Prop:=z.cps.size<=L/\z.cps.all (· < 0x110000)=true
theorem gJ.th {n L:Nat}{z:Str}(h:gJ L z):Th n L (.str z):=by cases n<;>exact h
theorem zW {L:Nat}{z:Str}{i j:Nat}(h:gJ L z):gJ (j-i) (iL z i j)/\(iL z i j).cps.size<=z.cps.size-i:=by
 refine ⟨⟨?_,?_⟩,?_⟩
 ·simp [iL,cut];omega
 ·have h2:=h.2
  rw [<- Array.all_toList,MC] at h2
  simp only [iL]
  rw [List.all_toArray,MC]
  intro x hx
  exact h2 x (N9 (Nw hx))
 ·simp [iL,cut];omega
theorem add_str {m:Bool}{x y:Str}{M:Mem}{k:D->Mem->Prop}(h:x.cps.size+y.cps.size<=sz):ai (eW m .add (.str x) (.str y) M) k↔k (.str ⟨x.cps++y.cps⟩) M:=by simp [eW,h]
abbrev Ko:Str:=" !\"#$&'()*+,-./0123456789:;<=>?@ABCDEFGHIJKLMNOPQRSTUVWXYZ[\\]^_`"
abbrev Kn:Str:="abcdefghijklmnopqrstuvwxyz{|}~\t\n"
def allSigns:Str:=⟨Ko.cps++Kn.cps⟩
theorem FK {M:Mem}{k:D->Mem->Prop}:ai (eW false .add (.str Ko) (.str Kn) M) k↔k (.str allSigns) M:=add_str (MF #[3] (av (n:=200) #[1]))
theorem ja:(0<#[319].length/\#[319].length<=200)/\allSigns.cps.size<=200/\(#[319].all fun d=>match d with|.str z=>!jL z ""&&z.cps.size==1&&z.cps.all (· < 0x110000)|_=>false)=true:=by decide +kernel
theorem sign_is {d:D}(h:d∈signs allSigns):∃z:Str,d=.str z/\jL z ""=false/\gJ 1 z:=by
 have q:=MC.mp ja.2.2 d h
 cases d with
 | str z =>
   simp only [Ms,Oo,beq_iff_eq] at q
   exact ⟨z,rfl,q.1.1,by rw [q.1.2];exact My 1,q.2⟩
 |_=>cases q
section
variable {P:Nat->Option Df}(hp_:HasP0 P)(ht_:HasT0 P){M:Mem}
include hp_ ht_
theorem F4 (n:Nat){p B:Nat}(hp:aH M p B)(hB:B<=900000):ai (ak P (n+4) 65 [.cell p] M) fun d M'=>∃z:Str,d=.str z/\gJ 1 z/\aH M' p (B+1)/\aZ p M M':=by
 refine ay ht_.any rfl ?_
 show ai (fX _ [some (.cell p)] M) _
 simp only [fX,aC,cj,eR,aY,bo,aU,cS,MU,Nk,Ni,exists_eq_left']
 refine ay ht_.but rfl ?_
 show ai (fV _ [some (.cell p),some (.str ""),none,none] M) _
 simp only [fV,aC,oX,fk,d3,cj,cS,dz,aU,MU,Nb,Nk,Ni,exists_eq_left',Og,Oh]
 refine FK.mpr ?_
 simp only [gA,FQ,aU,MU,Nb,Nk,Ni,exists_eq_left',D.str.injEq]
 refine mJ (fun _=>true) (fun d=>d) (ds:=signs allSigns) (av (by have:=ja.1.2;omega)) rfl (fun d hd=>?_) ?_
 ·obtain ⟨z,rfl,hz,_⟩:=sign_is hd
  refine ⟨_,rfl,aM ?_,fun _=>rfl⟩
  simp
  show some (!jL z "")=_
  rw [hz];rfl
 have ef:(List.filter (fun _=>true) #[319]).map (fun d=>d)=signs allSigns:=by simp
 rw [ef]
 refine bD.mpr ⟨av (by have:=ja.1.2;omega),?_⟩
 simp only [d3,aC,cj,fA,eR,aY,bo,dM,aU,MU,Nb,Nk,Ni,exists_eq_left',Og,Oh,EZ]
 refine tk hp_ n hp #[0] ja.1.1 (by have:=ja.1.2;omega) fun v M' hv q kk=>?_
 obtain ⟨z,e,_,hz⟩:=sign_is (Nz hv)
 refine ⟨.str z,?_,z,rfl,hz,q,kk⟩
 show (bB #[319].length (v:Int)).bind (fun j=>#[319][j]?)=_
 rw [eQ hv]
 simp [hv,e]
end
section
variable {P:Nat->Option Df}(hp_:HasP P)(ht_:HasT P){M:Mem}
include hp_ ht_
omit hp_ ht_ in
theorem Ac {A B:Nat}{x y:Str}(hx:gJ A x)(hy:gJ B y):gJ (x.cps.size+y.cps.size) ⟨x.cps++y.cps⟩:=by
 refine ⟨by simp,?_⟩
 have h1:=hx.2
 have h2:=hy.2
 simp only [Array.all_append,h1,h2,Bool.and_self]
theorem yG (n:Nat){p B L:Nat}{z:Str}(hz:gJ L z)(hL:L<=100)(hp:aH M p B)(hB:B<=800000):ai (ak P (n+5) 66 [.cell p,.str z] M) fun d M'=>∃z':Str,d=.str z'/\gJ (L+1) z'/\aH M' p (B+3)/\aZ p M M':=by
 refine ay ht_.signed rfl ?_
 show ai (gF _ [some (.cell p),some (.str z),none] M) _
 have zl:=hz.1
 have zsz:z.cps.size<=sz:=av #[0]
 simp only [gF,aC,oX,fk,d3,cj,eR,aY,bo,cS,dz,aU,dM,HS,MU,Nb,Nk,Ni,exists_eq_left',Og,Oh]
 have el:∀{k:D->Mem->Prop},k (.int z.cps.size) M->ai (eV .len [.str z] M) k:=fun hk=>by
  show ai (if z.cps.size<=sz then Res.ok (D.int z.cps.size) M else .bad) _
  rw [if_pos zsz];exact hk
 refine el ?_
 rw [fK]
 rw [show ((z.cps.size:Int)+1)=((z.cps.size+1:Nat):Int) by omega]
 refine tk hp_ (n+2) hp #[0] #[0] #[0] fun at_ M1 hat q1 k1=>?_
 refine ⟨rfl,rfl,z,0,at_,rfl,zsz,rfl,?_,?_⟩
 ·show some (if (at_:Int)<0 then _ else min (at_:Int).toNat z.cps.size)=_
  rw [if_neg #[0]]
  congr 1
  simp;omega
 refine aG (F4 hp_ ht_ (M:=M1) (B:=B+1) (p:=p) n q1 #[0]) fun d M2 ⟨y,ed,hy,q2,k2⟩=>?_
 subst ed
 have c1:=zW (i:=0) (j:=at_) hz
 have hs1:=Ac c1.1 hy
 have s1:=c1.1.1
 have s2:=hy.1
 have w1:(iL z 0 at_).cps.size+y.cps.size<=sz:=av #[0]
 refine (add_str w1).mpr ?_
 refine tk hp_ (n+2) (many:=2) q2 #[0] #[1] #[1] fun v M3 hv q3 k3=>?_
 rw [fK]
 rw [show ((at_:Int)+(v:Int))=((at_+v:Nat):Int) by omega]
 refine ⟨rfl,rfl,z,min (at_+v) z.cps.size,z.cps.size,rfl,zsz,?_,rfl,?_⟩
 ·show some (if ((at_+v:Nat):Int)<0 then _ else min ((at_+v:Nat):Int).toNat z.cps.size)=_
  rw [if_neg #[0]]
  congr 1
 have c2:=zW (i:=min (at_+v) z.cps.size) (j:=z.cps.size) hz
 have hs2:=Ac hs1 c2.1
 have s3:=c2.2
 have s4:=hs1.1
 simp only at s4
 have w2:((iL z 0 at_).cps++y.cps).size+(iL z (min (at_+v) z.cps.size) z.cps.size).cps.size<=sz:=av (by simp only [Array.size_append] at s4 ⊢;omega)
 refine (add_str w2).mpr ?_
 refine ⟨_,rfl,⟨?_,hs2.2⟩,q3,#[324].trans k3⟩
 have:=hs2.1
 simp only [Array.size_append] at this ⊢
 omega
end
def eU:List D:=[.non,.bl true,.bl false,.str "",.str "turn",.str "join",.str "move",.str "put",.str "Turn",.tup [],.lst [],.int (10^20),.int (-1),.int 0,.int 1,.int 4,.tup [.int 0],.lst [.int 0],.str "0",.int 7]
theorem zk {x:D}(h:x∈eU):Th 1 4 x:=by
 have st:∀z:Str,(z.cps.size<=4&&z.cps.all (· < 0x110000))=true->Th 1 4 (.str z):=fun z hz=>by
  simp only [Ms,decide_eq_true_eq] at hz
  exact hz
 simp only [eU,Mz,MK,or_false] at h
 rcases h with rfl|rfl|rfl|rfl|rfl|rfl|rfl|rfl|rfl|rfl|rfl|rfl|rfl|rfl|rfl|rfl|rfl|rfl|rfl|rfl
 all_goals first
  |trivial
  |exact st _ #[3]
  |exact ⟨by decide,fun d hd=>absurd hd MK⟩
  |exact ⟨by decide,fun d hd=>by rw [Nc.mp hd];trivial⟩
theorem vq {lo hi:D}{hl hh:Bool}{xs:List D}{M:Mem}{k:D->Mem->Prop}(h1:b9 hl lo=true)(h2:b9 hh hi=true)(hk:∀i j,k (.tup (cut xs i j)) M):ai (eG false (.tup xs) lo hi M) k:=by
 have q:∀{n d:Nat}{b:Bool}{x:D},b9 b x=true->∃i,aS n d x=some i:=fun {n d b x} h=>by
  cases b<;>cases x<;>first|exact ⟨_,rfl⟩|cases h
 obtain ⟨i,e1⟩:=q (n:=xs.length) (d:=0) h1
 obtain ⟨j,e2⟩:=q (n:=xs.length) (d:=xs.length) h2
 show ai (match aS xs.length 0 lo,aS xs.length xs.length hi with|some l,some h=>Res.ok (D.tup #[332]) M|_,_=>.bad) k
 rw [e1,e2]
 exact hk i j
theorem jJ {xs:List D}{i j:Nat}:(cut xs i j).length<=xs.length/\(cut xs i j).length<=j/\∀d∈cut xs i j,d∈xs:=by
 refine ⟨?_,?_,fun d hd=>N9 (Nw hd)⟩
 ·unfold cut;rw [N5,OL];omega
 ·unfold cut;rw [N5];omega
theorem Ja {xs:List D}{M:Mem}{k:D->Mem->Prop}(hk:∀ys:List D,ys.length<=1->(∀d∈ys,d∈xs)->k (.tup ys) M):ai (eG false (.tup xs) .non (.int 1) M) k:=by
 show ai (Res.ok (D.tup (cut xs 0 (min 1 xs.length))) M) k
 exact hk _ (MF jJ.2.1 #[0]) jJ.2.2
theorem F6 {xs:List D}{a:Nat}{M:Mem}{k:D->Mem->Prop}(ha:a<xs.length)(hk:k (.tup (xs.take a)) M):ai (eG false (.tup xs) .non (nD a) M) k:=by
 show ai (Res.ok (D.tup (cut xs 0 (if (a:Int)<0 then _ else min (a:Int).toNat xs.length))) M) k
 rw [if_neg #[0]]
 have:cut xs 0 (min (a:Int).toNat xs.length)=xs.take a:=by
  unfold cut
  rw [show min (a:Int).toNat xs.length-0=a by simp;omega,List.drop_zero]
 rw [this];exact hk
theorem Bl {xs:List D}{a:Nat}{M:Mem}{k:D->Mem->Prop}(ha:a<xs.length)(hk:k (.tup (xs.drop (a+1))) M):ai (eG false (.tup xs) (.int ((a:Int)+1)) .non M) k:=by
 show ai (Res.ok (D.tup (cut xs (if (a:Int)+1<0 then _ else min ((a:Int)+1).toNat xs.length) xs.length)) M) k
 rw [if_neg #[0]]
 have:cut xs (min ((a:Int)+1).toNat xs.length) xs.length=xs.drop (a+1):=by
  unfold cut
  rw [show min ((a:Int)+1).toNat xs.length=a+1 by omega,NT (by simp)]
 rw [this];exact hk
theorem Th.tup_of {k L:Nat}{xs:List D}(hl:xs.length<=L)(h:∀d∈xs,Th k L d):Th (k+1) L (.tup xs):=⟨hl,h⟩
theorem Th.lst_of {k L:Nat}{xs:List D}(hl:xs.length<=L)(h:∀d∈xs,Th k L d):Th (k+1) L (.lst xs):=⟨hl,h⟩
def oA (c:Call):GS:=#[84]
section
variable {P:Nat->Option Df}(hp_:HasP P)(ht_:HasT P)(hw_:iT P){M:Mem}
include hp_ ht_ hw_
theorem Ai (n:Nat){k L p B kind pick:Nat}{d:D}{x2 x5 x6 x8:Option D}(hd:Th k L d)(hk:k<=50)(h6:6<=L)(hL:L<=50)(hp:aH M p B)(hB:B<=800000)(hpk:pick<20) :
 ai (oA (ak P (n+5)) [some (.cell p),some d,x2,some (nD kind),some (nD pick),x5,x6,some (.lst eU),x8] M) #[98]:=by
 have fin:ai (ag (aK (aF (ae 7) (ae 4))) aj [some (.cell p),some d,x2,some (nD kind),some (nD pick),x5,x6,some (.lst eU),x8] M) #[98]:=by
  have hl:pick<eU.length:=hpk
  exact cD (v:=eU[pick]) (ax (by simp [-vS,nj hl])) ⟨(zk (Nz hl)).mono #[0] #[0],hp.mono #[0],.refl⟩
 unfold oA
 cases d with
 |fn j=>exact absurd hd (by cases k<;>exact id)
 |exc y p=>exact absurd hd (by cases k<;>exact id)
 | str z =>
   have hz:gJ L z:=by cases k<;>exact hd
   by_cases c:(kind:Int)<3
   ·simp only [aC,jb,IU,eK,uE,aU,fT,cS,MU,Nb,Nk,Ni,exists_eq_left',cj,eR,aY,bo]
    refine ⟨true,rfl,true,rfl,?_⟩
    rw [if_pos rfl]
    refine ⟨_,rfl,_,rfl,?_⟩
    rw [decide_eq_true c,if_pos rfl]
    exact aG (yG hp_ ht_ n hz #[0] hp hB) fun d' M' ⟨z',e,h1,h2,h3⟩=>⟨by rw [e];exact h1.th.mono (My _) (My _),h2,h3⟩
   ·refine aE (aM ?_) fin
    simp [bN]
    omega
 |_=>exact aE rfl fin
omit hp_ ht_ hw_ in
theorem rk {k:Fl->Mem->Prop}{rest:GS}{M:Mem}{x0 x1 x2 x3 x4 x5 x6 x7 x8:Option D}(hk:ai (rest [x0,x1,x2,x3,x4,x5,x6,some (.lst eU),x8] M) k) :
 ai (ag (aJ (.one 7) #[9]) (ag (aJ (.one 7) #[23]) rest) [x0,x1,x2,x3,x4,x5,x6,x7,x8] M) k:=by
 simp only [aC,fk]
 have e:(#[9]:GE) [x0,x1,x2,x3,x4,x5,x6,x7,x8] M=.ok (.lst (eU.take 14)) M:=by rfl
 rw [e]
 show ai (ag _ rest [x0,x1,x2,x3,x4,x5,x6,some (.lst (eU.take 14)),x8] M) k
 simp only [aC,fk]
 have e2:(#[23]:GE) [x0,x1,x2,x3,x4,x5,x6,some (.lst (eU.take 14)),x8] M=.ok (.lst eU) M:=by rfl
 rw [e2]
 exact hk
def jK (c:Call):GS:=ag #[11] (ag #[21] (oA c))
theorem Cq (n:Nat){k L p B kind pick:Nat}{num:Int}{d:D}{x2 x6 x8:Option D}(hd:Th k L d)(hk:k<=50)(h6:6<=L)(hL:L<=50)(hp:aH M p B)(hB:B<=800000)(hkd:kind<8)(hpk:pick<20) :
 ai (jK (ak P (n+5)) [some (.cell p),some d,x2,some (nD kind),some (nD pick),some (.int num),x6,some (.lst eU),x8] M) #[98]:=by
 have hl:pick<eU.length:=hpk
 have ho:Th (k+1) (L+1) eU[pick]:=(zk (Nz hl)).mono #[0] #[0]
 have pick8:∀{xs:List D},xs.length=8->(∀x∈xs,Th (k+1) (L+1) x)->∃x,cu (.lst xs) (nD kind) M=some x/\Th (k+1) (L+1) x:=fun {xs} h8 h=>⟨_,nj #[0],h _ (Nz _)⟩
 unfold jK
 have tail:=Ai hp_ ht_ hw_ n (x2:=x2) (x5:=some (.int num)) (x6:=x6) (x8:=x8) (kind:=kind) hd hk h6 hL hp hB hpk
 cases d with
 |fn j=>exact absurd hd (by cases k<;>exact id)
 |exc y p=>exact absurd hd (by cases k<;>exact id)
 | tup xs =>
   refine ig (aM (by simp [bN])) ?_
   simp only [aC,fk,cj,jz,aY,bo,aU,dM,dz,nv,gE,Dg,JL,cS,fA,MU,Nb,Nk,Ni,exists_eq_left',Og,Oh]
   have hx:=hd.tup
   have hxl:=hx.1
   have hx1:∀d∈xs,Th k (L+1) d:=fun d hd=>(hx.2 d hd).mono (My _) #[0]
   have up:∀{ys:List D},ys.length<=L+1->(∀d∈ys,d∈xs\/Th k (L+1) d)->Th (k+1) (L+1) (.tup ys):=fun {ys} hl h=>.tup_of hl fun d hd=>by
    rcases h d hd with z|z
    ·exact hx1 d z
    ·exact z
   refine ui.mpr (bD.mpr ⟨av #[0],rfl,rfl,Ja fun ys y1 y2=>?_⟩)
   refine lj.mpr ⟨av #[7],1,rfl,rfl,rfl,vq (hl:=false) (hh:=true) rfl rfl fun i2 j2=>Ek.mpr ⟨av (by simp),lj.mpr ⟨av #[7],rfl,rfl,vq (hl:=true) (hh:=false) rfl rfl fun i3 j3=>⟨av (by simp),bD.mpr ⟨av (by simp),?_⟩⟩⟩⟩⟩
   obtain ⟨x,e1,e2⟩:=pick8 (xs:=[.lst xs,.tup (xs++ys),.tup (cut xs i2 j2),.tup xs.reverse,.tup (xs++[.int num]),.tup (cut xs i3 j3),.tup [.tup xs]]++[eU[pick]]) rfl (fun x hx'=>by
    simp only [Of,NW,Mz,MK,or_false] at hx'
    rcases hx' with rfl|rfl|rfl|rfl|rfl|rfl|rfl|rfl
    ·exact .lst_of #[0] hx1
    ·exact up #[7] fun d hd=>(Nh.mp hd).elim .inl fun z=>.inl (y2 d z)
    ·exact up (MF jJ.1 #[0]) fun d hd=>.inl (jJ.2.2 d hd)
    ·exact up #[7] fun d hd=>.inl (List.mem_reverse.mp hd)
    ·exact up #[7] fun d hd=>by
      rcases Nh.mp hd with z|z
      ·exact .inl z
      ·rw [Nc.mp z];exact .inr (by cases k<;>trivial)
    ·exact up (MF jJ.1 #[0]) fun d hd=>.inl (jJ.2.2 d hd)
    ·exact .tup_of (by simp) fun d hd'=>by rw [Nc.mp hd'];exact hd.mono (My _) #[0]
    ·exact ho)
   refine cD (v:=x) (ax ?_) ⟨e2,hp.mono #[0],.refl⟩
   simp only [fA,dz,aU,jz,aY,bo]
   exact ⟨_,rfl,_,rfl,_,rfl,_,nj hl,bD.mpr ⟨av (by simp),mP.mpr (bD.mpr ⟨av (by simp),_,rfl,x,e1,rfl,rfl⟩)⟩⟩
 | int i =>
   have qw:=ka hw_ (n+4) (M:=M) hd
   refine aE (aM (by simp [bN])) (ig (aM (by simp [qw,oP])) ?_)
   simp only [aC,cj,jz,aY,bo,aU,dz,cS,fA,fT,MU,Nb,Nk,Ni,exists_eq_left',fK,mi]
   refine ⟨_,rfl,_,nj hl,bD.mpr ⟨av (by simp),?_⟩⟩
   obtain ⟨x,e1,e2⟩:=pick8 (xs:=[.int (i+1),.int (i-1),.int (0-i),.int num,.int num,.bl (i==1),.int (3-i),eU[pick]]) rfl (fun x hx=>by
    simp only [Mz,MK,or_false] at hx
    rcases hx with rfl|rfl|rfl|rfl|rfl|rfl|rfl|rfl
    all_goals first|exact ho|trivial)
   exact ⟨x,e1,e2,hp.mono #[0],.refl⟩
 | _ =>
   have qw:=ka hw_ (n+4) (M:=M) hd
   exact aE (aM (by simp [bN])) (aE (aM (by simp [qw,oP])) tail)
omit hp_ ht_ hw_ in
theorem BK {k L:Nat}{xs:List D}(h:Th k L (.tup xs))(hk:k<=60):bx .ne (.tup xs) (.tup []) M=some (!xs.isEmpty):=by
 refine iM (h.mono (n':=64) #[0] (My L)).pure rfl ?_
 cases xs<;>rfl
theorem rW (n deep:Nat){k L p B:Nat}{d:D}(hd:Th k L d)(hk:k<=50)(h6:6<=L)(hL:L<=50)(hp:aH M p B)(hB:B<=700000)
 (ih:0<deep->∀{k' B':Nat}{d':D}{M':Mem},Th k' L d'->k'<=50->aH M' p B'->B'<=B+4->ai (ak P (n+deep+5) 72 [.cell p,d',.int ((deep:Int)-1)] M') fun e M''=>Th (k'+1) (L+1) e/\aH M'' p (B'+6*deep)/\aZ p M' M'') :
 ai (ak P (n+deep+6) 72 [.cell p,d,nD deep] M) fun d' M'=>Th (k+1) (L+1) d'/\aH M' p (B+6*(deep+1))/\aZ p M M':=by
 refine ay ht_.bent rfl ?_
 show ai (ag _ (ag _ (ag _ (ag (aR _ _ aj) (ag _ (ag _ (jK (ak P (n+deep+5)))))))) [some (.cell p),some d,some (nD deep),none,none,none,none,none,none] M) _
 simp only [aC,fk,d3,eR,aY,bo,cS,aU,dz,MU,Nb,Nk,Ni,exists_eq_left',Og,Oh]
 refine tk hp_ (n+deep+3) (many:=8) hp #[0] #[1] #[1] fun kind M1 hkd q1 k1=>?_
 refine tk hp_ (n+deep+3) (many:=20) q1 #[0] #[1] #[1] fun pick M2 hpk q2 k2=>?_
 refine tk hp_ (n+deep+3) (many:=9) q2 #[0] #[1] #[1] fun num M3 hnm q3 k3=>?_
 rw [mi]
 have K3:=#[324].trans k3
 have mid:ai (ag _ (ag _ (jK (ak P (n+deep+5)))) [some (.cell p),some d,some (nD deep),some (nD kind),some (nD pick),some (.int ((num:Int)-2)),none,none,none] M3) (iK fun d' M'=>Th (k+1) (L+1) d'/\aH M' p (B+6*(deep+1))/\aZ p M M'):=
  rk (aG (Cq hp_ ht_ hw_ (n+deep) hd hk h6 hL q3 #[0] hkd hpk) fun fl M' hf=>by
   cases fl with
   |next Z=>exact ⟨hf.1,hf.2.1.mono #[0],K3.trans hf.2.2⟩
   |ret e=>exact ⟨hf.1,hf.2.1.mono #[0],K3.trans hf.2.2⟩
   |exc x Z=>exact hf.elim)
 refine aC.mp ?_
 cases d with
 |fn j=>exact absurd hd (by cases k<;>exact id)
 |exc y p=>exact absurd hd (by cases k<;>exact id)
 | tup xs =>
   have ne:=BK (M:=M3) hd #[0]
   by_cases hc:xs≠[]/\0<deep/\4<pick
   ·obtain ⟨c1,c2,c3⟩:=hc
    have lx:0<xs.length:=Pn.mpr c1
    have ei:xs.isEmpty=false:=by cases xs with|nil=>exact absurd rfl c1|cons _ _=>rfl
    rw [ei] at ne
    refine ig (aM (by simp [bN,ne];omega)) ?_
    have hx:=hd.tup
    have hxl:=hx.1
    cases k with
    |zero=>exact hd.elim
    | succ k' =>
      have hx':∀d∈xs,Th k' L d:=hd.2
      simp only [aC,fk,cj,d3,gE,fA,nv,eR,aY,bo,cS,aU,dz,dM,MU,Nb,Nk,Ni,exists_eq_left',Og,Oh,kZ,fK,mi]
      refine tk hp_ (n+deep+3) q3 #[0] lx #[0] fun at_ M4 hat q4 k4=>?_
      refine ⟨rfl,rfl,F6 hat ?_⟩
      refine ⟨xs[at_],?_,?_⟩
      ·show (bB xs.length (at_:Int)).bind (fun j=>xs[j]?)=_
       rw [eQ hat];simp [hat]
      refine aG (ih c2 (hx' _ (Nz hat)) #[0] q4 #[0]) fun e M5 ⟨he,q5,k5⟩=>?_
      refine ⟨av (by simp),lj.mpr ⟨av #[7],rfl,rfl,Bl hat ?_⟩⟩
      refine lj.mpr ⟨av #[7],.tup_of #[7] fun d hd=>?_,q5.mono #[0],(K3.trans k4).trans k5⟩
      rcases Nh.mp hd with z|z
      ·rcases Nh.mp z with z|z
       ·exact (hx' d (Nw z)).mono #[0] #[0]
       ·rw [Nc.mp z];exact he
      ·exact (hx' d (N9 z)).mono #[0] #[0]
   ·refine aE (aM ?_) mid
    simp [bN,ne]
    by_cases e0:xs=[]
    ·simp [e0]
    ·right
     refine ⟨e0,?_⟩
     have hc':¬ (0<deep/\4<pick):=fun z=>hc ⟨e0,z⟩
     omega
 |_=>exact aE (aM (by simp [bN])) mid
theorem vo:∀(deep n:Nat) {k L p B:Nat}{d:D}{M:Mem},deep<=9->Th k L d->k<=50->6<=L->L<=50->aH M p B->B+10*deep<=700000->
 ai (ak P (n+deep+6) 72 [.cell p,d,nD deep] M) fun d' M'=>Th (k+1) (L+1) d'/\aH M' p (B+6*(deep+1))/\aZ p M M'
 |0,n,k,L,p,B,d,M,h9,hd,hk,h6,hL,hp,hB=>rW hp_ ht_ hw_ n 0 hd hk h6 hL hp #[0] (fun z=>absurd z #[1])
 |deep+1,n,k,L,p,B,d,M,h9,hd,hk,h6,hL,hp,hB=>rW hp_ ht_ hw_ n (deep+1) hd hk h6 hL hp #[0] (fun _ {k' B' d' M'} h1 h2 h3 h4=>by
  rw [show (((deep+1:Nat):Int)-1)=(deep:Int) by omega]
  exact vo deep n #[0] h1 h2 h6 hL h3 #[0])
end
end LD
namespace LD
open PySem
section
variable {P:Nat->Option Df}{M:Mem}{k L:Nat}{d:D}
theorem lO (h:xU P)(h13:P 13=some ⟨1,1,dD⟩)(n:Nat)(hd:Th k L d)(hL:L<=100)(hb:eP d=true):ak P (n+8) 13 [d] M=.ok .non M:=by
 refine ax (ay h13 rfl ?_)
 simp [dD,nY h n hd hL,hb]
theorem rA (h:xU P)(h13:P 13=some ⟨1,1,dD⟩)(n:Nat)(hd:Th k L d)(hL:L<=100)(hb:eP d=false):ak P (n+8) 13 [d] M=.err (.exc 3 none) M:=by
 refine fw (fC h13 rfl ?_)
 simp [dD,nY h n hd hL,hb]
 decide
end
section
variable {P:Nat->Option Df}(h:nJ P){M:Mem}
include h
theorem qW (n:Nat){z:Str}(hz:aA 64 (.str z)=true):ak P (n+1) 40 [.str z,.str z] M=.ok #[170] M:=by
 refine ax (ay h.same rfl ?_)
 have e:bx .eq (.str z) (.str z) M=some true:=nE hz hz (by simp [view,bq])
 show ai (d8 (ak P n) [some (.str z),some (.str z)] M) _
 unfold d8
 refine aE rfl (aE rfl (aE rfl (bA rfl (v:=.bl true) ?_ ⟨rfl,rfl⟩)))
 show ((cV M (bx .eq (.str z) (.str z) M)).bind fun b M=>Res.ok (D.bl b) M)=_
 rw [e];rfl
end
end LD
namespace LD
open PySem
def oy (i:Int):List D:=[.exc 0 (some i),.exc 1 (some i),.exc 2 (some i),.exc 3 none,.exc 4 none,.exc 5 none,.exc 6 none,.exc 7 none,.exc 8 none,.exc 9 none,.exc 10 none,.exc 11 none,.exc 12 none,.exc 13 none]
def n8:D->D
 |.exc 0 (some i)=>.lst [.str "row",.int i]
 |.exc 1 (some i)=>.lst [.str "rule",.int i]
 |.exc 2 (some i)=>.lst [.str "step",.int i]
 |.exc 3 _=>.lst [.str "machine"]
 |.exc 4 _=>.lst [.str "long"]
 |.exc 5 _=>.lst [.str "word"]
 |.exc 6 _=>.lst [.str "work"]
 |.exc 7 _=>.lst [.str "bound"]
 |.exc 8 _=>.lst [.str "many"]
 |.exc 9 _=>.lst [.str "place"]
 |.exc 10 _=>.lst [.str "deed"]
 |.exc 11 _=>.lst [.str "nothing"]
 |.exc 12 _=>.lst [.str "text"]
 |.exc 13 _=>.lst [.str "line"]
 |_=>.non
theorem qK {f:Str}{c j:Nat}{i:Int}{Z:Env}{M:Mem}(h:Z[j]?.getD none=some (.exc c (some i)))(e:fO c=f):jZ f (ae j) Z M=.ok (.int i) M:=by
 unfold jZ ae
 rw [h]
 show (if fO c=f then Res.ok (D.int i) M else .bad)=_
 rw [if_pos e]
theorem xh {x:D}{a:GE}{Z:Env}{M:Mem}{y:D}(e:a Z M=.ok y M):aP false (aa (gC x) (aa a ah)) Z M=.ok (.lst [x,y]) M:=by
 exact kY (az rfl (az e rfl)) (Nl rfl)
section
variable {P:Nat->Option Df}(h75:P 75=some ⟨1,3,d9⟩){M:Mem}
include h75
theorem wD (n:Nat){i:Int}{d:D}(hd:d∈oy i):ak P (n+1) 75 [d] M=.ok (n8 d) M:=by
 refine ax (ay h75 rfl ?_)
 show ai (d9 (ak P n) [some d,none,none] M) _
 simp only [oy,Mz,MK,or_false] at hd
 rcases hd with rfl|rfl|rfl|rfl|rfl|rfl|rfl|rfl|rfl|rfl|rfl|rfl|rfl|rfl
 ·exact cg rfl (cg rfl (cg rfl (cg rfl (cg rfl #[153]))))
 ·exact cg rfl (cg rfl (cg rfl (cg rfl (cg rfl (aE rfl #[153])))))
 ·exact cg rfl (cg rfl (cg rfl (cg rfl (cg rfl (aE rfl (aE rfl #[153]))))))
 all_goals exact cU (by rfl)
end
section
variable {P:Nat->Option Df}(h:nJ P){M:Mem}
include h
theorem lI (n:Nat){ds:List D}(hz:ds.length<=sz)(hs:∀d∈ds,ak P n 40 [d,d] M=.ok #[170] M):ak P (n+1) 40 [.lst ds,.lst ds] M=.ok #[170] M:=by
 refine ax (ay h.same rfl ?_)
 show ai (d8 (ak P n) [some (.lst ds),some (.lst ds)] M) _
 unfold d8
 exact aE rfl (aE rfl (aE rfl (aE rfl (aE rfl (Bp h n rfl rfl rfl rfl rfl rfl hz hs)))))
theorem yH (n:Nat)(i:Int):ak P (n+1) 40 [.int i,.int i] M=.ok #[170] M:=by
 refine ax (ay h.same rfl ?_)
 show ai (d8 (ak P n) [some (.int i),some (.int i)] M) _
 unfold d8
 exact aE rfl (aE rfl (bA rfl (v:=.bl (i==i)) rfl ⟨by simp,rfl⟩))
end
end LD
namespace LD
open PySem
@[simp] theorem mj {Z:Env}{M:Mem}{a:GE}{kf:Fl->Mem->Prop}{c:Nat}:ai (gU c a Z M) kf↔ai (a Z M) fun x M=>∃i,x=.int i/\i.natAbs<2^64/\kf (.exc (.exc c (some i)) Z) M:=by
 unfold gU
 cases a Z M with
 | ok x M1 =>
   cases x with
   |int i=>by_cases h:i.natAbs<2^64<;>simp [h]
   |_=>simp
 |err=>exact NG
 |bad=>exact NG
abbrev kz (m:aV):D->Bool:=a9 0 ((m.deeds.length:Int)-1)
section
variable {P:Nat->Option Df}(h:HasM0 P){M:Mem}{k L:Nat}{d:D}
include h
theorem tH (n:Nat){m:aV}(hd:Th k L d):ak P (n+2) 16 [m.d,d] M=.ok (.bl (kz m d)) M:=by
 refine ax (ay h.is_deed_number rfl ?_)
 simp [fE,aV.d,bB,jF h.q _ hd]
theorem ET (n:Nat){m:aV}{ds:List D}(hd:∀d∈ds,Th k L d)(hg:∀d∈ds,kz m d=true):ak P (n+3) 17 [m.d,.lst ds] M=.ok .non M:=by
 refine ax (ay h.need_numbers rfl ?_)
 show ai (cF #[182] [some m.d,some (.lst ds),none,none] M) _
 unfold cF
 refine aE rfl ?_
 simp only [aC,dU,hG,aU]
 refine ⟨_,rfl,rfl,?_⟩
 refine cz (ds:=cf 0 ds) #[305] #[212] ⟨rfl,none,none,rfl⟩ ?_ ?_
 ·rintro i e Z M' he ⟨rfl,a,b,rfl⟩
  rw [cQ] at he
  obtain ⟨x,hx,rfl⟩:=MZ.mp he
  have hm:=MO hx
  refine ⟨_,rfl,aE (aM ?_) ⟨_,rfl,rfl,_,_,rfl⟩⟩
  simp [tH h n (hd x hm),hg x hm]
 ·rintro Z M' ⟨rfl,a,b,rfl⟩
  exact ⟨rfl,rfl⟩
theorem BI (n:Nat){m:aV}{ds:List D}{i:Nat}{x:D}(hd:∀d∈ds,Th k L d)(hx:ds[i]?=some x)(hb:kz m x=false)(hg:∀j y,j<i->ds[j]?=some y->kz m y=true)(hi:i<1000000):ak P (n+3) 17 [m.d,.lst ds] M=.err (.exc 0 #[343]) M:=by
 refine fw (fC h.need_numbers rfl ?_)
 show ai (cF #[182] [some m.d,some (.lst ds),none,none] M) _
 unfold cF
 refine aE rfl ?_
 simp only [aC,dU,hG,aU]
 refine ⟨_,rfl,rfl,?_⟩
 refine fx (ds:=cf 0 ds) (fun j fl M'=>M'=M/\(#[128]\/(i<j/\∃Z,fl=.exc (.exc 0 #[343]) Z))) #[212] ⟨rfl,.inl ⟨Oq _,none,none,rfl⟩⟩ ?_ ?_
 ·rintro j e fl M' he ⟨rfl,hj⟩
  rw [cQ] at he
  obtain ⟨y,hy,rfl⟩:=MZ.mp he
  rcases hj with ⟨hj,a,b,rfl⟩|⟨hj,Z,rfl⟩
  ·show ai #[233] _
   rw [Ow]
   have e:=tH h n (m:=m) (M:=M') (hd y (MO hy))
   by_cases c:j=i
   ·subst c
    rw [hx] at hy;cases hy
    rw [hb] at e
    refine ig (aM (by simp [e])) ?_
    simp only [aC,mj,aU]
    exact ⟨_,rfl,_,rfl,by omega,rfl,.inr ⟨Nat.lt_succ_self _,_,rfl⟩⟩
   ·rw [hg j y #[0] hy] at e
    exact aE (aM (by simp [e])) ⟨rfl,.inl ⟨by omega,_,_,rfl⟩⟩
  ·exact ⟨rfl,.inr ⟨by omega,_,rfl⟩⟩
 ·rintro fl M' ⟨rfl,hj⟩
  have hlt:=(Mw.mp hx).1
  have:(cf 0 ds).length=ds.length:=eE ds 0
  rcases hj with ⟨hj,_⟩|⟨_,Z,rfl⟩
  ·omega
  ·exact ⟨rfl,rfl⟩
theorem BH (n:Nat){m:aV}(hd:bN .list d=some false):ak P (n+3) 17 [m.d,d] M=.err (.exc 0 (some 0)) M:=by
 refine fw (fC h.need_numbers rfl ?_)
 show ai (cF #[182] [some m.d,some d,none,none] M) _
 unfold cF
 refine ig (aM (by simp [hd])) ?_
 simp only [aC,mj,cS]
 exact ⟨0,rfl,by decide,rfl,rfl⟩
theorem Lc (n:Nat){r:D}(hd:Th k L d)(hL:L<=100)(hb:eP d=false):ak P (n+9) 18 [d,r] M=.err (.exc 3 none) M:=by
 refine fw (fC h.need_row rfl ?_)
 show ai (dY (ak P (n+8)) [some d,some r] M) _
 unfold dY
 simp only [aC,hV,fi,aY,bo,aU]
 refine ⟨_,rfl,?_⟩
 rw [rA h.q h.need_machine n hd hL hb]
 exact ⟨rfl,rfl⟩
theorem tO (n:Nat){m:aV}{r:D}{x:D}(hm:bh m)(e:ak P (n+8) 17 [m.d,r] M=.err x M):ak P (n+9) 18 [m.d,r] M=.err x M:=by
 refine fw (fC h.need_row rfl ?_)
 show ai (dY (ak P (n+8)) [some m.d,some r] M) _
 unfold dY
 simp only [aC,hV,fi,aY,bo,aU]
 refine ⟨_,rfl,?_⟩
 rw [lO h.q h.need_machine n (fN hm) #[1] (fv hm)]
 show ai (ag _ _ [some m.d,some r] M) _
 simp only [aC,hV,fi,aY,bo,aU]
 refine ⟨_,rfl,_,rfl,?_⟩
 rw [e]
 exact ⟨rfl,rfl⟩
theorem Bs (n:Nat){m:aV}{ds:List D}(hm:bh m)(e:ak P (n+8) 17 [m.d,.lst ds] M=.ok .non M)(hl:40<ds.length):ak P (n+9) 18 [m.d,.lst ds] M=.err (.exc 4 none) M:=by
 refine fw (fC h.need_row rfl ?_)
 show ai (dY (ak P (n+8)) [some m.d,some (.lst ds)] M) _
 unfold dY
 simp only [aC,hV,fi,aY,bo,aU]
 refine ⟨_,rfl,?_⟩
 rw [lO h.q h.need_machine n (fN hm) #[1] (fv hm)]
 show ai (ag _ _ [some m.d,some (.lst ds)] M) _
 simp only [aC,hV,fi,aY,bo,aU]
 refine ⟨_,rfl,_,rfl,?_⟩
 rw [e]
 refine ig (aM ?_) ?_
 ·simp only [eK,fT,dM,aY,bo,aU,cS]
  refine ⟨_,rfl,_,rfl,_,rfl,?_,rfl⟩
  exact decide_eq_true #[0]
 ·exact ⟨rfl,rfl⟩
end
end LD
namespace LD
open PySem
section
variable {Z:Env}{M:Mem}{kf:Fl->Mem->Prop}{rest gb:GS}{a:GE}{s:GA}
theorem ne_self {z:Str}(hz:aA 64 (.str z)=true):bx .ne (.str z) (.str z) M=some false:=iM (v:=true) (x:=.str z) (y:=.str z) hz hz (by simp [view,bq])
theorem Mb {c:Call}{f:Nat}{xs:List D}{z:Str}(hz:aA 64 (.str z)=true)(es:s Z M=.ok xs M)(ec:c f xs M=.ok (.str z) M):(aw (aL .ne (aq f c s) (gC (.str z))):GT) Z M=.ok false M:=by
 refine aM ?_
 simp only [eK,fT,cS]
 rw [bH es,ec,dW]
 exact ⟨_,ne_self hz,false,rfl,rfl,rfl⟩
theorem pY {b:GE}{x y:D}(e1:a Z M=.ok x M)(e2:b Z M=.ok y M):bL (aa a (aa b ah)) Z M=.ok (.tup [x,y]) M:=by
 unfold bL
 rw [az e1 (az e2 rfl)]
 exact (if_pos (av (n:=2) #[1]):(if 2<=sz then Res.ok (D.tup [x,y]) M else .bad)=_)
theorem wC {j l:Nat}{xs:List D}{v:Nat}(h1:Z[j]?.getD none=some (.lst xs))(h2:Z[l]?.getD none=some (nD v))(hz:xs.length<=100):cv false false true (ae j) gN (ae l) Z M=.ok (.lst (xs.take v)) M:=by
 refine ax ?_
 simp only [nv,aU,cS]
 exact ⟨_,h1,_,h2,rfl,rfl,Ec.mpr ⟨av #[7],rfl,rfl⟩⟩
theorem qy {j l:Nat}{xs:List D}{v:Nat}(h1:Z[j]?.getD none=some (.lst xs))(h2:Z[l]?.getD none=some (nD v))(hz:xs.length<=100):cv false true false (ae j) (ae l) gN Z M=.ok (.lst (xs.drop v)) M:=by
 refine ax ?_
 simp only [nv,aU,cS]
 exact ⟨_,h1,_,h2,rfl,rfl,Bn.mpr ⟨av #[7],rfl,rfl⟩⟩
end
theorem BJ {m:aV}{i:Nat}(hi:i<m.deeds.length):kz m (nD i)=true:=by
 show (decide ((0:Int)<=(i:Int))&&decide ((i:Int)<=(m.deeds.length:Int)-1))=true
 rw [decide_eq_true #[0],decide_eq_true #[0]];rfl
def zeros (n:Nat):List D:=List.replicate n (.int 0)
end LD
namespace LD
open PySem
structure Good (b:Nat) (x:D):Prop where
 sh:(toPy x).showable=true
 short:PyData.leavesShort 40 (toPy x)=true
 bulk:(toPy x).bulk<=b
def xx (b:Nat)(x:D):Bool:=(toPy x).showable&&(PyData.leavesShort 40 (toPy x)&&decide ((toPy x).bulk<=b))
theorem BX {b:Nat}{x:D}(h:xx b x=true):Good b x:=by
 unfold xx at h
 rw [Ms,Ms] at h
 exact ⟨h.1,h.2.1,of_decide_eq_true h.2.2⟩
theorem ot {b:Nat}:∀{ds:List D},(∀d∈ds,Good b d)->PyData.showableAll (bF ds)=true/\PyData.leavesShortAll 40 (bF ds)=true/\PyData.bulkAll (bF ds)<=(b+1)*ds.length
 |[],_=>⟨rfl,rfl,Oq _⟩
 | d :: r, h => by
   obtain ⟨a2,a3,a4⟩:=ot (ds:=r) fun x hx=>h x (ME _ hx)
   obtain ⟨b2,b3,b4⟩:=h d MM
   refine ⟨?_,?_,?_⟩
   ·show PyData.showableAll (toPy d::bF r)=true
    rw [PyData.showableAll,b2,a2];rfl
   ·show PyData.leavesShortAll 40 (toPy d::bF r)=true
    rw [PyData.leavesShortAll,b3,a3];rfl
   ·show PyData.bulkAll (toPy d::bF r)<=_
    rw [PyData.bulkAll,O4,Nat.mul_succ];omega
theorem Good.lst {b:Nat}{ds:List D}(h:∀d∈ds,Good b d):Good ((b+1)*ds.length) (.lst ds):=by
 obtain ⟨a2,a3,a4⟩:=ot h
 refine ⟨?_,?_,?_⟩
 ·show PyData.showable (.list (bF ds))=true
  rw [PyData.showable];exact a2
 ·show PyData.leavesShort 40 (.list (bF ds))=true
  rw [PyData.leavesShort];exact a3
 ·show PyData.bulk (.list (bF ds))<=_
  rw [PyData.bulk];exact a4
theorem Good.tup {b:Nat}{ds:List D}(h:∀d∈ds,Good b d):Good ((b+1)*ds.length) (.tup ds):=by
 obtain ⟨a2,a3,a4⟩:=ot h
 refine ⟨?_,?_,?_⟩
 ·show PyData.showable (.tuple (bF ds))=true
  rw [PyData.showable];exact a2
 ·show PyData.leavesShort 40 (.tuple (bF ds))=true
  rw [PyData.leavesShort];exact a3
 ·show PyData.bulk (.tuple (bF ds))<=_
  rw [PyData.bulk];exact a4
theorem Good.mono {b b':Nat}{x:D}(h:Good b x)(hb:b<=b'):Good b' x:=⟨h.sh,h.short,MF h.bulk hb⟩
def pW (x:D):D:=.str (toPy x).shown
theorem vA {s:GA}{Z:Env}{M:Mem}{k L b:Nat}{x:D}(es:s Z M=.ok [x] M)(ht:Th k L x)(hk:k<=64)(hg:Good b x)(hb:b<=100000):iq s Z M=.ok (pW x) M:=by
 have pu:aA 64 x=true:=(ht.mono hk (My _)).pure
 have vw:=oQ M 64 64 x pu
 have hs:m8 M x=true:=by
  unfold m8 hU
  rw [vw,pu,hg.sh,Bool.true_and,Bool.true_and]
  refine decide_eq_true ?_
  have h1:=PyData.shown_le_bulk 40 #[1] (toPy x) hg.short
  have h2:=hg.bulk
  show _<=2^24
  omega
 unfold iq
 rw [es]
 show (if m8 M x=true then Res.ok (D.str (hU M x)) M else .bad)=_
 rw [if_pos hs]
 unfold hU pW
 rw [vw]
theorem Hk {x:D}{M:Mem}:bx .ne (pW x) (pW x) M=some false:=by
 show (la M (.str _) (.str _)).map (!·)=_
 rw [qB]
 simp
def gy (m:aV):D->D
 | .lst ds => match ds.findIdx? fun d => !kz m d with
   |some i=>.exc 0 #[343]
   |none=>if 40<ds.length then .exc 4 none else .non
 |_=>.exc 0 (some 0)
theorem uc {m:aV}:∀{ds:List D},(∀d∈ds,kz m d=true)->∃r:List Nat,ds=r.map nD/\∀i∈r,i<m.deeds.length
 |[],_=>⟨[],rfl,fun _ h=>nomatch h⟩
 | d :: ds, h => by
   obtain ⟨r,rfl,hr⟩:=uc (ds:=ds) fun x hx=>h x (ME _ hx)
   have hd:=h d MM
   cases d with
   | int i =>
     have hd:(decide ((0:Int)<=i)&&decide (i<=(m.deeds.length:Int)-1))=true:=hd
     rw [Ms,decide_eq_true_eq,decide_eq_true_eq] at hd
     refine ⟨i.toNat::r,?_,fun j hj=>?_⟩
     ·show _=nD i.toNat::r.map nD
      rw [show nD i.toNat=D.int i by show D.int (i.toNat:Int)=_;rw [Oz hd.1]]
     ·rcases Mz.mp hj with rfl|hj
      ·omega
      ·exact hr j hj
   |_=>cases hd
inductive cH (m:aV):D->D->Prop
 |ok (r:List Nat) (h:dP m r):cH m (bI r) .non
 |long (ds:List D) (h:∀d∈ds,kz m d=true) (hl:40<ds.length):cH m (.lst ds) (.exc 4 none)
 |bad (ds:List D) (i:Nat) (x:D) (hx:ds[i]?=some x) (hb:kz m x=false) (hg:∀j y,j<i->ds[j]?=some y->kz m y=true):cH m (.lst ds) (.exc 0 #[343])
 |not (x:D) (h:bN .list x=some false):cH m x (.exc 0 (some 0))
theorem jR {m:aV}{k L:Nat}{x:D}(hx:Th k L x):cH m x (gy m x):=by
 cases x with
 | lst ds =>
   show cH m _ (match ds.findIdx? fun d=>!kz m d with|some i=>D.exc 0 #[343]|none=>if 40<ds.length then .exc 4 none else .non)
   cases e:ds.findIdx? fun d=>!kz m d with
   | some i =>
     obtain ⟨hi,h1,h2⟩:=Px.mp e
     refine .bad ds i ds[i] (NA hi) (by simpa using h1) fun j y hj hy=>?_
     obtain ⟨hj',rfl⟩:=Mw.mp hy
     simpa using h2 j hj
   | none =>
     have h1:=List.findIdx?_eq_none_iff.mp e
     have h2:∀d∈ds,kz m d=true:=fun d hd=>by simpa using h1 d hd
     show cH m _ (if 40<ds.length then D.exc 4 none else .non)
     by_cases c:40<ds.length
     ·rw [if_pos c];exact .long ds h2 c
     ·rw [if_neg c]
      obtain ⟨r,rfl,hr⟩:=uc h2
      exact .ok r ⟨by simpa using c,hr⟩
 |frz ds=>cases k<;>exact hx.elim
 |cell j=>cases k<;>exact hx.elim
 |fn j=>cases k<;>exact hx.elim
 |exc y p=>cases k<;>exact hx.elim
 |_=>exact .not _ rfl
def isOk:D->Bool
 |.non=>true
 |_=>false
section
variable {P:Nat->Option Df}(h:HasM0 P){M:Mem}{m:aV}{k L:Nat}
include h
theorem ql (n:Nat){x:D}(hm:bh m)(hv:cH m x .non):ak P (n+9) 18 [m.d,x] M=.ok .non M:=by
 cases hv with
 |ok r hr=>exact F2 h n hm hr
theorem om (n:Nat){x v:D}(hm:bh m)(hx:Th (k+1) L x)(hL:L<=900000)(hv:cH m x v)(hn:v≠.non):ak P (n+9) 18 [m.d,x] M=.err v M:=by
 cases hv with
 |ok r hr=>exact absurd rfl hn
 |long ds hg hl=>exact Bs h n hm (ET h (n+5) hx.2 hg) hl
 | bad ds i y hy hb hg =>
   have:=(Mw.mp hy).1
   have:=hx.1
   exact tO h n hm (BI h (n+5) hx.2 hy hb hg #[0])
 |not x hi=>exact tO h n hm (BH h (n+5) hi)
end
theorem F0 {m:aV}{Z:Env}{M:Mem}{j:Nat}(e:Z[j]?.getD none=some m.d):au false .sub (a8 .len (aa (aF (ae j) (gI 2)) ah)) (gI 1) Z M=.ok (.int ((m.deeds.length:Int)-1)) M:=by
 refine ax ?_
 simp only [dz,dM,aY,bo,fA,aU,cS]
 refine ⟨_,e,.tup #[80],rfl,kZ.mpr (mi.mpr ⟨?_,rfl⟩)⟩
 rw [MN]
theorem lS {ds:List D}{Z:Env}{M:Mem}{j:Nat}(e:Z[j]?.getD none=some (.lst ds)):a8 .len (aa (ae j) ah) Z M=.ok (nD ds.length) M:=by
 unfold a8
 rw [az (aN e) rfl]
 rfl
section
variable {P:Nat->Option Df}(h:iT P){M:Mem}{m:aV}{k L:Nat}
include h
theorem F3 (h90:P 90=some ⟨2,4,cn⟩)(n:Nat){x v:D}(hm:bh m)(hx:Th (k+1) L x)(hL:L<=900000)(hv:cH m x v):ak P (n+6) 90 [m.d,x] M=.ok (n8 v) M:=by
 refine ax (ay h90 rfl ?_)
 show ai (cn (ak P (n+5)) [some m.d,some x,none,none] M) _
 unfold cn
 have em:=kc h n (M:=M) (fN hm) #[1] #[1]
 rw [fv hm] at em
 refine aE (je (b:=true) (fZ (i4 rfl em))) ?_
 have body:∀{ds:List D}{y:D}{a:D},(Th k L y)->(aq 68 (ak P (n+5)) (aa (ae 3) #[89])) [some m.d,some (.lst ds),some a,some y] M=.ok (.bl (kz m y)) M:=fun {ds y a} hy=>
  (bH (az (aN rfl) (az rfl (az (F0 rfl) rfl)))).trans (i9 h (n+3) hy _ _)
 cases hv with
 | not x hi =>
   refine bA (je (b:=false) (fZ ?_)) (v:=.lst [.str "row",.int 0]) rfl ⟨rfl,rfl⟩
   unfold bQ
   show (cV M (bN .list x)).bind _=_
   rw [hi];rfl
 | ok r hr =>
   refine aE rfl ?_
   simp only [aC,dU,hG,aU]
   refine ⟨_,rfl,rfl,?_⟩
   refine cz (ds:=cf 0 #[231]) (fun i Z M'=>M'=M/\∃a b,Z=[some m.d,some (bI r),a,b]) #[212] ⟨rfl,none,none,rfl⟩ ?_ ?_
   ·rintro i e Z M' he ⟨rfl,a,b,rfl⟩
    rw [cQ] at he
    obtain ⟨y,hy,rfl⟩:=MZ.mp he
    obtain ⟨q,hq,rfl⟩:=Nu.mp (MO hy)
    refine ⟨_,rfl,aE (je (b:=true) (fZ ?_)) ⟨_,rfl,rfl,_,_,rfl⟩⟩
    have:=body (ds:=r.map nD) (y:=nD q) (a:=.int ((0+i:Nat):Int)) (by cases k<;>trivial)
    rw [BJ (hr.2 q hq)] at this
    exact this
   ·rintro Z M' ⟨rfl,a,b,rfl⟩
    refine cD (v:=.non) ?_ ⟨rfl,rfl⟩
    unfold fR
    have e:(aw #[338]:GT) [some m.d,some (bI r),a,b] M'=.ok false M':=by
     refine aM ?_
     simp only [eK,fT,cS]
     rw [lS (ds:=r.map nD) rfl,dW]
     refine ⟨_,rfl,_,rfl,decide_eq_false ?_,rfl⟩
     have:=hr.1
     simp;omega
    rw [e]
    rfl
 | long ds hg hl =>
   refine aE rfl ?_
   simp only [aC,dU,hG,aU]
   refine ⟨_,rfl,rfl,?_⟩
   refine cz (ds:=cf 0 ds) #[305] #[212] ⟨rfl,none,none,rfl⟩ ?_ ?_
   ·rintro i e Z M' he ⟨rfl,a,b,rfl⟩
    rw [cQ] at he
    obtain ⟨y,hy,rfl⟩:=MZ.mp he
    have hm':=MO hy
    refine ⟨_,rfl,aE (je (b:=true) (fZ ?_)) ⟨_,rfl,rfl,_,_,rfl⟩⟩
    have:=body (ds:=ds) (y:=y) (a:=.int ((0+i:Nat):Int)) (hx.2 y hm')
    rw [hg y hm'] at this
    exact this
   ·rintro Z M' ⟨rfl,a,b,rfl⟩
    refine cD (v:=.lst [.str "long"]) ?_ ⟨rfl,rfl⟩
    unfold fR
    have e:(aw #[338]:GT) [some m.d,some (.lst ds),a,b] M'=.ok true M':=by
     refine aM ?_
     simp only [eK,fT,cS]
     rw [lS (ds:=ds) rfl,dW]
     exact ⟨_,rfl,_,rfl,decide_eq_true #[0],rfl⟩
    rw [e]
    rfl
 | bad ds i y hy hb hg =>
   refine aE rfl ?_
   simp only [aC,dU,hG,aU]
   refine ⟨_,rfl,rfl,?_⟩
   refine qz (ds:=cf 0 ds) (fun j Z M'=>M'=M/\j<=i/\∃a b,Z=[some m.d,some (.lst ds),a,b]) (fun d M'=>d=.lst [.str "row",.int (i:Int)]/\M'=M) #[212] (fun _ _ _=>rfl) ⟨rfl,Oq _,none,none,rfl⟩ ?_ ?_ ?_
   ·rintro j e Z M' he ⟨rfl,hj,a,b,rfl⟩
    rw [cQ] at he
    obtain ⟨z,hz,rfl⟩:=MZ.mp he
    have ez:=body (ds:=ds) (y:=z) (a:=.int ((0+j:Nat):Int)) (hx.2 z (MO hz))
    refine ⟨_,rfl,?_⟩
    by_cases c:j=i
    ·subst c
     rw [hy] at hz;cases hz
     rw [hb] at ez
     refine bA (je (b:=false) (fZ ez)) (xh (aN rfl)) (.inr ⟨_,rfl,?_,rfl⟩)
     rw [Ow]
    ·rw [hg j z #[0] hz] at ez
     exact aE (je (b:=true) (fZ ez)) (.inl ⟨_,rfl,rfl,by omega,_,_,rfl⟩)
   ·rintro Z M' ⟨rfl,hj,_⟩
    have hlt:=(Mw.mp hy).1
    have:(cf 0 ds).length=ds.length:=eE ds 0
    omega
   ·rintro d M' ⟨rfl,rfl⟩
    exact ⟨rfl,rfl⟩
end
theorem El {m:aV}{x v:D}(hv:cH m x v)(hn:v≠.non):ks (n8 v)=false:=by
 cases hv with
 |ok r hr=>exact absurd rfl hn
 |long ds hg hl=>rfl
 |bad ds i y hy hb hg=>rfl
 |not x hi=>rfl
end LD
namespace LD
open PySem
theorem BY {i:Int}{x:D}(h:x∈oy i):∃c p,x=.exc c p:=by
 simp only [oy,Mz,MK,or_false] at h
 rcases h with rfl|rfl|rfl|rfl|rfl|rfl|rfl|rfl|rfl|rfl|rfl|rfl|rfl|rfl<;>exact ⟨_,_,rfl⟩
section
variable {P:Nat->Option Df}{M:Mem}{d r:D}
theorem LR (h19:P 19=some ⟨2,2,uZ⟩)(n:Nat){x:D}(e:ak P n 18 [d,r] M=.err x M):ak P (n+1) 19 [d,r] M=.err x M:=by
 refine fw (fC h19 rfl ?_)
 show ai (uZ (ak P n) [some d,some r] M) _
 unfold uZ
 simp only [aC,hV,fi,aY,bo,aU]
 refine ⟨_,rfl,_,rfl,?_⟩
 rw [e]
 exact ⟨rfl,rfl⟩
variable (h91:P 91=some ⟨3,6,qJ⟩){a:Nat}(ha:a=0\/a=1)
include h91 ha
end
def items:List D:=(List.range 20).map (fun (k:Nat)=>nD k)++[.int (-1),.int (-2),.int (10^20),.bl true,.bl false,.non,.str "0",.lst [.int 0],.tup [.int 0],.lst [],.str "",.str "turn",.str "join",.str "move",.str "put",.str "Turn",.tup []]
theorem oo {x:D}(h:x∈items):Th 2 200 x/\Good 5 x:=by
 have e:items.all (fun x=>sZ 2 200 x&&xx 5 x)=true:=by decide +kernel
 have q:=MC.mp e x h
 rw [Ms] at q
 exact ⟨oS q.1,BX q.2⟩
theorem eB {i:Nat}(h:i<20):nD i∈items:=N2 _ (List.mem_map.mpr ⟨i,Od.mpr h,rfl⟩)
structure Itm (n:Nat) (xs:List D):Prop where
 len:xs.length<=n
 all:∀x∈xs,x∈items
structure Thing (x:D):Prop where
 th:Th 3 200 x
 good:Good 10000 x
theorem Itm.lst {n:Nat}{xs:List D}(h:Itm n xs)(hn:n<=200):Thing (.lst xs):=by
 have:=h.len
 exact ⟨.lst_of #[0] fun d hd=>(oo (h.all d hd)).1,(Good.lst fun d hd=>(oo (h.all d hd)).2).mono #[0]⟩
theorem Itm.app {n n':Nat}{xs ys:List D}(h:Itm n xs)(h':Itm n' ys):Itm (n+n') (xs++ys):=by
 have:=h.len
 have:=h'.len
 refine ⟨by rw [Nx];omega,fun x hx=>?_⟩
 rcases Nh.mp hx with z|z
 ·exact h.all x z
 ·exact h'.all x z
theorem Itm.take {n:Nat}{xs:List D}(h:Itm n xs)(k:Nat):Itm n (xs.take k):=⟨by have:=h.len;rw [N5];omega,fun x hx=>h.all x (Nw hx)⟩
theorem Itm.drop {n:Nat}{xs:List D}(h:Itm n xs)(k:Nat):Itm n (xs.drop k):=⟨by have:=h.len;rw [OL];omega,fun x hx=>h.all x (N9 hx)⟩
theorem Itm.one {x:D}(h:x∈items):Itm 1 [x]:=⟨My _,fun y hy=>by rw [Nc.mp hy];exact h⟩
theorem Itm.put {n k:Nat}{xs:List D}{x:D}(h:Itm n xs)(hx:x∈items):Itm (n+1) (xs.take k++[x]++xs.drop k):=by
 have:=h.len
 exact ⟨by simp;omega,(((h.take k).app (.one hx)).app (h.drop k)).all⟩
theorem Itm.mono {n n':Nat}{xs:List D}(h:Itm n xs)(hn:n<=n'):Itm n' xs:=⟨MF h.len hn,h.all⟩
theorem Itm.zeros (n:Nat):Itm n (zeros n):=⟨by simp [LD.zeros],fun x hx=>by rw [(List.mem_replicate.mp hx).2];exact eB (i:=0) #[1]⟩
theorem qc {m:aV}{r:List Nat}{n:Nat}(hm:bh m)(hr:∀i∈r,i<m.deeds.length)(hl:r.length<=n):Itm n #[231]:=by
 have:=hm.d6
 refine ⟨by rw [MN];exact hl,fun x hx=>?_⟩
 obtain ⟨i,hi,rfl⟩:=Nu.mp hx
 exact eB (by have:=hr i hi;omega)
section
variable {Z:Env}{M:Mem}{a b:GE}
theorem Ce {m:aV}{j:Nat}(e:Z[j]?.getD none=some m.d):a8 .len (aa (aF (ae j) (gI 2)) ah) Z M=.ok (nD m.deeds.length) M:=by
 refine ax ?_
 simp only [dM,aY,bo,fA,aU,cS]
 refine ⟨_,e,.tup #[80],rfl,kZ.mpr ⟨?_,rfl⟩⟩
 rw [MN]
theorem EH {v c:Nat}(e:a Z M=.ok (nD v) M):au false .add a #[241] Z M=.ok (nD (v+c)) M:=by
 unfold au
 rw [e]
 show Res.ok (D.int ((v:Int)+(c:Int))) M=_
 rw [show ((v:Int)+(c:Int))=((v+c:Nat):Int) by omega]
theorem GH {j l:Nat}{xs:List D}{x:D}{v:Nat}(h1:Z[j]?.getD none=some (.lst xs))(h2:Z[l]?.getD none=some (nD v))(h3:a Z M=.ok x M)(hz:xs.length<=50):au false .add (au false .add (cv false false true (ae j) gN (ae l)) (aP false (aa a ah))) (cv false true false (ae j) (ae l) gN) Z M=.ok (.lst (xs.take v++[x]++xs.drop v)) M:=
 Al (Al (wC h1 h2 #[0]) (kY (az h3 rfl) (Nl rfl)) #[7]) (qy h1 h2 #[0]) #[7]
theorem vO {j:Nat}{xs:List D}(h:Z[j]?.getD none=some (.lst xs)):au false .add (a8 .len (aa (ae j) ah)) (gI 1) Z M=.ok (nD (xs.length+1)) M:=EH (c:=1) (lS h)
theorem FL {xs ys:List D}(ea:a Z M=.ok (.lst xs) M)(eb:b Z M=.ok (.lst ys) M)(hl:(xs++ys).length<=1000):au false .add a b Z M=.ok (.lst (xs++ys)) M:=by
 unfold au
 rw [ea]
 show (b Z M).bind _=_
 rw [eb]
 show #[150]=_
 rw [if_pos (av #[0])]
 rfl
end
end LD
namespace LD
open PySem
theorem mL {lo hi:Int}{d:D}(h:a9 lo hi d=true)(h0:0<=lo):∃i:Nat,d=nD i/\lo<=(i:Int)/\(i:Int)<=hi:=by
 cases d with
 | int i =>
   have h:(decide (lo<=i)&&decide (i<=hi))=true:=h
   rw [Ms,decide_eq_true_eq,decide_eq_true_eq] at h
   have e:((i.toNat:Nat):Int)=i:=Oz (Int.le_trans h0 h.1)
   exact ⟨i.toNat,by show D.int i=D.int _;rw [e],by rw [e];exact h.1,by rw [e];exact h.2⟩
 |_=>cases h
theorem vM {w:Nat}:∀{ds:List D},(∀d∈ds,a9 0 #[222] d=true)->∃t:List Nat,ds=t.map nD/\∀i∈t,i<w
 |[],_=>⟨[],rfl,fun _ h=>nomatch h⟩
 | d :: ds, h => by
   obtain ⟨r,rfl,hr⟩:=vM (ds:=ds) fun x hx=>h x (ME _ hx)
   obtain ⟨i,rfl,_,hi⟩:=mL (h d MM) (Int.le_refl _)
   refine ⟨i::r,rfl,fun j hj=>?_⟩
   rcases Mz.mp hj with rfl|hj
   ·omega
   ·exact hr j hj
theorem tab_of {w:Nat}{d:D}(h:gx w d=true):∃t,d=aQ t/\gK w t:=by
 cases d with
 | tup ds =>
   have h:(ds.length==w&&ds.all (a9 0 #[222]))=true:=h
   rw [Ms,beq_iff_eq,MC] at h
   obtain ⟨t,rfl,ht⟩:=vM h.2
   exact ⟨t,rfl,by simpa using h.1,ht⟩
 |_=>cases h
theorem vh {w:Nat}:∀{ds:List D},(∀d∈ds,gx w d=true)->∃t:List #[174],ds=t.map aQ/\∀x∈t,gK w x
 |[],_=>⟨[],rfl,fun _ h=>nomatch h⟩
 | d :: ds, h => by
   obtain ⟨r,rfl,hr⟩:=vh (ds:=ds) fun x hx=>h x (ME _ hx)
   obtain ⟨t,rfl,ht⟩:=tab_of (h d MM)
   refine ⟨t::r,rfl,fun x hx=>?_⟩
   rcases Mz.mp hx with rfl|hx
   ·exact ht
   ·exact hr x hx
theorem Fg {w:Nat}{d:D}(h:iY w d=true):∃t:List #[174],d=.tup (t.map aQ)/\t.length=w/\∀x∈t,gK w x:=by
 cases d with
 | tup ds =>
   have h:(ds.length==w&&ds.all (gx w))=true:=h
   rw [Ms,beq_iff_eq,MC] at h
   obtain ⟨t,rfl,ht⟩:=vh h.2
   exact ⟨t,rfl,by simpa using h.1,ht⟩
 |_=>cases h
theorem nA {d:D}(h:a9 1 3 d=true):∃c,d=nD c/\fM c:=by
 obtain ⟨c,rfl,h1,h2⟩:=mL h #[1]
 exact ⟨c,rfl,by omega,by omega⟩
theorem jX {p:Nat}{d:D}(h:a9 0 #[61] d=true):∃a,d=nD a/\a<p:=by
 obtain ⟨a,rfl,_,h2⟩:=mL h (Int.le_refl _)
 exact ⟨a,rfl,by omega⟩
theorem Fw {w p:Nat}{d:D}(h:fb w p d=true):∃e:ba,d=e.d/\cq w p e:=by
 match d,h with
 | .tup (.str s :: ds), h =>
   have h:cK w p s ds=true:=h
   by_cases c1:s="turn"
   ·subst c1
    rw [mz] at h
    match ds,h with
    | [a, t, c], h =>
      have h:(a9 0 #[61] a&&(gx w t&&a9 1 3 c))=true:=h
      rw [Ms,Ms] at h
      obtain ⟨a,rfl,ha⟩:=jX h.1
      obtain ⟨t,rfl,ht⟩:=tab_of h.2.1
      obtain ⟨c,rfl,hc⟩:=nA h.2.2
      exact ⟨.turn a t c,rfl,ha,ht,hc⟩
   ·by_cases c2:s="join"
    ·subst c2
     rw [my] at h
     match ds,h with
     | [a, o, t, c], h =>
       have h:(a9 0 #[61] a&&(a9 0 #[61] o&&(iY w t&&a9 1 3 c)))=true:=h
       rw [Ms,Ms,Ms] at h
       obtain ⟨a,rfl,ha⟩:=jX h.1
       obtain ⟨o,rfl,ho⟩:=jX h.2.1
       obtain ⟨t,rfl,ht⟩:=Fg h.2.2.1
       obtain ⟨c,rfl,hc⟩:=nA h.2.2.2
       exact ⟨.join a o t c,rfl,ha,ho,ht,hc⟩
    ·by_cases c3:s="move"
     ·subst c3
      rw [mx] at h
      match ds,h with
      | [a, o, c], h =>
        have h:(a9 0 #[61] a&&(a9 0 #[61] o&&a9 1 3 c))=true:=h
        rw [Ms,Ms] at h
        obtain ⟨a,rfl,ha⟩:=jX h.1
        obtain ⟨o,rfl,ho⟩:=jX h.2.1
        obtain ⟨c,rfl,hc⟩:=nA h.2.2
        exact ⟨.move a o c,rfl,ha,ho,hc⟩
     ·by_cases c4:s="put"
      ·subst c4
       rw [mw] at h
       match ds,h with
       | [a, x, c], h =>
         have h:(a9 0 #[61] a&&(a9 0 #[222] x&&a9 1 3 c))=true:=h
         rw [Ms,Ms] at h
         obtain ⟨a,rfl,ha⟩:=jX h.1
         obtain ⟨x,rfl,hx⟩:=jX h.2.1
         obtain ⟨c,rfl,hc⟩:=nA h.2.2
         exact ⟨.put a x c,rfl,ha,hx,hc⟩
      ·rw [tY c1 c2 c3 c4] at h
       cases h
theorem rK {w p:Nat}:∀{ds:List D},(∀d∈ds,fb w p d=true)->∃es:List ba,ds=es.map ba.d/\∀e∈es,cq w p e
 |[],_=>⟨[],rfl,fun _ h=>nomatch h⟩
 | d :: ds, h => by
   obtain ⟨r,rfl,hr⟩:=rK (ds:=ds) fun x hx=>h x (ME _ hx)
   obtain ⟨e,rfl,he⟩:=Fw (h d MM)
   refine ⟨e::r,rfl,fun x hx=>?_⟩
   rcases Mz.mp hx with rfl|hx
   ·exact he
   ·exact hr x hx
theorem EY {d:D}(h:eP d=true):∃m:aV,d=m.d/\bh m:=by
 match d,h with
 | .tup [a, b, c], h =>
   have h:(a9 2 4 a&&#[152])=true:=h
   rw [Ms,Ms,Ms] at h
   obtain ⟨h1,h2,h3,h4⟩:=h
   obtain ⟨w,rfl,w2,w4⟩:=mL h1 #[1]
   obtain ⟨p,rfl,p1,p2⟩:=mL h2 #[1]
   cases c with
   | tup ds =>
     have h3:(decide (1<=ds.length)&&decide (ds.length<=6))=true:=h3
     rw [Ms,decide_eq_true_eq,decide_eq_true_eq] at h3
     have h4:ds.all (fb (eC (nD w)) (eC (nD p)))=true:=h4
     rw [MC] at h4
     obtain ⟨es,rfl,he⟩:=rK h4
     rw [MN] at h3
     refine ⟨⟨w,p,es⟩,rfl,⟨?_,?_,?_,?_,h3.1,h3.2,he⟩⟩
     ·show 2<=w;omega
     ·show w<=4;omega
     ·show 1<=p;omega
     ·show p<=2;omega
   |_=>cases h3
end LD
namespace LD
open PySem
structure Ke (P:Nat->Option Df):Prop where
 m:HasM P
 p:HasP P
 t:HasT P
 w:iT P
 s:nJ P
 a:xV P
 h35:P 35=some ⟨3,6,fF⟩
 h75:P 75=some ⟨1,3,d9⟩
 h90:P 90=some ⟨2,4,cn⟩
 h94:P 94=some ⟨3,5,qI⟩
 h95:P 95=some ⟨3,4,sm⟩
 h96:P 96=some ⟨3,5,sk⟩
 h97:P 97=some ⟨1,12,FG⟩
theorem b8 {y:D}(h:y∈[D.int (-1),.int (-2),.int (10^20),.bl true,.bl false,.non,.str "0",.lst [.int 0],.tup [.int 0],.lst [],.str "",.str "turn",.str "join",.str "move",.str "put",.str "Turn",.tup []]):y∈items:=Nq _ h
theorem zm {x:D}(h:x∈eU):x∈items:=by
 simp only [eU,Mz,MK,or_false] at h
 rcases h with rfl|rfl|rfl|rfl|rfl|rfl|rfl|rfl|rfl|rfl|rfl|rfl|rfl|rfl|rfl|rfl|rfl|rfl|rfl|rfl
 ·exact b8 (by simp)
 ·exact b8 (by simp)
 ·exact b8 (by simp)
 ·exact b8 (by simp)
 ·exact b8 (by simp)
 ·exact b8 (by simp)
 ·exact b8 (by simp)
 ·exact b8 (by simp)
 ·exact b8 (by simp)
 ·exact b8 (by simp)
 ·exact b8 (by simp)
 ·exact b8 (by simp)
 ·exact b8 (by simp)
 ·exact eB (i:=0) #[1]
 ·exact eB (i:=1) #[1]
 ·exact eB (i:=4) #[1]
 ·exact b8 (by simp)
 ·exact b8 (by simp)
 ·exact b8 (by simp)
 ·exact eB (i:=7) #[1]
theorem ud {v:Nat}(h:v<9):D.int ((v:Int)-2)∈items:=by
 match v,h with
 |0,_=>exact b8 (by simp)
 |1,_=>exact b8 (by simp)
 |v+2,h=>rw [show (((v+2:Nat):Int)-2)=((v:Nat):Int) by omega];exact eB #[0]
theorem vR {a i:GE}{Z:Env}{M:Mem}{xs:List D}{v:Nat}(ea:a Z M=.ok (.lst xs) M)(ei:i Z M=.ok (nD v) M)(h:v<xs.length):aF a i Z M=.ok xs[v] M:=by
 unfold aF
 rw [ea]
 show (i Z M).bind _=_
 rw [ei]
 show cV M (cu (.lst xs) (nD v) M)=_
 rw [nj h];rfl
section
variable {P:Nat->Option Df}{M:Mem}
theorem Bi (hp_:HasP P)(ht_:HasT P)(hw_:iT P)(n:Nat){p B:Nat}(hp:aH M p B)(hB:B<=700000):ai (ak P (n+6) 72 [.cell p,.int 0,.int 0] M) fun d M'=>d∈items/\aH M' p (B+3)/\aZ p M M':=by
 refine ay ht_.bent rfl ?_
 show ai (i7 (ak P (n+5)) [some (.cell p),some (.int 0),some (.int 0),none,none,none,none,none,none] M) _
 unfold i7
 refine fG hp_ (n+3) (many:=8) rfl rfl hp #[0] #[1] #[1] fun kind M1 hkd q1 k1=>?_
 refine fG hp_ (n+3) (many:=20) rfl rfl q1 #[0] #[1] #[1] fun pick M2 hpk q2 k2=>?_
 refine cb (k:=fun d M'=>∃v:Nat,d=.int ((v:Int)-2)/\v<9/\aH M' p (B+3)/\aZ p M2 M') ?_ ?_
 ·rw [dz]
  refine aG (f9 hp_ (n+3) (many:=9) rfl rfl q2 #[0] #[1] #[1]) ?_
  rintro _ M' ⟨v,rfl,hv,q,kk⟩
  simp only [cS]
  exact mi.mpr ⟨v,rfl,hv,q,kk⟩
 rintro _ M3 ⟨v,rfl,hv,q3,k3⟩
 refine aE rfl ?_
 show ai (ag _ (ag _ (jK (ak P (n+5)))) [some (.cell p),some (.int 0),some (.int 0),some (nD kind),some (nD pick),some (.int ((v:Int)-2)),none,none,none] M3) _
 refine rk ?_
 unfold jK
 refine aE rfl (ig (fZ (i4 rfl (ka hw_ (n+4) (k:=0) (L:=0) (d:=.int 0) trivial))) ?_)
 have hl:pick<eU.length:=hpk
 refine cD (vR (xs:=[.int 1,.int (-1),.int 0,.int ((v:Int)-2),.int ((v:Int)-2),.bl false,.int 3,eU[pick]]) (kY (az rfl (az rfl (az rfl (az (aN rfl) (az (aN rfl) (az rfl (az rfl (az (vR (aN rfl) (aN rfl) hl) rfl)))))))) (Nl rfl)) (aN rfl) hkd) ⟨?_,q3,#[324].trans k3⟩
 have mem:∀x∈[D.int 1,.int (-1),.int 0,.int ((v:Int)-2),.int ((v:Int)-2),.bl false,.int 3,eU[pick]],x∈items:=fun x hx=>by
  simp only [Mz,MK,or_false] at hx
  rcases hx with rfl|rfl|rfl|rfl|rfl|rfl|rfl|rfl
  ·exact eB (i:=1) #[1]
  ·exact b8 (by simp)
  ·exact eB (i:=0) #[1]
  ·exact ud hv
  ·exact ud hv
  ·exact b8 (by simp)
  ·exact eB (i:=3) #[1]
  ·exact zm (Nz hl)
 exact mem _ (Nz _)
variable (h:Ke P)
include h
omit h in
theorem Gd (hs:nJ P)(n:Nat){z:Str}(hz:aA 64 (.str z)=true):ak P (n+2) 40 [.lst [.str z],.lst [.str z]] M=.ok #[170] M:=
 lI hs (n+1) (av (n:=1) #[1]) fun d hd=>by rw [Nc.mp hd];exact qW hs n hz
end
end LD
namespace LD
open PySem
theorem mC {t:GT}{A rest:GS}{Z:Env}{M:Mem}{k:Fl->Mem->Prop}{R:Mem->Prop}(ht:ai (t Z M) fun b M'=>b=true/\R M')(h:∀M',R M'->ai (A Z M') (iV rest k)):ai #[190] k:=by
 simp only [aC,jb]
 obtain ⟨b,M',e,rfl,r⟩:=lN.mp ht
 rw [e]
 exact h M' r
theorem Bo {m:aV}{x v:D}(hv:cH m x v)(hn:v≠.non):∃c p,v=.exc c p/\(c=0\/c=4):=by
 cases hv with
 |ok=>exact absurd rfl hn
 |long=>exact ⟨_,_,rfl,.inr rfl⟩
 |bad=>exact ⟨_,_,rfl,.inl rfl⟩
 |not=>exact ⟨_,_,rfl,.inl rfl⟩
section
variable {P:Nat->Option Df}(h:HasM0 P){M:Mem}{m:aV}{k L:Nat}
include h
theorem oq (h52:P 52=some ⟨2,2,iO⟩)(n:Nat){x:D}(hm:bh m)(hv:cH m x .non):ak P (n+10) 52 [m.d,x] M=.ok #[170] M:=by
 refine ax (ay h52 rfl ?_)
 simp [iO,Cn,ql h n hm hv]
theorem uo (h52:P 52=some ⟨2,2,iO⟩)(n:Nat){x v:D}(hm:bh m)(hx:Th (k+1) L x)(hL:L<=900000)(hv:cH m x v)(hn:v≠.non):ak P (n+10) 52 [m.d,x] M=.ok #[99] M:=by
 obtain ⟨c,p,ev,hc⟩:=Bo hv hn
 refine ax (ay h52 rfl ?_)
 simp [iO,Cn,om h n hm hx hL hv hn,ev,hc]
end
inductive iS (m:aV):D->D->Bool->Prop
 |one (y z v:D) (h1:cH m y v) (hn:v≠.non):iS m y z false
 |two (y z v:D) (h1:cH m y .non) (h2:cH m z v) (hn:v≠.non):iS m y z false
 |both (r s:List Nat) (h1:dP m r) (h2:dP m s):iS m (bI r) (bI s) (decide (ends m r=ends m s))
theorem yU {m:aV}{k L:Nat}{y z:D}(hy:Th k L y)(hz:Th k L z):∃b,iS m y z b:=by
 have h1:=jR (m:=m) hy
 have h2:=jR (m:=m) hz
 generalize gy m y=v at h1
 generalize gy m z=u at h2
 by_cases e1:v=.non
 ·by_cases e2:u=.non
  ·subst e1 e2
   cases h1 with
   | ok r hr => cases h2 with
     |ok s hs=>exact ⟨_,.both r s hr hs⟩
  ·subst e1;exact ⟨_,.two y z u h1 h2 e2⟩
 ·exact ⟨_,.one y z v h1 e1⟩
structure Dy (P:Nat->Option Df):Prop where
 is_row:P 52=some ⟨2,2,iO⟩
 is_rule:P 53=some ⟨2,4,jh⟩
 need_rules:P 54=some ⟨2,4,du⟩
section
variable {P:Nat->Option Df}(h:HasM P)(ha:xV P)(hr_:Dy P){M:Mem}{m:aV}{k L:Nat}
include h ha hr_
theorem lJ (n:Nat){y z:D}{b:Bool}(hm:bh m)(hy:Th (k+1) L y)(hz:Th (k+1) L z)(hL:L<=900000)(hb:iS m y z b):ai (ak P (n+13) 53 [m.d,.tup [y,z]] M) fun d M'=>d=.bl b/\Sub M M':=by
 refine ay hr_.is_rule rfl ?_
 have t2:ak P (n+12) 4 [.int 2,.tup [y,z]] M=.ok #[170] M:=by
  refine ax (ay h.is_tuple_of rfl ?_)
  simp [fJ,bN]
 cases hb with
 | one y z v h1 hn =>
   simp [jh,t2,eL,uo h.toHasM0 hr_.is_row (n+2) hm hy hL h1 hn]
   exact .refl
 | two y z v h1 h2 hn =>
   simp [jh,t2,eL,oq h.toHasM0 hr_.is_row (n+2) hm h1,uo h.toHasM0 hr_.is_row (n+2) hm hz hL h2 hn]
   exact .refl
 | both r s h1 h2 =>
   simp [jh,t2,eL,oq h.toHasM0 hr_.is_row (n+2) hm (.ok r h1),oq h.toHasM0 hr_.is_row (n+2) hm (.ok s h2)]
   refine aG (tB h ha n .l .l hm h1 h2) fun d M1 ⟨ed,S1⟩=>?_
   subst ed
   by_cases e:ends m r=ends m s
   ·rw [l9.mpr e]
    exact .inr ⟨rfl,e,S1⟩
   ·cases q:ib m r s with
    |none=>exact absurd (l9.mp q) e
    |some w=>exact .inl ⟨rfl,e,S1⟩
def iB (m:aV)(k L:Nat)(d:D)(b:Bool):Prop:=∃y z,d=D.tup [y,z]/\Th (k+1) L y/\Th (k+1) L z/\iS m y z b
theorem yS (n:Nat){ds:List D}{i:Nat}{x:D}(hm:bh m)(hL:L<=900000)(hx:ds[i]?=some x)(hb:iB m k L x false)(hg:∀j y,j<i->ds[j]?=some y->iB m k L y true)(hi:i<1000000) :
 jd (ak P (n+14) 54 [m.d,.lst ds] M) (fun _ _=>False) (fun x M'=>x=.exc 1 #[343]/\Sub M M'):=by
 refine fC hr_.need_rules rfl ?_
 show ai #[320] _
 unfold du
 simp only [aC,hV,fi,aY,bo,aU]
 refine ⟨_,rfl,?_⟩
 rw [lO h.q h.need_machine (n+5) (fN hm) #[1] (fv hm)]
 show ai (ag _ _ [some m.d,some (.lst ds),none,none] M) _
 simp only [aC,dU,hG,aU]
 refine ⟨_,rfl,rfl,?_⟩
 refine fx (ds:=cf 0 ds) (fun j fl M'=>Sub M M'/\(#[128]\/(i<j/\∃Z,fl=.exc (.exc 1 #[343]) Z))) #[212] ⟨.refl,.inl ⟨Oq _,none,none,rfl⟩⟩ ?_ ?_
 ·rintro j e fl M' he ⟨S,hj⟩
  rw [cQ] at he
  obtain ⟨y,hy,rfl⟩:=MZ.mp he
  rcases hj with ⟨hj,a,b,rfl⟩|⟨hj,Z,rfl⟩
  ·show ai #[233] _
   rw [Ow]
   by_cases c:j=i
   ·subst c
    rw [hx] at hy;cases hy
    obtain ⟨y,z,rfl,h1,h2,h3⟩:=hb
    refine mC (R:=fun M2=>Sub M' M2) ?_ ?_
    ·simp only [lH,eK]
     rw [bH #[19]]
     exact aG #[344] fun d M2 ⟨e,S2⟩=>by rw [e];exact ⟨false,rfl,rfl,S2⟩
    ·intro M2 S2
     simp only [aC,mj,aU]
     exact ⟨_,rfl,_,rfl,by omega,S.trans S2,.inr ⟨Nat.lt_succ_self _,_,rfl⟩⟩
   ·obtain ⟨y,z,rfl,h1,h2,h3⟩:=hg j y #[0] hy
    refine iJ (R:=fun M2=>Sub M' M2) ?_ ?_
    ·simp only [lH,eK]
     rw [bH #[19]]
     exact aG #[344] fun d M2 ⟨e,S2⟩=>by rw [e];exact ⟨true,rfl,rfl,S2⟩
    ·intro M2 S2
     exact ⟨S.trans S2,.inl ⟨by omega,_,_,rfl⟩⟩
  ·exact ⟨S,.inr ⟨by omega,_,rfl⟩⟩
 ·rintro fl M' ⟨S,hj⟩
  have hlt:=(Mw.mp hx).1
  have:(cf 0 ds).length=ds.length:=eE ds 0
  rcases hj with ⟨hj,_⟩|⟨_,Z,rfl⟩
  ·omega
  ·exact ⟨rfl,S⟩
theorem Br (n:Nat){ds:List D}(hm:bh m)(hL:L<=900000)(hg:∀d∈ds,iB m k L d true):ai (ak P (n+14) 54 [m.d,.lst ds] M) fun d M'=>d=.non/\Sub M M':=by
 refine ay hr_.need_rules rfl ?_
 show ai #[320] _
 unfold du
 simp only [aC,hV,fi,aY,bo,aU]
 refine ⟨_,rfl,?_⟩
 rw [lO h.q h.need_machine (n+5) (fN hm) #[1] (fv hm)]
 show ai (ag _ _ [some m.d,some (.lst ds),none,none] M) _
 simp only [aC,dU,hG,aU]
 refine ⟨_,rfl,rfl,?_⟩
 refine cz (ds:=cf 0 ds) #[288] #[36] ⟨.refl,none,none,rfl⟩ ?_ ?_
 ·rintro i e Z M' he ⟨S,a,b,rfl⟩
  rw [cQ] at he
  obtain ⟨y,hy,rfl⟩:=MZ.mp he
  obtain ⟨y,z,rfl,h1,h2,h3⟩:=hg y (MO hy)
  refine ⟨_,rfl,iJ (R:=fun M2=>Sub M' M2) ?_ ?_⟩
  ·simp only [lH,eK]
   rw [bH #[19]]
   exact aG #[344] fun d M2 ⟨e,S2⟩=>by rw [e];exact ⟨true,rfl,rfl,S2⟩
  ·intro M2 S2
   exact ⟨_,rfl,S.trans S2,_,_,rfl⟩
 ·rintro Z M' ⟨S,a,b,rfl⟩
  exact ⟨rfl,S⟩
end
end LD
namespace LD
open PySem
section
variable {P:Nat->Option Df}{M:Mem}
theorem I9 (h102:P 102=some ⟨2,5,cZ⟩)(n:Nat){d x v:D}{M':Mem}(e:ak P n 54 [d,x] M=.ok v M'):ak P (n+1) 102 [d,x] M=.ok (.lst [v]) M':=by
 refine aM (ay h102 rfl ?_)
 show ai (cZ (ak P n) [some d,some x,none,none,none] M) _
 unfold cZ
 refine cg (lh rfl) (cg (lh rfl) ?_)
 show ai #[325] _
 simp only [aC,yP,vv,fi,aY,bo,aU]
 refine ⟨_,rfl,_,rfl,?_⟩
 rw [e]
 exact ⟨rfl,rfl⟩
theorem yz (h102:P 102=some ⟨2,5,cZ⟩)(h75:P 75=some ⟨1,3,d9⟩)(n:Nat){d x v:D}{M':Mem}{i:Int}(hv:v∈oy i)(e:ak P (n+1) 54 [d,x] M=.err v M'):ak P (n+2) 102 [d,x] M=.ok (n8 v) M':=by
 have er:=wD h75 n (M:=M') hv
 obtain ⟨c,p,rfl⟩:=BY hv
 refine aM (ay h102 rfl ?_)
 show ai (cZ (ak P (n+1)) [some d,some x,none,none,none] M) _
 unfold cZ
 refine cg (lh rfl) (cg (lh rfl) ?_)
 show ai #[325] _
 simp only [aC,yP,vv,fi,aY,bo,aU]
 refine ⟨_,rfl,_,rfl,?_⟩
 rw [e]
 show ai (ag (aK (fR (aw (aL .isN (ae 2) gN)) (aP false #[50]) (aq 75 (ak P (n+1)) #[39]))) aj [some d,some x,some (.exc c p),some (.int 0),none] M') _
 refine cD ?_ ⟨rfl,rfl⟩
 show aq 75 (ak P (n+1)) #[39] [some d,some x,some (.exc c p),some (.int 0),none] M'=_
 exact i4 rfl er
theorem yT (h:HasM0 P)(h54:P 54=some ⟨2,4,du⟩)(n:Nat){k L:Nat}{d r:D}(hd:Th k L d)(hL:L<=100)(hb:eP d=false):ak P (n+9) 54 [d,r] M=.err (.exc 3 none) M:=by
 refine fw (fC h54 rfl ?_)
 show ai (du (ak P (n+8)) [some d,some r,none,none] M) _
 unfold du
 simp only [aC,hV,fi,aY,bo,aU]
 refine ⟨_,rfl,?_⟩
 rw [rA h.q h.need_machine n hd hL hb]
 exact ⟨rfl,rfl⟩
end
end LD
namespace LD
open PySem
theorem zp {M:Mem}{l:List D}(hp:l.all (aA 63)=true):bx .ne (.lst l) (.lst []) M=some (!l.isEmpty):=by
 refine iM (v:=l.isEmpty) hp rfl ?_
 cases l<;>rfl
theorem EU {w:GW}{gc:GT}{Z:Env}{M:Mem}{ds:List D}{k:D->Mem->Prop}(f:D->Bool)(hw:ai (w Z M) fun wk M'=>M'=M/\wk M=some ds)(hz:ds.length<=sz)(he:∀d∈ds,gc (some d::Z) M=.ok (!f d) M)(hk:k (.bl (!ds.all f)) M) :
 ai (aL .ne (bX false 1 (.one 0) w (k9 gc (bU (gI 1)))) #[162] Z M) k:=by
 simp only [fT,gA,jz,bo,bD]
 refine aG hw fun wk M' ⟨e1,e2⟩=>?_
 subst e1
 refine mJ (fun d=>!f d) (fun _=>.int 1) hz e2 (fun d hd=>⟨some d::Z,rfl,he d hd,fun _=>rfl⟩) ?_
 refine ⟨MF (by rw [MN];exact Pf _ _) hz,av #[1],_,zp ?_,?_⟩
 ·rw [MC]
  intro x hx
  obtain ⟨_,_,rfl⟩:=Nu.mp hx
  rfl
 ·rw [lY];exact hk
def uG (c:Call):GS:=#[16]
theorem uF (c:Call):cY c=ag #[65] (ag (dC (.tup [2,3]) (ir (ae 1)) (uG c)) (ag (aK (aP false (aa gN ah))) aj)):=rfl
section
variable {P:Nat->Option Df}{M:Mem}{m:aV}{k L:Nat}
theorem B5 (h:iT P)(h90:P 90=some ⟨2,4,cn⟩)(n:Nat){x1 x2:Option D}{y z:D}(hm:bh m)(hy:Th (k+1) L y)(hz:Th (k+1) L z)(hL:L<=900000) :
 ai (aw (aL .ne (bX false 1 (.one 0) (eD (ae 3)) (k9 (aw #[354]) (bU (gI 1)))) #[162]) [some m.d,x1,x2,some (.tup [y,z])] M) fun b M'=>b=!(isOk (gy m y)&&isOk (gy m z))/\M'=M:=by
 simp only [eK]
 refine EU (ds:=[y,z]) (fun x=>isOk (gy m x)) ?_ (av (n:=2) #[1]) (fun d hd=>?_) ?_
 ·simp only [wq,aU]
  refine ⟨_,rfl,?_⟩
  simp
  exact ⟨rfl,rfl⟩
 ·have hd':Th (k+1) L d:=by
   simp only [Mz,MK,or_false] at hd
   rcases hd with rfl|rfl
   ·exact hy
   ·exact hz
  have hs:=jR (m:=m) hd'
  have e:=F3 h h90 n (M:=M) hm hd' hL hs
  have ec:aq 90 (ak P (n+6)) (aa (ae 1) #[31]) [some d,some m.d,x1,x2,some (.tup [y,z])] M=.ok (n8 (gy m d)) M:=(bH #[19]).trans e
  have eb:ks (n8 (gy m d))=isOk (gy m d):=by
   by_cases q:gy m d=.non
   ·rw [q];rfl
   ·rw [El hs q]
    generalize gy m d=v at q
    cases v<;>first|rfl|exact absurd rfl q
  have et:(aw #[354]:GT) [some d,some m.d,x1,x2,some (.tup [y,z])] M=.ok (!ks (n8 (gy m d))) M:=by
   unfold aw aL
   rw [ec]
   rfl
  rw [et,eb]
 ·exact ⟨_,rfl,by simp,rfl⟩
theorem B8 (h:l7 P)(h44:P 44=some ⟨2,5,cW⟩)(n:Nat){x1 x2:Option D}{r s:List Nat}(hm:bh m)(h1:dP m r)(h2:dP m s) :
 ai (aw (aL .ne (aq 44 #[182] (aa (ae 0) (aa (aF (ae 3) (gI 0)) ah))) (aq 44 #[182] (aa (ae 0) (aa (aF (ae 3) (gI 1)) ah)))) [some m.d,x1,x2,some (.tup [bI r,bI s])] M) fun b M'=>b=!decide (ends m r=ends m s)/\Sub M M':=by
 have i0:∀M:Mem,aF (ae 3) (gI 0) [some m.d,x1,x2,some (.tup [bI r,bI s])] M=.ok (bI r) M:=fun M=>rfl
 have i1:∀M:Mem,aF (ae 3) (gI 1) [some m.d,x1,x2,some (.tup [bI r,bI s])] M=.ok (bI s) M:=fun M=>rfl
 simp only [eK,fT]
 rw [bH (az (aN rfl) (az (i0 M) rfl))]
 refine aG (iF h h44 n (M:=M) hm h1.2) fun d M1 ⟨ed,S1⟩=>?_
 subst ed
 rw [bH (az (aN rfl) (az (i1 M1) rfl))]
 refine aG (iF h h44 n (M:=M1) hm h2.2) fun d M2 ⟨ed,S2⟩=>?_
 subst ed
 exact ⟨_,rM,_,rfl,rfl,S1.trans S2⟩
theorem vt (h:HasM0 P){y v:D}(hm:bh m)(hy:Th (k+1) L y)(hL:L<=900000)(hv:cH m y v)(hn:v≠.non):isOk (gy m y)=false:=by
 have e1:=om h 0 (M:=[]) hm hy hL hv hn
 have hs:=jR (m:=m) hy
 generalize gy m y=u at hs
 by_cases q:u=.non
 ·subst q
  rw [ql h 0 (M:=[]) hm hs] at e1
  cases e1
 ·cases u<;>first|rfl|exact absurd rfl q
theorem tM (h:HasM0 P){y:D}(hm:bh m)(hy:Th (k+1) L y)(hL:L<=900000)(hv:cH m y .non):isOk (gy m y)=true:=by
 have e1:=ql h 0 (M:=[]) hm hv
 have hs:=jR (m:=m) hy
 generalize gy m y=u at hs
 by_cases q:u=.non
 ·rw [q];rfl
 ·rw [om h 0 (M:=[]) hm hy hL hs q] at e1
  cases e1
theorem qD (hM:HasM0 P)(hw:iT P)(hb:l7 P)(h90:P 90=some ⟨2,4,cn⟩)(h44:P 44=some ⟨2,5,cW⟩)(n:Nat){x1:Option D}{d:D}{b:Bool}{j:Nat}(hm:bh m)(hL:L<=900000)(hd:iB m k L d b) :
 ai (uG (ak P (n+6)) [some m.d,x1,some (nD j),some d] M) fun fl M'=>Sub M M'/\fl=if b=true then .next [some m.d,x1,some (nD j),some d] else .ret (.lst [.str "rule",nD j]):=by
 obtain ⟨y,z,rfl,hy,hz,hr⟩:=hd
 have er:=B5 hw h90 n (x1:=x1) (x2:=some (nD j)) (M:=M) hm hy hz hL
 have rt:∀M':Mem,Sub M M'->∀rest:GS,ai ((ag (aK (aP false (aa (gS "rule") #[39]))) aj) [some m.d,x1,some (nD j),some (.tup [y,z])] M') (iV rest fun fl M'=>Sub M M'/\fl=.ret (.lst [.str "rule",nD j])):=fun M' S rest=>cD (kY (az rfl (az (aN rfl) rfl)) (Nl rfl)) ⟨S,rfl⟩
 unfold uG
 cases hr with
 | one y z v h1 hn =>
   rw [vt hM hm hy hL h1 hn] at er
   refine mC (R:=fun M2=>M2=M) er ?_
   rintro M2 rfl
   exact rt _ .refl _
 | two y z v h1 h2 hn =>
   rw [vt hM hm hz hL h2 hn,Bool.and_false] at er
   refine mC (R:=fun M2=>M2=M) er ?_
   rintro M2 rfl
   exact rt _ .refl _
 | both r s h1 h2 =>
   rw [tM hM hm hy hL (.ok r h1),tM hM hm hz hL (.ok s h2)] at er
   refine iJ (R:=fun M2=>M2=M) er ?_
   rintro M2 rfl
   have ee:=B8 hb h44 (n+4) (x1:=x1) (x2:=some (nD j)) (M:=M2) hm h1 h2
   by_cases q:ends m r=ends m s
   ·simp only [q,decide_true,OM] at ee ⊢
    exact iJ (R:=fun M3=>Sub M2 M3) ee fun M3 S=>⟨S,rfl⟩
   ·simp only [q,decide_false,Bool.not_false] at ee ⊢
    exact mC (R:=fun M3=>Sub M2 M3) ee fun M3 S=>rt _ S _
theorem zQ (hM:HasM0 P)(hw:iT P)(hb:l7 P)(h90:P 90=some ⟨2,4,cn⟩)(h44:P 44=some ⟨2,5,cW⟩)(h103:P 103=some ⟨2,4,cY⟩)(n:Nat){ds:List D}{i:Nat}{x:D}(hm:bh m)(hL:L<=900000)(hx:ds[i]?=some x)(hf:iB m k L x false)(hg:∀j y,j<i->ds[j]?=some y->iB m k L y true) :
 ai (ak P (n+7) 103 [m.d,.lst ds] M) fun d M'=>d=.lst [.str "rule",nD i]/\Sub M M':=by
 refine ay h103 rfl ?_
 show ai #[326] _
 rw [uF]
 refine aE #[355] ?_
 simp only [aC,dU,hG,aU]
 refine ⟨_,rfl,rfl,?_⟩
 refine fx (ds:=cf 0 ds) (fun j fl M'=>Sub M M'/\(#[128]\/(i<j/\fl=.ret (.lst [.str "rule",nD i])))) #[212] ⟨.refl,.inl ⟨Oq _,none,none,rfl⟩⟩ ?_ ?_
 ·rintro j e fl M' he ⟨S,hj⟩
  rw [cQ] at he
  obtain ⟨y,hy,rfl⟩:=MZ.mp he
  rcases hj with ⟨hj,a,b,rfl⟩|⟨hj,rfl⟩
  ·show ai (uG _ [some m.d,some (.lst ds),some (.int ((0+j:Nat):Int)),some y] M') _
   rw [Ow]
   by_cases c:j=i
   ·subst c
    rw [hx] at hy;cases hy
    exact aG (qD hM hw hb h90 h44 n hm hL hf) fun fl M2 ⟨S2,e⟩=>⟨S.trans S2,.inr ⟨Nat.lt_succ_self _,e⟩⟩
   ·exact aG (qD hM hw hb h90 h44 n hm hL (hg j y #[0] hy)) fun fl M2 ⟨S2,e⟩=>⟨S.trans S2,.inl ⟨by omega,_,_,e⟩⟩
  ·exact ⟨S,.inr ⟨by omega,rfl⟩⟩
 ·rintro fl M' ⟨S,hj⟩
  have hlt:=(Mw.mp hx).1
  have:(cf 0 ds).length=ds.length:=eE ds 0
  rcases hj with ⟨hj,_⟩|⟨_,rfl⟩
  ·omega
  ·exact ⟨rfl,S⟩
theorem B6 (hM:HasM0 P)(hw:iT P)(hb:l7 P)(h90:P 90=some ⟨2,4,cn⟩)(h44:P 44=some ⟨2,5,cW⟩)(h103:P 103=some ⟨2,4,cY⟩)(n:Nat){ds:List D}(hm:bh m)(hL:L<=900000)(hg:∀d∈ds,iB m k L d true) :
 ai (ak P (n+7) 103 [m.d,.lst ds] M) fun d M'=>d=.lst [.non]/\Sub M M':=by
 refine ay h103 rfl ?_
 show ai #[326] _
 rw [uF]
 refine aE #[355] ?_
 simp only [aC,dU,hG,aU]
 refine ⟨_,rfl,rfl,?_⟩
 refine cz (ds:=cf 0 ds) #[288] #[36] ⟨.refl,none,none,rfl⟩ ?_ ?_
 ·rintro i e Z M' he ⟨S,a,b,rfl⟩
  rw [cQ] at he
  obtain ⟨y,hy,rfl⟩:=MZ.mp he
  refine ⟨_,rfl,?_⟩
  show ai (uG _ [some m.d,some (.lst ds),some (.int ((0+i:Nat):Int)),some y] M') _
  rw [Ow]
  exact aG (qD hM hw hb h90 h44 n hm hL (hg y (MO hy))) fun fl M2 ⟨S2,e⟩=>⟨_,e,S.trans S2,_,_,rfl⟩
 ·rintro Z M' ⟨S,a,b,rfl⟩
  exact ⟨rfl,S⟩
theorem B7 (hw:iT P)(h103:P 103=some ⟨2,4,cY⟩)(n:Nat){d r:D}(hd:Th k L d)(hk:k<=60)(hL:L+1<=100)(hf:eP d=false):ak P (n+7) 103 [d,r] M=.ok (.lst [.str "machine"]) M:=by
 refine ax (ay h103 rfl ?_)
 show ai (cY (ak P (n+6)) [some d,some r,none,none] M) _
 rw [uF]
 refine ig (aM (by simp [kc hw (n+1) hd hk hL,hf])) ?_
 exact cD (kY (az rfl rfl) (Nl rfl)) ⟨rfl,rfl⟩
end
end LD
namespace LD
open PySem
theorem rH {p:D->Bool->Prop}:∀{ds:List D},(∀d∈ds,∃b,p d b)->(∀d∈ds,p d true)\/∃(i:Nat) (x:D),ds[i]?=some x/\p x false/\∀j y,j<i->ds[j]?=some y->p y true
 |[],_=>.inl fun _ h=>nomatch h
 | d :: ds, h => by
   obtain ⟨b,hb⟩:=h d MM
   cases b with
   |false=>exact .inr ⟨0,d,rfl,hb,fun j y hj=>absurd hj (Nat.not_lt_zero _)⟩
   | true =>
     rcases rH (ds:=ds) fun x hx=>h x (ME _ hx) with q|⟨i,x,h1,h2,h3⟩
     ·exact .inl fun x hx=>(Mz.mp hx).elim (fun e=>e ▸ hb) (q x)
     ·refine .inr ⟨i+1,x,h1,h2,fun j y hj hy=>?_⟩
      cases j with
      |zero=>cases hy;exact hb
      |succ j=>exact h3 j y #[0] hy
structure Has12 (P:Nat->Option Df):Prop where
 m:HasM P
 a:xV P
 r:Dy P
 w:iT P
 b:l7 P
 s:nJ P
 h44:P 44=some ⟨2,5,cW⟩
 h75:P 75=some ⟨1,3,d9⟩
 h90:P 90=some ⟨2,4,cn⟩
 h102:P 102=some ⟨2,5,cZ⟩
 h103:P 103=some ⟨2,4,cY⟩
section
variable {P:Nat->Option Df}{m:aV}{k L:Nat}(h:Has12 P)
include h
theorem A3 {ds:List D}(hm:bh m)(hL:L<=900000)(hl:ds.length<=1000)(hd:∀d∈ds,∃b,iB m k L d b):∃v,(∀M:Mem,ai (ak P 39 102 [m.d,.lst ds] M) fun d M'=>d=v/\Sub M M')/\(∀M:Mem,ai (ak P 39 103 [m.d,.lst ds] M) fun d M'=>d=v/\Sub M M')/\(v=.lst [.non]\/∃i:Nat,v=.lst [.str "rule",nD i]):=by
 rcases rH hd with q|⟨i,x,h1,h2,h3⟩
 ·refine ⟨_,fun M=>?_,fun M=>B6 h.m.toHasM0 h.w h.b h.h90 h.h44 h.h103 32 hm hL q,.inl rfl⟩
  obtain ⟨d,M',e,rfl,S⟩:=lN.mp (Br h.m h.a h.r 24 (M:=M) hm hL q)
  rw [I9 h.h102 38 e]
  exact ⟨rfl,S⟩
 ·refine ⟨_,fun M=>?_,fun M=>zQ h.m.toHasM0 h.w h.b h.h90 h.h44 h.h103 32 hm hL h1 h2 h3,.inr ⟨i,rfl⟩⟩
  have hi:=(Mw.mp h1).1
  have q:=yS h.m h.a h.r 24 (M:=M) hm hL h1 h2 h3 #[0]
  cases e:ak P 38 54 [m.d,.lst ds] M with
  |ok d M'=>rw [e] at q;exact q.elim
  |bad=>rw [e] at q;exact q.elim
  | err y M' =>
    rw [e] at q
    obtain ⟨rfl,S⟩:=q
    rw [yz h.h102 h.h75 37 (i:=(i:Int)) (by simp [oy]) e]
    exact ⟨rfl,S⟩
end
end LD
namespace LD
open PySem
theorem De {a st:GE}{Z:Env}{M:Mem}{k:D->Mem->Prop}(ha:ai (a Z M) fun x M'=>∃xs,x=.tup xs/\ai (st Z M') fun d M2=>(d=.int 1\/d=.int (-1))/\k (.tup xs) M2/\k #[292] M2):ai (qv a st Z M) k:=by
 unfold qv
 rw [br]
 refine aG ha ?_
 rintro _ M1 ⟨xs,rfl,h⟩
 rw [br]
 refine aG h ?_
 rintro d M2 ⟨rfl|rfl,h1,h2⟩
 ·exact h1
 ·exact h2
theorem Itm.good {n:Nat}{xs:List D}(h:Itm n xs):Good (6*n) (.lst xs):=by
 have:=h.len
 exact (Good.lst fun d hd=>(oo (h.all d hd)).2).mono #[0]
def Pr (d:D):Prop:=∃ys zs,d=.tup [.lst ys,.lst zs]/\Itm 42 ys/\Itm 42 zs
theorem Pr.rule {m:aV}{d:D}(h:Pr d):∃b,iB m 2 200 d b:=by
 obtain ⟨ys,zs,rfl,a,b⟩:=h
 obtain ⟨v,hv⟩:=yU (m:=m) (a.lst #[1]).th (b.lst #[1]).th
 exact ⟨v,_,_,rfl,(a.lst #[1]).th,(b.lst #[1]).th,hv⟩
theorem Pr.th {d:D}(h:Pr d):Th 4 200 d:=by
 obtain ⟨ys,zs,rfl,a,b⟩:=h
 refine .tup_of (show 2<=200 by decide) fun z hz=>?_
 rcases Mz.mp hz with rfl|hz
 ·exact (a.lst #[1]).th
 ·rw [Nc.mp hz];exact (b.lst #[1]).th
theorem Pr.good {d:D}(h:Pr d):Good 600 d:=by
 obtain ⟨ys,zs,rfl,a,b⟩:=h
 refine (Good.tup (b:=252) (ds:=[.lst ys,.lst zs]) fun z hz=>?_).mono (Nl rfl)
 rcases Mz.mp hz with rfl|hz
 ·exact a.good
 ·rw [Nc.mp hz];exact b.good
theorem Pr.rows {m:aV}{r s:List Nat}(hm:bh m)(h1:∀i∈r,i<m.deeds.length)(h2:∀i∈s,i<m.deeds.length)(l1:r.length<=42)(l2:s.length<=42):Pr (.tup [bI r,bI s]):=⟨_,_,rfl,qc hm h1 l1,qc hm h2 l2⟩
def KG (x:D):Prop:=∃ds,x=.lst ds/\ds.length<=9/\∀d∈ds,Pr d
structure Am (P:Nat->Option Df):Prop extends Has12 P where
 p:HasP P
 t:HasT P
 h35:P 35=some ⟨3,6,fF⟩
 h49:P 49=some ⟨2,7,eT⟩
 h57:P 57=some ⟨1,1,gG⟩
 h101:P 101=some ⟨2,5,dF⟩
 h104:P 104=some ⟨2,6,fW⟩
 h105:P 105=some ⟨1,14,nI⟩
section
variable {P:Nat->Option Df}{M:Mem}{m:aV}
theorem tJ (h57:P 57=some ⟨1,1,gG⟩)(n:Nat){ds:List D}(hl:ds.length<=9)(hd:∀d∈ds,Pr d):ak P (n+1) 57 [.lst ds] M=.ok (.lst ds) M:=by
 refine ax (ay h57 rfl ?_)
 simp [gG]
 refine ⟨rfl,jg (ds:=ds) id (av #[0]) rfl ?_ ⟨av #[7],by simp,rfl⟩⟩
 intro d hd'
 obtain ⟨ys,zs,rfl,a,b⟩:=hd d hd'
 have a1:=a.len
 have a2:=b.len
 refine ⟨_,rfl,ax ?_⟩
 simp
 exact ⟨av #[0],av #[0],av #[0]⟩
theorem yC (hP:HasP P)(h35:P 35=some ⟨3,6,fF⟩)(hb:l7 P)(h44:P 44=some ⟨2,5,cW⟩)(h101:P 101=some ⟨2,5,dF⟩)(n:Nat){p B:Nat}(hm:bh m)(hp:aH M p B)(hB:B<=600000):ai (ak P (n+4) 101 [.cell p,m.d] M) fun d M'=>(d=.non\/Pr d)/\aH M' p (B+600)/\aZ p M M':=by
 refine ay h101 rfl ?_
 show ai (dF (ak P (n+3)) [some (.cell p),some m.d,none,none,none] M) _
 unfold dF
 simp only [aC,dU,fY,cS]
 refine ⟨6,rfl,by decide,?_⟩
 refine qz (ds:=(List.range 6).map fun (k:Nat)=>D.int (k:Int)) (fun i Z M'=>aH M' p (B+i*100)/\aZ p M M'/\∃x2 x3 x4,Z=[some (.cell p),some m.d,x2,x3,x4]) (fun d M'=>Pr d/\aH M' p (B+600)/\aZ p M M') #[36] (fun _ _ _=>rfl) ⟨by simpa using hp,.refl,_,_,_,rfl⟩ ?_ ?_ ?_
 ·rintro i d Z M1 hd ⟨q1,k1,x2,x3,x4,rfl⟩
  have hi:i<6:=by
   have:=#[246].1
   simpa using this
  refine ⟨_,rfl,?_⟩
  refine cb (k:=fun d M'=>∃r:List Nat,d=bI r/\dP m r/\r.length<=3/\aH M' p (B+i*100+50)/\aZ p M1 M') ?_ ?_
  ·rw [bH #[108]]
   exact m7 hP h35 n hm q1 #[0] (mo:=3) #[1]
  rintro _ M2 ⟨r,rfl,hr,lr,q2,k2⟩
  refine cb (k:=fun d M'=>∃r:List Nat,d=bI r/\dP m r/\r.length<=3/\aH M' p (B+i*100+50+50)/\aZ p M2 M') ?_ ?_
  ·rw [bH #[108]]
   exact m7 hP h35 n hm q2 #[0] (mo:=3) #[1]
  rintro _ M3 ⟨s,rfl,hs,ls,q3,k3⟩
  show ai (ag _ _ [some (.cell p),some m.d,some d,some (bI r),some (bI s)] M3) _
  have et:ai ((aw (aL .ne (aq 44 (ak P (n+3)) #[237]) (aq 44 (ak P (n+3)) (aa (ae 1) #[79]))):GT) [some (.cell p),some m.d,some d,some (bI r),some (bI s)] M3) fun b M'=>b=!decide (ends m r=ends m s)/\Sub M3 M':=by
   simp only [eK,fT]
   rw [bH #[19]]
   refine aG (iF hb h44 (n+1) (M:=M3) hm hr.2) fun d M4 ⟨ed,S1⟩=>?_
   subst ed
   rw [bH #[19]]
   refine aG (iF hb h44 (n+1) (M:=M4) hm hs.2) fun d M5 ⟨ed,S2⟩=>?_
   subst ed
   exact ⟨_,rM,_,rfl,rfl,S1.trans S2⟩
  have K3:=#[324].trans k3
  by_cases q:ends m r=ends m s
  ·simp only [q,decide_true,OM] at et
   exact iJ (R:=fun M4=>Sub M3 M4) et fun M4 S=>.inl ⟨_,rfl,(S.pen q3).mono #[0],S.to K3,_,_,_,rfl⟩
  ·simp only [q,decide_false,Bool.not_false] at et
   exact mC (R:=fun M4=>Sub M3 M4) et fun M4 S=>cD (pY (aN rfl) (aN rfl)) (.inr ⟨_,rfl,.rows hm hr.2 hs.2 #[0] #[0],(S.pen q3).mono #[0],S.to K3⟩)
 ·rintro Z M1 ⟨q1,k1,x2,x3,x4,rfl⟩
  simp only [MN,Ol] at q1
  exact (⟨.inl rfl,q1,k1⟩:(D.non=.non\/Pr D.non)/\_/\_)
 ·rintro d M1 ⟨a,b,c⟩
  exact ⟨.inr a,b,c⟩
variable (h:Am P)
include h
theorem wF (n:Nat){p B:Nat}(hm:bh m)(hp:aH M p B)(hB:B<=500000):ai (ak P (n+7) 104 [.cell p,m.d] M) fun d M'=>Pr d/\aH M' p (B+700)/\aZ p M M':=by
 refine ay h.h104 rfl ?_
 show ai (fW (ak P (n+6)) [some (.cell p),some m.d,none,none,none,none] M) _
 unfold fW
 refine fG h.p (n+4) (many:=5) rfl rfl hp #[0] #[1] #[1] fun way M1 hwy q1 k1=>?_
 refine cb (k:=fun d M'=>∃r:List Nat,d=bI r/\dP m r/\r.length<=3/\aH M' p (B+1+50)/\aZ p M1 M') ?_ ?_
 ·rw [bH #[108]]
  exact m7 h.p h.h35 (n+3) hm q1 #[0] (mo:=3) #[1]
 rintro _ M2 ⟨r,rfl,hr,lr,q2,k2⟩
 have il:Itm 41 #[231]:=qc hm hr.2 #[0]
 have lr':#[231].length<=3:=by simpa using lr
 refine fG h.p (n+4) (many:=#[231].length+1) rfl (vO rfl) q2 #[0] #[0] #[0] fun at_ M3 hat q3 k3=>?_
 have K3:=#[324].trans k3
 show ai (ag _ _ [some (.cell p),some m.d,some (nD way),some (bI r),some (nD at_),none] M3) _
 have nums:∀{Z:Env}{M4:Mem}{B':Nat}{k:D->Mem->Prop},Z[0]?.getD none=some (.cell p)->aH M4 p B'->B'<=1000000->(∀d M5,(d=.int 1\/d=.int (-1))->aH M5 p (B'+1)->aZ p M4 M5->k d M5)->ai (aF (aP false (aa (gI 1) (aa (fz (gI 1)) ah))) (aq 31 (ak P (n+6)) (aa (ae 0) (aa (gI 2) ah))) Z M4) k:=fun {Z M4 B' k} e0 q hb hk=>aG (uy h.p (n+4) (many:=2) (xs:=[.int 1,.int (-1)]) e0 rfl q hb #[1] #[1] rfl rfl) fun d M5 ⟨hd,q5,k5⟩=>hk d M5 (by simpa using hd) q5 k5
 refine dR (sE (c:=2) rfl) (fun _=>?_) fun _=>?_
 ·refine cb (k:=fun d M'=>(d=.non\/Pr d)/\aH M' p (B+52+600)/\aZ p M3 M') ?_ ?_
  ·rw [bH #[19]]
   exact yC h.p h.h35 h.b h.h44 h.h101 (n+2) hm (q3.mono #[0]) #[0]
  rintro d M4 ⟨hd,q4,k4⟩
  rcases hd with rfl|hd
  ·exact cD (jH (k:=true) rfl (fun _=>pY rfl rfl) #[20]) ⟨⟨[],[],rfl,⟨by decide,fun _ z=>nomatch z⟩,⟨by decide,fun _ z=>nomatch z⟩⟩,q4.mono #[0],K3.trans k4⟩
  ·refine cD (v:=d) (jH (k:=false) ?_ #[20] (fun _=>aN rfl)) ⟨hd,q4.mono #[0],K3.trans k4⟩
   obtain ⟨ys,zs,rfl,_⟩:=hd
   rfl
 refine dR (ky (c:=2) rfl) (fun _=>?_) fun _=>?_
 ·refine cb (k:=fun d M'=>∃zs,d=.tup [bI r,.lst zs]/\Itm 42 zs/\aH M' p (B+60)/\aZ p M3 M') ?_ ?_
  ·simp only [gE,aY,bo,aU]
   refine ⟨_,rfl,?_⟩
   rw [dz,dz,wC (xs:=r.map nD) (v:=at_) rfl rfl #[0],dW,jz,aY]
   rw [bH (az (aN rfl) (az rfl (az rfl rfl)))]
   refine aG (Bi h.p h.t h.w n q3 #[0]) ?_
   rintro x M4 ⟨hx,q4,k4⟩
   simp only [bo]
   refine bD.mpr ⟨av (n:=1) #[1],mP.mpr (bD.mpr ⟨av #[7],?_⟩)⟩
   rw [qy (xs:=r.map nD) (v:=at_) rfl rfl #[0],dW]
   exact mP.mpr (bD.mpr ⟨av #[7],av (n:=2) #[1],_,rfl,il.put hx,q4.mono #[0],k4⟩)
  rintro _ M4 ⟨zs,rfl,hz,q4,k4⟩
  simp only [aC,cj]
  refine De ?_
  simp only [aU]
  refine ⟨_,rfl,_,rfl,nums rfl q4 #[0] fun d M5 hd q5 k5=>⟨hd,?_,?_⟩⟩
  ·exact ⟨⟨_,_,rfl,il.mono #[1],hz⟩,q5.mono #[0],(K3.trans k4).trans k5⟩
  ·exact ⟨⟨_,_,rfl,hz,il.mono #[1]⟩,q5.mono #[0],(K3.trans k4).trans k5⟩
 refine dR (ky (c:=3) rfl) (fun _=>?_) fun _=>?_
 ·exact cD (pY (GH rfl rfl (Ce rfl) #[0]) (aN rfl)) ⟨⟨_,_,rfl,il.put (eB (by have:=hm.d6;omega)),il.mono #[1]⟩,q3.mono #[0],K3⟩
 ·simp only [aC,cj]
  refine De ?_
  simp only [gE,aY,bo]
  rw [dz]
  have e0:aP false (aa (gI 0) ah) [some (.cell p),some m.d,some (nD way),some (bI r),some (nD at_),none] M3=.ok (.lst [.int 0]) M3:=rfl
  rw [e0,dW]
  refine aG (uy h.p (n+4) (many:=3) (xs:=[.int 41,.int 41,.int 29]) rfl rfl q3 #[0] #[1] #[1] rfl rfl) ?_
  rintro d M4 ⟨hd,q4,k4⟩
  have e1:∃z,z<=42/\eW false .mul (.lst [.int 0]) d M4=.ok (.lst (zeros z)) M4:=by
   simp only [Mz,MK,or_false] at hd
   rcases hd with rfl|rfl|rfl
   ·exact ⟨41,by decide,rfl⟩
   ·exact ⟨41,by decide,rfl⟩
   ·exact ⟨29,by decide,rfl⟩
  obtain ⟨z,hz,ez⟩:=e1
  rw [ez,dW]
  have e2:au false .mul #[48] (gI 41) [some (.cell p),some m.d,some (nD way),some (bI r),some (nD at_),none] M4=.ok (.lst (zeros 41)) M4:=rfl
  rw [e2,dW]
  have i1:Itm 42 (zeros z):=(Itm.zeros z).mono hz
  have i2:Itm 42 (zeros 41):=(Itm.zeros 41).mono #[1]
  refine ⟨av (n:=2) #[1],_,rfl,nums rfl q4 #[0] fun d M5 hd q5 k5=>⟨hd,?_,?_⟩⟩
  ·exact ⟨⟨_,_,rfl,i1,i2⟩,q5.mono #[0],(K3.trans k4).trans k5⟩
  ·exact ⟨⟨_,_,rfl,i2,i1⟩,q5.mono #[0],(K3.trans k4).trans k5⟩
theorem sW {k L:Nat}{d:D}{ds:List D}(hd:Th k L d)(hk:k<=60)(hL:L+1<=100)(hl:ds.length<=9)(hp:∀d∈ds,Pr d):∃v,(∀M:Mem,ai (ak P 39 102 [d,.lst ds] M) fun x M'=>x=v/\Sub M M')/\(∀M:Mem,ai (ak P 39 103 [d,.lst ds] M) fun x M'=>x=v/\Sub M M')/\∀M:Mem,ak P 39 40 [v,v] M=.ok #[170] M:=by
 cases hb:eP d with
 | false =>
   refine ⟨.lst [.str "machine"],fun M=>?_,fun M=>?_,fun M=>Gd h.s 37 #[3]⟩
   ·rw [yz h.h102 h.h75 37 (i:=0) (v:=.exc 3 none) (by simp [oy]) (yT h.m.toHasM0 h.r.need_rules 29 hd #[0] hb)]
    exact ⟨rfl,.refl⟩
   ·rw [B7 h.w h.h103 32 hd hk hL hb]
    exact ⟨rfl,.refl⟩
 | true =>
   obtain ⟨m,rfl,hm⟩:=EY hb
   obtain ⟨v,h1,h2,h3⟩:=A3 h.toHas12 (k:=2) (L:=200) (ds:=ds) hm #[1] #[0] fun d hd=>(hp d hd).rule
   refine ⟨v,h1,h2,fun M=>?_⟩
   rcases h3 with rfl|⟨i,rfl⟩
   ·exact lI h.s 38 (av (n:=1) #[1]) fun d hd=>by
     rw [Nc.mp hd]
     exact ax (ay h.s.same rfl (cU rfl))
   ·refine lI h.s 38 (av (n:=2) #[1]) fun d hd=>?_
    rcases Mz.mp hd with rfl|hd
    ·exact qW h.s 37 #[3]
    ·rw [Nc.mp hd];exact yH h.s 37 i
end
end LD
namespace LD
open PySem
theorem GK {ds:List D}(hl:ds.length<=9)(hp:∀d∈ds,Pr d):Th 5 200 (.lst ds):=.lst_of #[0] fun d hd=>(hp d hd).th
theorem Bz {ds:List D}(hl:ds.length<=9)(hp:∀d∈ds,Pr d):Good 20000 (.lst ds):=(Good.lst fun d hd=>(hp d hd).good).mono #[0]
def CG (c:Call):GS:=#[25]
def Di (c:Call):GS:=#[10]
def Ir (c:Call):GS:=#[70]
def oH (M:Mem)(q n:Nat):Prop:=∃ls,M[q]?=some ls/\ls.length=n/\∀x∈ls,KG x
theorem oH.keep {M M':Mem}{p q n:Nat}(h:oH M q n)(k:aZ p M M')(hq:q≠p):oH M' q n:=let ⟨cs,e,r⟩:=h;⟨cs,k.get e hq,r⟩
section
variable {P:Nat->Option Df}{M:Mem}{m:aV}(h:Am P)
include h
theorem A2 {ds:List D}{x0 x1 x2 x4 x5 x6 x7 x9 x10 x11 x12 x13:Option D}(hm:bh m)(hl:ds.length<=9)(hp:∀d∈ds,Pr d):ai (CG (ak P 39) [x0,x1,x2,some m.d,x4,x5,x6,x7,some (.lst ds),x9,x10,x11,x12,x13] M) fun fl M'=>(∃z11 z12,fl=.next [x0,x1,x2,some m.d,x4,x5,x6,x7,some (.lst ds),x9,x10,z11,z12,x13])/\Sub M M':=by
 obtain ⟨v,e1,e2,e3⟩:=sW h (fN hm) #[1] #[1] hl hp
 have ht:=GK hl hp
 have hg:=Bz hl hp
 unfold CG
 refine cg (lh (vA (az (aN rfl) rfl) ht #[1] hg #[1])) (cg (lh (i4 rfl (tJ h.h57 38 hl hp))) ?_)
 show ai (ag _ _ [x0,x1,x2,some m.d,x4,x5,x6,x7,some (.lst ds),x9,x10,some (pW (.lst ds)),some (.lst ds),x13] M) _
 refine iJ (R:=fun M2=>Sub M M2) ?_ fun M2 S=>⟨⟨_,_,rfl⟩,S⟩
 simp only [A7,lH,eK]
 rw [eR,aY,bH #[19]]
 refine aG (e1 M) ?_
 rintro _ M1 ⟨rfl,S1⟩
 rw [aY,bH #[19]]
 refine aG (e2 M1) ?_
 rintro _ M2 ⟨rfl,S2⟩
 simp only [bo]
 rw [e3 M2,dW]
 refine ⟨true,rfl,?_⟩
 show ai (aL .ne (iq (aa (ae 12) ah)) (ae 11) [x0,x1,x2,some m.d,x4,x5,x6,x7,some (.lst ds),x9,x10,some (pW (.lst ds)),some (.lst ds),x13] M2) _
 rw [fT,vA (az (aN rfl) rfl) ht #[1] hg #[1],dW]
 simp only [aU]
 exact ⟨_,rfl,_,Hk,_,rfl,rfl,S1.trans S2⟩
theorem FE {ds:List D}{bad:D}{Z:Env}(h13:Z[13]?.getD none=some bad)(h8:Z[8]?.getD none=some (.lst ds))(hb:Th 7 7 bad)(hl:ds.length<=9)(hp:∀d∈ds,Pr d):ai (Ir (ak P 39) Z M) fun fl M'=>fl=.next Z/\Sub M M':=by
 obtain ⟨v,e1,e2,e3⟩:=sW h hb #[1] #[1] hl hp
 unfold Ir
 refine iJ (R:=fun M2=>Sub M M2) ?_ fun M2 S=>⟨rfl,S⟩
 simp only [lH,eK]
 rw [eR,aY,bH (az (aN h13) (az (i4 h8 (tJ h.h57 38 hl hp)) rfl))]
 refine aG (e1 M) ?_
 rintro _ M1 ⟨rfl,S1⟩
 rw [aY,bH (az (aN h13) (az (aN h8) rfl))]
 refine aG (e2 M1) ?_
 rintro _ M2 ⟨rfl,S2⟩
 simp only [bo]
 rw [e3 M2,dW]
 exact ⟨true,rfl,rfl,S1.trans S2⟩
theorem Cb {q n B:Nat}{rs:List D}{x0 x2 x4 x7 x8 x9 x10 x11 x12 x13:Option D}(hm:bh m)(hl:rs.length<=5)(hr:∀d∈rs,Pr d)(hq:1<q)(hc:oH M q n)(hn:n<=90)(hp:aH M 1 B)(hB:B<=400000) :
 ai (Di (ak P 39) [x0,some (.cell 1),x2,some m.d,x4,some (.lst rs),some (.cell q),x7,x8,x9,x10,x11,x12,x13] M) fun fl M'=>(∃z8 z9 z10,fl=.next [x0,some (.cell 1),x2,some m.d,x4,some (.lst rs),some (.cell q),x7,z8,z9,z10,x11,x12,x13])/\oH M' q (n+1)/\aH M' 1 (B+1500):=by
 unfold Di
 refine cb (k:=fun d M'=>d=.lst rs/\M'=M) ?_ ?_
 ·simp only [dM,aY,bo,aU]
  exact ⟨_,rfl,lR.mpr (bD.mpr ⟨av #[0],rfl,rfl⟩)⟩
 rintro _ M0 ⟨rfl,e0⟩
 rw [e0]
 show ai (ag _ _ [x0,some (.cell 1),x2,some m.d,x4,some (.lst rs),some (.cell q),x7,some (.lst rs),x9,x10,x11,x12,x13] M) _
 simp only [aC,dU,fY]
 rw [dz]
 simp only [cS]
 refine aG (f9 h.p 37 (many:=2) rfl rfl hp #[0] #[1] #[1]) ?_
 rintro _ M1 ⟨v,rfl,hv,q1,k1⟩
 refine fK.mpr ⟨_,rfl,⟨by omega,by omega⟩,?_⟩
 rw [show (1+(v:Int)).toNat=1+v by omega]
 refine cz (ds:=(List.range (1+v)).map fun (k:Nat)=>D.int (k:Int)) (fun i Z M'=>aH M' 1 (B+1+i*701)/\aZ 1 M M'/\∃ss,ss.length=rs.length+i/\(∀d∈ss,Pr d)/\∃x9 x10,Z=[x0,some (.cell 1),x2,some m.d,x4,some (.lst rs),some (.cell q),x7,some (.lst ss),x9,x10,x11,x12,x13]) #[36] ⟨q1,k1,rs,rfl,hr,_,_,rfl⟩ ?_ ?_
 ·rintro i d Z M2 hd ⟨q2,k2,ss,hs,hss,y9,y10,rfl⟩
  have hi:i<1+v:=by
   have:=#[246].1
   simpa using this
  refine ⟨_,rfl,?_⟩
  refine fG h.p 37 (many:=ss.length+1) rfl (vO rfl) q2 #[0] #[0] #[0] fun at_ M3 hat q3 k3=>?_
  refine cb (k:=fun d M'=>∃x,d=.lst (ss.take at_++[x]++ss.drop at_)/\Pr x/\aH M' 1 (B+1+(i+1)*701)/\aZ 1 M3 M') ?_ ?_
  ·rw [dz,dz,wC (xs:=ss) (v:=at_) rfl rfl #[0],dW,jz,aY]
   rw [bH #[19]]
   refine aG (wF h 32 hm q3 #[0]) ?_
   rintro x M4 ⟨hx,q4,k4⟩
   simp only [bo]
   refine bD.mpr ⟨av (n:=1) #[1],mP.mpr (bD.mpr ⟨av #[7],?_⟩)⟩
   rw [qy (xs:=ss) (v:=at_) rfl rfl #[0],dW]
   exact mP.mpr (bD.mpr ⟨av #[7],x,rfl,hx,q4.mono #[0],k4⟩)
  rintro _ M4 ⟨x,rfl,hx,q4,k4⟩
  refine ⟨_,rfl,q4,(k2.trans k3).trans k4,_,?_,fun d hd=>?_,_,_,rfl⟩
  ·simp;omega
  ·rcases Nh.mp hd with hd|hd
   ·rcases Nh.mp hd with hd|hd
    ·exact hss d (Nw hd)
    ·rw [Nc.mp hd];exact hx
   ·exact hss d (N9 hd)
 ·rintro Z M2 ⟨q2,k2,ss,hs,hss,y9,y10,rfl⟩
  simp only [MN,Ol] at q2 hs
  obtain ⟨ls,e1,e2,e3⟩:=hc.keep k2 #[0]
  have lq:=(Mw.mp e1).1
  show ai (ag (jm (ae 6) (ae 8)) aj _ M2) _
  simp only [aC,yQ,aU]
  refine ⟨_,rfl,_,rfl,q,ls,rfl,e1,?_,⟨_,_,_,rfl⟩,⟨ls++[.lst ss],?_,by simp [e2],fun x hx=>?_⟩,(q2.setq hq).mono #[0]⟩
  ·exact OD (show ls.length<=100 by omega) #[1]
  ·rw [Nv lq]
  ·rcases Nh.mp hx with hx|hx
   ·exact e3 x hx
   ·rw [Nc.mp hx];exact ⟨ss,rfl,by omega,hss⟩
theorem JB (ns:List Int)(hn:ns.length<=63):∃M,ak P 40 105 [.frz #[333]] []=.ok #[170] M:=by
 have goal:ai (ak P 40 105 [.frz #[333]] []) fun d _=>d=.bl true:=by
  refine ay h.h105 rfl ?_
  show ai (nI (ak P 39) [some #[37],none,none,none,none,none,none,none,none,none,none,none,none,none] []) _
  unfold nI
  refine cb (k:=fun d M'=>d=.cell 1/\aH M' 1 0) ?_ ?_
  ·rw [bH (az (aN rfl) rfl)]
   exact D8 h.p 38 hn
  rintro _ M1 ⟨rfl,q1⟩
  simp only [aC,dU,fY,cS]
  refine ⟨4,rfl,by decide,?_⟩
  refine cz (ds:=(List.range 4).map fun (k:Nat)=>D.int (k:Int)) (fun i Z M'=>aH M' 1 (i*10000)/\∃x2 x3 x4 x5 x6 x7 x8 x9 x10 x11 x12 x13,Z=[some #[37],some (.cell 1),x2,x3,x4,x5,x6,x7,x8,x9,x10,x11,x12,x13]) #[36] ⟨q1,none,none,none,none,none,none,none,none,none,none,none,none,rfl⟩ ?_ ?_
  ·rintro i dd Z M' hd ⟨q2,x2,x3,x4,x5,x6,x7,x8,x9,x10,x11,x12,x13,rfl⟩
   have hi:i<4:=by
    have:=#[246].1
    simpa using this
   refine ⟨_,rfl,?_⟩
   refine cb (k:=fun d M''=>∃m:aV,d=m.d/\bh m/\aH M'' 1 (i*10000+300)) ?_ ?_
   ·simp only [eR,aY,bo,cS]
    show ai (ak P 39 30 [.cell 1] M') _
    refine aG (Eb h.p 38 q2) ?_
    rintro _ M3 ⟨rfl,q3,_⟩
    show ai (ak P 39 34 [.cell 1,nD 3,nD 2,nD 5] M3) _
    exact aG (wH h.p 34 q3 #[0] #[1] #[1] #[1] #[1] #[1] #[1]) fun d M4 ⟨m,e,hm,_,_,_,q4,_⟩=>⟨m,e,hm,q4⟩
   rintro _ M3 ⟨m,rfl,hm,q3⟩
   refine cb (k:=fun d M'=>∃q prs,d=.cell q/\1<q/\M'[q]?=some #[253]/\prs≠[]/\prs.length<=200/\sO m 3 prs/\aH M' 1 (i*10000+750)) ?_ ?_
   ·rw [bH #[19]]
    refine aG (Bj h.p h.h35 h.b h.h44 h.h49 35 (M:=M3) hm q3 #[0]) fun d M5 ⟨q,prs,ed,hq,eq,pne,pl,pok,q5,k5⟩=>⟨q,prs,ed,?_,eq,pne,pl,pok,q5.mono #[0]⟩
    have:=q3.lt
    omega
   rintro _ M4 ⟨q,prs,rfl,hq1,eq,pne,pl,pok,q4⟩
   have lp0:0<prs.length:=Pn.mpr pne
   refine cb (k:=fun d M'=>∃rs,d=.lst rs/\rs.length<=5/\(∀d∈rs,Pr d)/\aH M' 1 (i*10000+800)) ?_ ?_
   ·simp only [gA,fY]
    refine aG (f9 h.p 37 (many:=6) rfl rfl q4 #[0] #[1] #[1]) ?_
    rintro _ M6 ⟨many,rfl,hmany,q6,k6⟩
    have e6:=k6.get eq #[0]
    refine ⟨_,rfl,⟨by omega,by omega⟩,?_⟩
    refine comp_map (ds:=(List.range ((many:Nat):Int).toNat).map fun (k:Nat)=>D.int (k:Int)) (fun j acc M'=>(∀d∈acc,Pr d)/\aH M' 1 (i*10000+751+j)/\M'[q]?=some #[253]) (av #[7]) #[36] ⟨#[34],q6.mono #[0],e6⟩ ?_ ?_
    ·rintro j d acc M' hd _ ⟨ha,q',e'⟩
     have hj:j<6:=by
      have:=#[246].1
      simp at this;omega
     refine ⟨_,rfl,?_⟩
     show ai (aF (ae 5) (aq 31 (ak P 39) (aa (ae 2) (aa (a8 .len #[210]) ah))) [some d,some #[37],some (.cell 1),some dd,some m.d,some (.cell q),x5,x6,x7,x8,x9,x10,x11,x12,x13] M') _
     simp only [fA,aU]
     have el:a8 .len #[210] [some d,some #[37],some (.cell 1),some dd,some m.d,some (.cell q),x5,x6,x7,x8,x9,x10,x11,x12,x13] M'=.ok (nD prs.length) M':=by
      refine ax ?_
      simp only [dM,aY,bo,aU]
      exact ⟨_,rfl,uj.mpr ⟨_,e',by rw [MN],rfl⟩⟩
     refine ⟨_,rfl,aG (f9 h.p 37 (many:=prs.length) rfl el q' #[0] lp0 #[0]) ?_⟩
     rintro _ M7 ⟨at_,rfl,hat,q7,k7⟩
     have e7:=k7.get e' #[0]
     refine ⟨pairD prs[at_],?_,fun d hd=>?_,q7.mono #[0],e7⟩
     ·show (M7[q]?).bind (fun ds=>(bB ds.length (at_:Int)).bind fun j=>ds[j]?)=_
      rw [e7]
      show (bB #[253].length (at_:Int)).bind (fun j=>#[253][j]?)=_
      rw [eQ (by simpa using hat)]
      simp [hat]
     ·rcases Nh.mp hd with z|z
      ·exact ha d z
      ·rw [Nc.mp z]
       have ok:=pok _ (Nz hat)
       exact .rows hm ok.r1.2 ok.r2.2 (MF ok.l1 #[1]) (MF ok.l2 #[1])
    ·rintro acc M7 hl7 ⟨ha,q7,_⟩
     simp at hl7 q7
     exact bD.mpr ⟨av #[0],acc,rfl,by omega,ha,q7.mono #[0]⟩
   rintro _ M5 ⟨rs,rfl,hl5,hr5,q5⟩
   refine cb (k:=fun d M'=>d=.cell M5.length/\oH M' M5.length 2/\aH M' 1 (i*10000+800)) ?_ ?_
   ·have e0:aP false #[175] [some #[37],some (.cell 1),some dd,some m.d,some (.cell q),some (.lst rs),x6,x7,x8,x9,x10,x11,x12,x13] M5=.ok (.lst [.tup [.lst (zeros 40),.lst (zeros 40)]]) M5:=rfl
    have e1:=FL (M:=M5) e0 (b:=ae 5) (ys:=rs) (aN rfl) #[7]
    show ai (aP true (aa (ae 5) (aa _ ah)) [some #[37],some (.cell 1),some dd,some m.d,some (.cell q),some (.lst rs),x6,x7,x8,x9,x10,x11,x12,x13] M5) _
    rw [jz,az (aN rfl) (az e1 rfl),dW]
    refine ng.mpr ⟨av (n:=2) #[1],rfl,⟨_,List.getElem?_concat_length,rfl,fun x hx=>?_⟩,q5.app⟩
    have iz:Itm 42 (zeros 40):=(Itm.zeros 40).mono #[1]
    rcases Mz.mp hx with rfl|hx
    ·exact ⟨rs,rfl,by omega,hr5⟩
    ·rw [Nc.mp hx]
     refine ⟨_,rfl,by simp;omega,fun d hd=>?_⟩
     rcases Mz.mp hd with rfl|hd
     ·exact ⟨_,_,rfl,iz,iz⟩
     ·exact hr5 d hd
   rintro _ M6 ⟨rfl,c6,q6⟩
   have hq6:1<M5.length:=q5.lt
   generalize M5.length=z at c6 hq6
   show ai (ag _ _ [some #[37],some (.cell 1),some dd,some m.d,some (.cell q),some (.lst rs),some (.cell z),x7,x8,x9,x10,x11,x12,x13] M6) _
   simp only [aC,dU,fY,cS]
   refine ⟨4,rfl,by decide,?_⟩
   refine cz (ds:=(List.range 4).map fun (k:Nat)=>D.int (k:Int)) (fun j Z M'=>oH M' z (2+j)/\aH M' 1 (i*10000+800+j*1500)/\∃x7 x8 x9 x10,Z=[some #[37],some (.cell 1),some dd,some m.d,some (.cell q),some (.lst rs),some (.cell z),x7,x8,x9,x10,x11,x12,x13]) #[36] ⟨c6,q6,_,_,_,_,rfl⟩ ?_ ?_
   ·rintro j d Z M7 hd ⟨c7,q7,y7,y8,y9,y10,rfl⟩
    have hj:j<4:=by
     have:=#[246].1
     simpa using this
    refine ⟨_,rfl,aG (Cb h (M:=M7) (q:=z) (n:=2+j) (B:=i*10000+800+j*1500) (rs:=rs) (x0:=some #[37]) (x2:=some dd) (x4:=some (.cell q)) (x7:=some d) (x8:=y8) (x9:=y9) (x10:=y10) (x11:=x11) (x12:=x12) (x13:=x13) hm hl5 hr5 hq6 c7 #[0] q7 #[0]) ?_⟩
    rintro fl M8 ⟨⟨z8,z9,z10,rfl⟩,c8,q8⟩
    exact ⟨_,rfl,c8,q8.mono #[0],_,_,_,_,rfl⟩
   rintro Z M7 ⟨c7,q7,y7,y8,y9,y10,rfl⟩
   simp only [MN,Ol] at c7 q7
   obtain ⟨ls,el,ll,hls⟩:=c7
   show ai (ag _ _ [some #[37],some (.cell 1),some dd,some m.d,some (.cell q),some (.lst rs),some (.cell z),y7,y8,y9,y10,x11,x12,x13] M7) _
   simp only [aC,dU,wq,aU]
   refine ⟨_,rfl,rfl,?_⟩
   refine cz (ds:=ls) (fun j Z M'=>M'[z]?=some ls/\aH M' 1 (i*10000+6800)/\∃x8 x11 x12,Z=[some #[37],some (.cell 1),some dd,some m.d,some (.cell q),some (.lst rs),some (.cell z),y7,x8,y9,y10,x11,x12,x13]) (fun _ _ _ h=>h.1) ⟨el,q7.mono #[0],_,_,_,rfl⟩ ?_ ?_
   ·rintro j d Z M8 hd ⟨e8,q8,w8,w11,w12,rfl⟩
    obtain ⟨ds,rfl,hl8,hp8⟩:=hls d (MO hd)
    refine ⟨_,rfl,aG (A2 h (M:=M8) (ds:=ds) (x0:=some #[37]) (x1:=some (.cell 1)) (x2:=some dd) (x4:=some (.cell q)) (x5:=some (.lst rs)) (x6:=some (.cell z)) (x7:=y7) (x9:=y9) (x10:=y10) (x11:=w11) (x12:=w12) (x13:=x13) hm hl8 hp8) ?_⟩
    rintro fl M9 ⟨⟨z11,z12,rfl⟩,S⟩
    exact ⟨_,rfl,S.get e8,S.pen q8,_,_,_,rfl⟩
   rintro Z M8 ⟨e8,q8,w8,w11,w12,rfl⟩
   refine cb (k:=fun d M''=>Th 7 7 d/\M''[z]?=some ls/\aH M'' 1 (i*10000+6900)) ?_ ?_
   ·rw [bH #[108]]
    exact aG (vo h.p h.t h.w 5 28 #[1] (fN hm) #[1] #[1] #[1] q8 #[0]) fun d M' ⟨a,b,c⟩=>⟨a,c.get e8 #[0],b.mono #[0]⟩
   rintro bad M9 ⟨tb,e9,q9⟩
   show ai (ag _ _ [some #[37],some (.cell 1),some dd,some m.d,some (.cell q),some (.lst rs),some (.cell z),y7,w8,y9,y10,w11,w12,some bad] M9) _
   obtain ⟨last,hlast,elast⟩:∃d,d∈ls/\cu (.cell z) (.int (-1)) M9=some d:=by
    refine ⟨ls[5],Nz _,?_⟩
    show (M9[z]?).bind (fun ds=>(bB ds.length (-1)).bind fun j=>ds[j]?)=_
    rw [e9]
    have e5:bB ls.length (-1)=some 5:=by rw [ll];rfl
    show (bB ls.length (-1)).bind (fun j=>ls[j]?)=_
    rw [e5]
    exact NA _
   have e3:aP false #[323] [some #[37],some (.cell 1),some dd,some m.d,some (.cell q),some (.lst rs),some (.cell z),y7,w8,y9,y10,w11,w12,some bad] M9=.ok (.lst [.lst rs,last,.lst []]) M9:=by
    refine kY (az (aN rfl) (az ?_ (az rfl rfl))) (Nl rfl)
    unfold aF
    rw [aN (x:=.cell z) rfl]
    show cV M9 (cu (.cell z) (.int (-1)) M9)=_
    rw [elast];rfl
   simp only [aC,dU,wq]
   rw [e3,dW]
   refine ⟨rfl,?_⟩
   refine cz (ds:=[.lst rs,last,.lst []]) (fun j Z M'=>aH M' 1 (i*10000+6900)/\∃x8,Z=[some #[37],some (.cell 1),some dd,some m.d,some (.cell q),some (.lst rs),some (.cell z),y7,x8,y9,y10,w11,w12,some bad]) #[36] ⟨q9,_,rfl⟩ ?_ ?_
   ·rintro j d Z M10 hd ⟨q10,v8,rfl⟩
    have hdp:KG d:=by
     have hm':=MO hd
     simp only [Mz,MK,or_false] at hm'
     rcases hm' with rfl|rfl|rfl
     ·exact ⟨rs,rfl,by omega,hr5⟩
     ·exact hls _ hlast
     ·exact ⟨[],rfl,by decide,fun _ z=>nomatch z⟩
    obtain ⟨ds,rfl,hl8,hp8⟩:=hdp
    refine ⟨_,rfl,aG (FE h (M:=M10) (ds:=ds) (bad:=bad) rfl rfl tb hl8 hp8) ?_⟩
    rintro fl M11 ⟨rfl,S⟩
    exact ⟨_,rfl,S.pen q10,_,rfl⟩
   ·rintro Z M10 ⟨q10,v8,rfl⟩
    exact ⟨_,rfl,q10.mono #[0],_,_,_,_,_,_,_,_,_,_,_,_,rfl⟩
  ·rintro Z M' ⟨q2,x2,x3,x4,x5,x6,x7,x8,x9,x10,x11,x12,x13,rfl⟩
   exact (rfl:D.bl true=.bl true)
 obtain ⟨d,M,e,rfl⟩:=lN.mp goal
 exact ⟨M,e⟩
end
end LD
set_option maxHeartbeats 0
namespace K12
open PySem PySem.Spec PyProof.Rows L2 LD
def top (i:Nat):Stmt:=PySem.Challenge.pw_leastdeeds_k12_rules_that_hold.main.body.getD i (.Pass ⟨0,0,0,0⟩)
def q0:Str×Tok:=("leastdeeds.wholes",458)
def q1:Str×Tok:=("leastdeeds.machines",469)
def q2:Str×Tok:=("leastdeeds.runs",640)
def q3:Str×Tok:=("leastdeeds.alike",735)
def q4:Str×Tok:=("law_leastdeeds_k12_rules_that_hold",779)
noncomputable def tb:List Ent:=[⟨0,"is_between",top 17,3,["thing","low","high"],223,q0,gj,false⟩,
 ⟨1,"is_word",top 25,2,["words","thing"],230,q1,kC,false⟩,
 ⟨2,"is_place",top 26,2,["places","thing"],237,q1,jC,false⟩,
 ⟨3,"is_cost",top 27,1,["thing"],244,q1,kD,false⟩,
 ⟨4,"is_tuple_of",top 28,2,["long","thing"],251,q1,fJ,false⟩,
 ⟨5,"is_table",top 29,2,["words","thing"],256,q1,jB,false⟩,
 ⟨6,"is_double_table",top 30,2,["words","thing"],261,q1,ff,false⟩,
 ⟨7,"is_turn",top 31,3,["words","places","parts","at","table","price"],268,q1,gY,false⟩,
 ⟨8,"is_join",top 32,3,["words","places","parts","at","other","table","price"],275,q1,g7,false⟩,
 ⟨9,"is_move",top 33,3,["words","places","parts","at","other","price"],282,q1,gZ,false⟩,
 ⟨10,"is_put",top 34,3,["words","places","parts","at","word","price"],289,q1,iP,false⟩,
 ⟨11,"is_deed",top 36,3,["words","places","thing","sort","is_sort"],297,q1,g8,false⟩,
 ⟨12,"is_machine",top 37,1,["thing","words","places","deeds"],302,q1,gi,false⟩,
 ⟨13,"need_machine",top 38,1,["thing"],309,q1,dD,true⟩,
 ⟨15,"beginnings",top 39,1,["machine","words","places","deeds","starts","place"],314,q1,ft,true⟩,
 ⟨16,"is_deed_number",top 40,2,["machine","thing"],321,q1,fE,false⟩,
 ⟨17,"need_numbers",top 41,2,["machine","row","place","thing"],328,q1,cF,true⟩,
 ⟨18,"need_row",top 42,2,["machine","row"],335,q1,dY,true⟩,
 ⟨20,"turned",top 44,2,["deed","standing","sort","at","table","price"],342,q2,oC,false⟩,
 ⟨21,"joined",top 45,2,["deed","standing","sort","at","other","table","price"],349,q2,oG,false⟩,
 ⟨22,"moved",top 46,2,["deed","standing","sort","at","other","price"],356,q2,qH,false⟩,
 ⟨23,"put_in",top 47,2,["deed","standing","sort","at","word","price"],363,q2,oE,false⟩,
 ⟨24,"done",top 49,2,["deed","standing","new_word","at"],371,q2,uY,false⟩,
 ⟨25,"all_standing",top 50,3,["machine","row","beginning","standings","number"],378,q2,iQ,false⟩,
 ⟨46,"ends_of",top 51,2,["machine","row"],383,q2,ji,false⟩,
 ⟨27,"behaviour",top 52,2,["machine","row"],390,q2,i5,true⟩,
 ⟨48,"parted",top 54,3,["machine","one","other","one_ends","other_ends","start","one_end","other_end"],397,q3,oF,true⟩,
 ⟨52,"is_row",top 55,2,["machine","thing"],404,q3,iO,false⟩,
 ⟨53,"is_rule",top 56,2,["machine","thing","one","other"],411,q3,jh,false⟩,
 ⟨54,"need_rules",top 57,2,["machine","rules","number","rule"],418,q3,du,true⟩,
 ⟨28,"_law_spread",top 59,2,["cell","at","primes","one","two","three"],425,q4,jq,false⟩,
 ⟨29,"_law_open",top 60,1,["script","cells","k","cell"],432,q4,kL,false⟩,
 ⟨30,"_law_anew",top 61,1,["pen"],439,q4,kM,false⟩,
 ⟨31,"_law_take",top 62,2,["pen","many","at","cell","found"],446,q4,nS,false⟩,
 ⟨64,"_law_sign_but",top 63,2,["pen","others","all_signs","some"],451,q4,fV,false⟩,
 ⟨65,"_law_any_sign",top 64,1,["pen"],458,q4,fX,false⟩,
 ⟨66,"_law_signed",top 65,2,["pen","text","at"],465,q4,gF,false⟩,
 ⟨67,"_law_is_whole",top 66,1,["thing"],472,q4,kF,false⟩,
 ⟨40,"_law_same",top 67,2,["found","due"],477,q4,d8,false⟩,
 ⟨32,"_law_tab",top 68,2,["pen","words","kind","word","other","found"],482,q4,jD,false⟩,
 ⟨33,"_law_deed",top 69,3,["pen","words","places","kind","price","at","other"],487,q4,i6,false⟩,
 ⟨34,"_law_machine",top 70,4,["pen","words","places","most","deeds","k","again","deed"],494,q4,gu,false⟩,
 ⟨35,"_law_row",top 71,3,["pen","machine","most","kind","many","found"],499,q4,fF,false⟩,
 ⟨41,"_law_after",top 72,2,["deed","end","here","own"],506,q4,j5,false⟩,
 ⟨42,"_law_begins",top 73,1,["machine"],511,q4,jr,false⟩,
 ⟨44,"_law_ends",top 74,2,["machine","row","found","end","number"],518,q4,cW,false⟩,
 ⟨68,"_law_is_in",top 75,3,["thing","low","high"],525,q4,mM,false⟩,
 ⟨69,"_law_numbers",top 76,4,["thing","many","low","high"],530,q4,iR,false⟩,
 ⟨70,"_law_is_deed",top 77,3,["thing","words","places"],535,q4,bt,false⟩,
 ⟨71,"_law_is_machine",top 78,1,["thing"],540,q4,fg,false⟩,
 ⟨90,"_law_row_due",top 79,2,["machine","row","place","number"],547,q4,cn,false⟩,
 ⟨72,"_law_bent",top 80,3,["pen","thing","deep","kind","pick","number","at","odd","some"],554,q4,i7,false⟩,
 ⟨75,"_law_refusal",top 81,1,["caught","some","words"],561,q4,d9,false⟩,
 ⟨49,"_law_alike_pairs",top 82,2,["pen","machine","some","found","k","one","other"],566,q4,eT,false⟩,
 ⟨101,"_law_unlike_pair",top 83,2,["pen","machine","k","one","other"],573,q4,dF,false⟩,
 ⟨57,"_law_copied",top 84,1,["rules"],578,q4,gG,false⟩,
 ⟨102,"_law_told",top 85,2,["machine","rules","caught","found","e"],585,q4,cZ,false⟩,
 ⟨103,"_law_due",top 86,2,["machine","rules","number","rule"],590,q4,cY,false⟩,
 ⟨104,"_law_odd_rule",top 87,2,["pen","machine","way","one","at","found"],597,q4,fW,false⟩,
 ⟨105,"law",top 88,1,["script","pen","turn","machine","good","rules","lists","k","some","again","at","before","handed","bad"],602,q4,nI,false⟩]
def rs:Rs:=⟨[wu,sU,AU,AL,AI,AQ,AJ,FT,FW,CB,yk,sT,CC,CD,yo,wx,CF,AS,wy,FV],[vT],[wo],[Cz,wt,AE,FR],[wm,Ar,Au,Av,Aq,sR,Ap,sS]⟩
theorem Jd:Cu rs:=⟨⟨AM,yp,DY,DQ,DN,DU,DP,DR,DZ,AK,yj,ym,AN,AO,yn,AV,AR,DV,AW,FU,trivial⟩,⟨IS,trivial⟩,⟨Aw,trivial⟩,⟨AF,AG,DJ,DK,trivial⟩,⟨As,DD,DF,DG,DC,xZ,Dz,ya,trivial⟩⟩
def te0:List (Str×En):=List.map (fun x=>(x,En.bl)) ["ValueError","all","bool","enumerate","int","isinstance","len","list","range","repr","str","tuple","zip"]
def te1:List (Str×En):=[("LEAST_WORDS",.int 2),("LONGEST_ROW",.int 40),("MOST_COST",.int 3),("MOST_DEEDS",.int 6),("MOST_PLACES",.int 2),("MOST_WORDS",.int 4),("NEW_WORDS",.dct dq),("SORTS",.dct dn),("NoRow",.xi 0),("NoRule",.xi 1),("NoStep",.xk 2),("NoMachine",.xc 3)]
def te2:List (Str×En):=[("TooLong",.xc 4),("NoWord",.xk 5),("NoWork",.xk 6),("NoBound",.xk 7),("TooMany",.xk 8),("NoPlace",.xk 9),("NoDeed",.xk 10),("Nothing",.xk 11),("NoText",.xk 12),("NoLine",.xk 13),("DeedError",.de)]
def te:List (Str×En):=te0++te1++te2
def tbl:ma:=⟨tb.map (fun e=>(e.x,En.fn e.i e.r))++te,[("NoRow","TooLong",0,4)],["number","place"],[("NEW_WORDS",dq),("SORTS",dn)],[("NoRow",0),("NoRule",1)],[(147,16,27),(191,12,29),(194,11,24),(249,12,30),(268,12,14),(284,11,20),(300,12,14),(380,12,38),(431,16,55)],[(214,29,38),(220,11,20),(220,44,73)],rs,tb⟩
def Pg:Nat->Option Df:=tbl.Pg
theorem Je:∀c,tb.map (tbl.rd c)=tb.map fun e=>some (e.b c):=fun c=>by kernel_rfl
theorem tab:xS tbl:=⟨Jd,Je,by kernel_rfl,by kernel_rfl,fun _ _ _ _ _ _ _=>by kernel_rfl,fun _ _ _ _ _ _ _ _=>by kernel_rfl,fun _ _ _ _ _ _ _ _ _=>by kernel_rfl,fun _ _ _ _ _ _ _ _ _ _=>by kernel_rfl⟩
def fa:Fa:=LD.vX (tb.map fun e=>(e.i,e.f)) [(0,44),(1,63),(2,82),(3,94),(4,106),(5,118),(6,130),(7,142),(8,154),(9,166),(10,178),(11,190),(12,202),(13,214)] 24
end K12
namespace K12
open PySem PySem.Spec PyProof.Rows L2 LD
theorem BO:∀ns:List Int,ns.length<=63->∃M,ak Pg 40 105 [.frz #[333]] []=.ok #[170] M:=JB (by repeat' (first|rfl|constructor))
end K12
open PySem PySem.W PyProof.Rows K12
set_option maxRecDepth 100000 in
set_option maxHeartbeats 0 in
theorem PySem.Challenge.cw_leastdeeds_k12_rules_that_hold_holds : PySem.Challenge.rw_leastdeeds_k12_rules_that_hold.Holds := by
 w_on;o_law
 refine PySem.W.holds_open (r:=K12.xt) (q:=K12.kq) (loose:=K12.pB) (Xt:=fun s=>PySem.W.xlAt K12.kq [] s&&PySem.W.recOk (PySem.W.RowW.records K12.xt.toRowW) s) (XP:=PySem.W.XL K12.kq []) (Yf:=K12.kH.obs) (Ya:=K12.kH.val) (YP:=K12.kH.says) (N:=10806) K12.JC K12.kH.of K12.kH.keeps (fun s e=>PySem.W.xl_of s (Ot.mp e).1) PySem.W.XL.keeps (by rfl) (by rfl) (by rfl) (fun s e=>PySem.W.recFacts_of (Ot.mp e).2) (by rfl) (by first|assumption|decide +kernel) #[3] ⟨rfl,rfl,rfl,rfl,rfl,by decide +kernel⟩ ?hw ?hc
 case hw=>w_witness2
 refine L2.DH (l:=PySem.Challenge.rw_leastdeeds_k12_rules_that_hold) (n:=63) (k:=44) (x:="script") (CX:=fun w=>LD.gD PySem.Challenge.rw_leastdeeds_k12_rules_that_hold.prog w) (K:=K12.kh) (sp:=fun w=>LD.CM (K12.kh w.params)) rfl #[1] rfl ⟨rfl,by decide,by decide,rfl⟩ (fun w h Y=>PySem.W.kIn_of Y) ?F (fun w H a ns hl hO hS=>⟨a,ns,rfl,hS,hO,hl,fun _=>rfl⟩) (fun _ _ _ _ _ z=>let ⟨_,_,_,_,_,_,_,_,_,_,q⟩:=z;q)
 case F=>
  intro w mg fa h KX G hmg
  have tk:LD.Iz (K12.kh w.params) K12.tb:=⟨by kernel_rfl,by kernel_rfl,by kernel_rfl⟩
  obtain ⟨m,fd,F⟩:=LD.vj tk KX G (e:=K12.tb[59]) (Nz _)
  have d_NEW_WORDS:=LD.vN (x:="NEW_WORDS") (P:=w.params) (fa:=K12.fa) (fs:=LD.dq) (ad:=364) (es:=#[{hash:=PySem.PyData.keyHash w.params #[254],key:=PySem.Value.str #[254] 691,val:=PySem.Value.ref 342},{hash:=PySem.PyData.keyHash w.params #[255],key:=PySem.Value.str #[255] 692,val:=PySem.Value.ref 349},{hash:=PySem.PyData.keyHash w.params #[256],key:=PySem.Value.str #[256] 693,val:=PySem.Value.ref 356},{hash:=PySem.PyData.keyHash w.params #[267],key:=PySem.Value.str #[267] 694,val:=PySem.Value.ref 363}]) (n:=4) KX G #[14] #[14] (by exact LD.gV (LD.gV (LD.gV (LD.gV (LD.zA))))) #[3] #[1] #[114]
  have d_SORTS:=LD.vN (x:="SORTS") (P:=w.params) (fa:=K12.fa) (fs:=LD.dn) (ad:=290) (es:=#[{hash:=PySem.PyData.keyHash w.params #[254],key:=PySem.Value.str #[254] 575,val:=PySem.Value.ref 268},{hash:=PySem.PyData.keyHash w.params #[255],key:=PySem.Value.str #[255] 576,val:=PySem.Value.ref 275},{hash:=PySem.PyData.keyHash w.params #[256],key:=PySem.Value.str #[256] 577,val:=PySem.Value.ref 282},{hash:=PySem.PyData.keyHash w.params #[267],key:=PySem.Value.str #[267] 578,val:=PySem.Value.ref 289}]) (n:=4) KX G #[14] #[14] (by exact LD.gV (LD.gV (LD.gV (LD.gV (LD.zA))))) #[3] #[1] #[114]
  have i_NoRow:=fun base=>LD.uv (fa:=K12.fa) (w:=w) (c:=0) (x:="NoRow") (qual:="NoRow.__init__") (y:="place") (z:="no deed's number at place ") (pm:="leastdeeds.errors") (t:=187) (st:=LD.inC (K12.top 2)) (C:=44) (D:=24) (fI:=41) (cd:=40) KX G #[14] #[14] rfl #[14] #[14] #[14] #[14] ⟨rfl,rfl,rfl,by decide +kernel,rfl,by decide +kernel,by decide +kernel⟩ rfl (fun _ _=>⟨_,rfl⟩) #[3] rfl rfl rfl rfl (fun _ _=>rfl) (fun _ _ _ _ _ _ _ _=>rfl) PySem.Challenge.rw_leastdeeds_k12_rules_that_hold.prog base
  have i_NoRule:=fun base=>LD.uv (fa:=K12.fa) (w:=w) (c:=1) (x:="NoRule") (qual:="NoRule.__init__") (y:="number") (z:="no rule that holds: number ") (pm:="leastdeeds.errors") (t:=187) (st:=LD.inC (K12.top 3)) (C:=63) (D:=24) (fI:=60) (cd:=59) KX G #[14] #[14] rfl #[14] #[14] #[14] #[14] ⟨rfl,rfl,rfl,by decide +kernel,rfl,by decide +kernel,by decide +kernel⟩ rfl (fun _ _=>⟨_,rfl⟩) #[3] rfl rfl rfl rfl (fun _ _=>rfl) (fun _ _ _ _ _ _ _ _=>rfl) PySem.Challenge.rw_leastdeeds_k12_rules_that_hold.prog base
  have TO:=fun base=>LD.D5 (base:=base) (P:=PySem.Challenge.rw_leastdeeds_k12_rules_that_hold.prog) (w:=w) (t:=K12.tbl) (fa:=K12.fa) KX G #[14] (LD.FO #[14]) ⟨d_NEW_WORDS,d_SORTS,trivial⟩ ⟨i_NoRow base,i_NoRule base,trivial⟩
  have tw:LD.AllP (fun q=>LD.wj K12.fa (K12.kh w.params) mg q.1 q.2.1 q.2.2.1 q.2.2.2) K12.tbl.tw:=⟨LD.FY (LD.zu (x:="NoRow") (f:=44) KX G #[14]) (LD.zu (x:="TooLong") (f:=106) KX G #[14]) #[14],trivial⟩
  have xf:LD.AllP (fun f=>LD.we K12.fa (K12.kh w.params) f) K12.tbl.xf:=⟨LD.yb #[14],LD.yb #[14],trivial⟩
  have e:=hmg.symm.trans m
  cases e
  exact ⟨fd,fun s v=>by
   obtain ⟨oc,od,kV,doc,pm,an,cdv,ct,osl,rfl,lk,hcd⟩:=F.ex
   exact .of_eq rfl,fun base _ _=>LD.Hu (n:=39) (f:=105) (LD.A4 K12.tab tk KX G (TO base) tw.mem xf.mem #[14]) K12.BO rfl F (LD.pO (e:=K12.tb[59]) (MC.mp K12.tab.sc K12.tb[59] (Nz _))).1 rfl fun c n a b d s H E C hr=>LD.s9 (e:=K12.tb[59]) K12.tab (TO base) tw.mem xf.mem (Nz _) c n a b d s H E C hr⟩
