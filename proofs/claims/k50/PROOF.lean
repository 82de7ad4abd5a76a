import PyProof.Rows.All
import KE.KSortedM
import KE.KDictList
import KE.KIsAll
import KE.KRevIter
import KE.LcSums
import PySem.Challenge.RW_dipright_k50_whole_a_stake_struck_out
set_option Elab.async false
set_option backward.eqns.nonrecursive false
set_option genInjectivity false
set_option genSizeOf false
set_option bootstrap.genMatcherCode false
set_option linter.all false
set_option maxRecDepth 100000
set_option maxHeartbeats 4000000
set_option hygiene false
local macro_rules|`(?c)=>`(szD W H P)
local macro_rules|`(?d)=>`(model X.prog X.w)
local macro_rules|`(?e)=>`(X.length+3)
local macro_rules|`(?g)=>`(intKind prog w)
local macro_rules|`(?i)=>`(ps.map cD)
local macro_rules|`(?k)=>`(FC sz T d fo jo cs ro rest)
local macro_rules|`(?l)=>`(r.ev τ st a)
local macro_rules|`(?q)=>`(h.ev τ st a)
local macro_rules|`(?o)=>`([Y4 O [Y1 N1,Y1 N2]])
local macro_rules|`(?r)=>`(model prog w)
local macro_rules|`(?s)=>`(ts.map tK)
local macro_rules|`(?t)=>`([sO "stake",Z o,Z g.1,Z g.2.1,Z g.2.2.1,Z g.2.2.2])
local macro_rules|`(?v)=>`(RL (callD fns (m+1)))
local macro_rules|`(?w)=>`((insertAt es (t.put j).2 (tupleKeyHash ?g k,Value.ref x)))
local macro_rules|`(?y)=>`(kvD ts)
local macro_rules|`(?z)=>`(M.rn fns dl n)
local macro_rules|`(?A)=>`([Y9 [Z 24,Z (1+(1+b) / 3),Z (c / 2)],Y9 [Z (1+(1+a) / 3),Z 24,Z (c / 2)],Y9 [Z (1+(1+a) / 3),Z (1+(1+b) / 3),Z 12],Y9 [Z (1+a),Z (1+b),Z c]])
local macro_rules|`(?B)=>`(pl.map pK)
local macro_rules|`(?C)=>`([.dic O (bD W H P)])
local macro_rules|`(?D)=>`(RL (callD fns m))
local macro_rules|`(?E)=>`(Y (Y1 (c.j+9)))
local macro_rules|`(?G)=>`(Y1 st.length)
local macro_rules|`(?H)=>`(qzs t.mask (tupleKeyHash ?g k))
local macro_rules|`(?I)=>`([Y4 O []])
local macro_rules|`(?J)=>`([.ite (.and (.cmp .Eq (.idx (.var 4) (.lit (Z 0))) (.lit (sO "part"))) (.cmp .In (.idx (.var 4) (.lit (Z 1))) (.var 2))) [.expr (.meth (.var 2) .append [.var 3])] []])
local macro_rules|`(?K)=>`(s.heap.objs.size+1)
local macro_rules|`(?L)=>`(.var 0)
local macro_rules|`(?M)=>`(Sub.refl m)
local macro_rules|`(?N)=>`(r.ev τ p.2 b)
local macro_rules|`(?O)=>`(A.e c X G a S I)
local macro_rules|`(?R)=>`(voD vs)
local macro_rules|`(?S)=>`(((sp.map spD).length:J))
local macro_rules|`(?T)=>`([Z x,Z y,Z z])
local macro_rules|`(?U)=>`((.obj 807 [("extent",szD W H P),("year",Z T),("kept",Y1 1),("done",Y1 2),("back",Y1 3)]))
local macro_rules|`(?V)=>`((Y1 S.length,S++[Y4 O (vs.map Z)]))
local macro_rules|`(?W)=>`((x==("__debug__" : Y5)))
local macro_rules|`(?X)=>`((Y1 S.length,S++[Y4 O (c.map Z)]))
local macro_rules|`(?Y)=>`(E2 W H P T ts s (Kd.stake o g).f [])
local macro_rules|`(?Z)=>`((Y1 (S4++[Ya.lst O [Y1 N1,Y1 N2]]).length,S4++?o++[Y4 O r2]))
local macro_rules|`(?qa)=>`(X++up ?e (DS ?c T ?y ?s 3 ?I))
local macro_rules|`(?qb)=>`(X++up ?e (DS ?c T [] [] 3 ?I))
local macro_rules|`(?qc)=>`(qzm X N scope Cc fp s H)
local macro_rules|`(?qd)=>`(.ref s.heap.objs.size)
local macro_rules|`(?qe)=>`((.bin .Add (.lit (Z 1)) (.call 66 [.var 0,.var 1,.bin .Add (.var 2) (.lit (Z 3)),.idx (.gc (.lst [.lit (Z 16),.lit (Z 4),.lit (Z 4),.lit (Z 4)])) (.call 66 [.var 0,.var 1,.bin .Add (.var 2) (.lit (Z 2)),.lit (Z 4)])])))
local macro_rules|`(?qf)=>`(b1.trans (b2.trans b3))
local macro_rules|`(?qg)=>`(FQ W H P T D q cs rest)
local macro_rules|`(?qh)=>`([Y (.lst (sgD gs)),Y (.lst ?i),Y (.tup ?T),Y ?G,Y (Y1 (st++[Ya.lst O []]).length),Y (Z c.nm),Y (rD c.g)])
local macro_rules|`(?qi)=>`((sO "unvested",FC sz T d fo jo cs ro rest))
local macro_rules|`(?qj)=>`(r.ev τ st e)
local macro_rules|`(?qk)=>`(v.2.2.map cD)
local macro_rules|`(?ql)=>`(A.e c X G b pb hb)
local macro_rules|`(?qm)=>`(Y7×Obj)
local macro_rules|`(?qn)=>`(S.length+2)
local macro_rules|`(?qo)=>`(RL (callD fns (k+d)))
local macro_rules|`(?qp)=>`(.inl rfl)
local macro_rules|`(?qq)=>`(vst day ps)
open _root_ renaming List->L,Int->J,Nat->Y0,Option->Y3,Bool->Yb
open Bool renaming true->O,false->Y6
open Option renaming some->Y,none->B
open PySem renaming Value->Y8,Addr->Y7,Str->Y5
open PySem renaming wpAny_bind->Qq,Shared->Qz,wpAny_pure->Qx,World->Qj,Around->Qk,wpAny_field->Qv,wpAny_setField_rec->Qw,SetTable->Qy,eval->Qa,wpAny_callSpecial?_slot->Qb,bootBuiltins->Qc,wpAny_call_entry->Qd,wpAny_truthy_bool->Qe,compareOp->Qg,wpAny_mono->Qh,wpAny_newObj_type->Qi,NameKind->Ql,FuncData->Qm,sysModules->Qn,wpAny_seqItems->Qo,Params->Qp,call_meets->Qr,Builtin->Qs,assignEach->Qt,treeTable->Qu,sizeLine_eq->Q0,DictEntry->Q1,binaryOp->Q2,codeAny_mono->Q3,wpAny_holding->Q4,wpAny_attempt->Q5,importedModules->Q6,tupleKind_room_in1->Q7,wpAny_setState_of->Q8,builtinLookup_eq_fast->Q9,wpAny_rule->Zq,attributeBase->Zz,getItem->Zx,sliceBounds->Zj,wpAny_of_eq->Zk,wpAny_passesOwn->Zv,wpAny_loadPart'->Zw,wpAny_specialOf->Zy,codeAny_builtin->Za,wpAny_Call_Name_kw->Zb,codeAny->Zc,isSubtype_type->Zd,wpAny_pyIter_list->Ze,ofAClassStatement->Zf,behindInMarks->Zg,Operator->Zi,wpAny_isInstance->Zl,letOwnedTupleGo->Zn,typeLookup_type->Zo,Keyword->Zp,callerA->Zs,getMethod->Zu,wpAny_onRaise->Z1,setSearchFrom->Z2
open PySem.W renaming boot_heap->Qf,behindTheImports->Zh
open PyProof.Rows renaming AllBare->Zm,IntsAre->Zr
section
universe u
theorem Z3[Decidable p](h:p):decide p=true:=decide_eq_true h
theorem Z4[Decidable p](h:¬p):decide p=false:=decide_eq_false h
theorem Z5{h:Decidable c}(n:¬c){t e:α}:ite c t e=e:=if_neg n
theorem Z6{h:Decidable c}(n:c){t e:α}:ite c t e=t:=if_pos n
end
open PySem.Challenge renaming pw_dipright_k50_whole_a_stake_struck_out->PZW,rw_dipright_k50_whole_a_stake_struck_out->RZW
open PySem.W renaming Frag->Qqq,keepIn->Qz2,nsIn->Qjw,mg_of->Qjd,methodCall_KW->Qjg,plainGet_of->Qj0,callWith_K->Qj3,cellsFrom_some->Qkb
open List renaming length_map->Qqz,mem_map->Qqj,getElem?_eq_some_iff->Qqk,getElem?_map->Qqw,mem_singleton->Qqy,mem_cons->Qqb,size_toArray->Qqc,getElem?_eq_getElem->Qqd,map_cons->Qqg,length_cons->Qqh,mem_of_getElem?->Qqi,length_append->Qql,map_append->Qqm,mem_append_right->Qqn,filter_cons->Qqo,map_map->Qqp,mem_append->Qqr,getElem?_append_left->Qqs,filterMap_cons->Qqt,forall_mem_nil->Qqu,getElem?_set_ne->Qq0,mem_cons_of_mem->Qq3,filter_cons_of_neg->Qq4,filter_cons_of_pos->Qq5,length_take->Qq9,find?_cons->Qzq,append_assoc->Qzz,append_nil->Qzx,mem_cons_self->Qzk,getElem?_set_self->Qzv,getElem?_append_right->Qzw,take_succ_eq_append_getElem->Qzy,filter_append->Qza,mem_append_left->Qzb,all_eq_true->Qzc,length_filter_le->Qzd,nodup_cons->Qze,lookup_cons->Qzf,take_length->Qzg,not_mem_nil->Qzi,mem_filter->Qzn,getElem_of_mem->Qzr,length_eq_zero_iff->Qzs,getElem?_eq_none_iff->Qzu,mem_of_find?_eq_some->Qz0,getElem?_eq_none->Qz1,replicate_succ->Qz4,map_congr_left->Qz5,all_cons->Qz7,mem_range->Qz8,length_set->Qz9,find?_some->Qxz,getElem_mem->Qxk,filterMap_map->Qxw,length_singleton->Qxy,pairwise_cons->Qxa,pairwise_iff_getElem->Qxb,length_filterMap_le->Qxc,flatten_cons->Qxd,any_cons->Qxf,length_drop->Qxg,contains_iff_mem->Qxm,take_sublist->Qxn,nodup_append->Qxo,length_range->Qxp,getElem_map->Qxr,length_pos_iff->Qxs,mem_filterMap->Qxt,filter_nil->Qx0,getElem?_take->Qx1,find?_eq_none->Qx2,map_id->Qx3,take_of_length_le->Qx4,foldl_append->Qx6,map_nil->Qx7,filterMap_eq_map->Qx8,pairwise_append->Qx9,forall_mem_cons->Qjq,getElem?_range->Qjz,drop_eq_getElem_cons->Qjx,filter_map->Qjj,getElem?_drop->Qjk,pairwise_singleton->Qjy,any_eq_true->Qje,length_replicate->Qjh,take_append_drop->Qjl,filterMap_append->Qjm,eraseIdx_eq_take_drop_succ->Qjn,foldl_cons->Qjp,getElem_toArray->Qjr,mem_of_mem_take->Qjt,getLast?_eq_some_getLast->Qju,drop_zero->Qj1,take_succ->Qj2,set_cons_zero->Qj5,length_zipIdx->Qj6,any_eq_false->Qj7,getElem?_take_of_lt->Qkq,getElem?_replicate->Qkk,getElem?_cons_succ->Qkv,of_mem_zip->Qkw,length_nil->Qky,take_zero->Qke,mapM_cons->Qkf
open PySem.Heap renaming get?_push_of_some->Qqx,lt_size->Qqe,get?_push_size->Qqf,size_push->Qxv,get?_update_other->Qjb,get?_update_self->Qji
open Nat renaming le_refl->Qqv,ne_of_lt->Qq6,lt_of_lt_of_le->Qq7,le_trans->Qzh,zero_le->Qzl,lt_succ_self->Qzo,zero_add->Qzp,lt_or_ge->Qxx,lt_irrefl->Qxj,le_of_lt_succ->Qxe,le_succ->Qxh,ne_of_gt->Qxi,lt_of_le_of_lt->Qxu,lt_succ_of_lt->Qx5,succ_pos->Qjv,lt_trichotomy->Qja,le_add_right->Qjf,le_of_lt->Qjo,mod_lt->Qjs,add_sub_cancel->Qj4,zero_lt_succ->Qkz,sub_zero->Qkx
open Option renaming map_eq_some_iff->Qqa,isSome_iff_exists->Qz6,isSome_map->Qj8
open Array renaming getElem?_toList->Qq1,getElem?_eq_getElem->Qzj,getElem?_eq_some_iff->Qzt,length_toList->Qz3,getD_eq_getD_getElem?->Qxq,size_append->Qj9,getElem?_replicate->Qkj,getElem?_extract->Qkc,getElem?_eq_none->Qkd
open Bool renaming and_eq_true->Qq2,false_ne_true->Qq8,false_eq_true->Qzm,or_eq_true->Qxl,and_true->Qjc,eq_iff_iff->Qka,not_true->Qkg
section
universe u v
theorem oBs(a)(f:α->Y3 b):(Y a).bind f=f a:=rfl
theorem oMs(a)(f:α->b):(Y a).map f=Y (f a):=rfl
end
namespace L2
open PySem PySem.Spec PyProof.Rows
noncomputable def qqd(s:Stmt):Arguments:=match s with
 |.FunctionDef _ a _ _ _ _ _ _ _ _=>a
 |_=>{ posonlyargs:=[],args:=[],vararg:=B,kwonlyargs:=[],kw_defaults:=[],kwarg:=B,defaults:=[] }
noncomputable def qzu(s:Stmt):L Stmt:=match s with
 |.FunctionDef _ _ b _ _ _ _ _ _ _=>b
 |_=>[]
noncomputable def qza(s:Stmt):Scope:=match s with
 |.FunctionDef _ _ _ _ _ _ sc _ _ _=>sc
 |_=>{ kind:=.function,names:=[],isGenerator:=Y6,isCoroutine:=Y6 }
end L2
namespace K50
open PySem PySem.Spec PyProof.Rows
noncomputable def top(i:Y0):Stmt:=PZW.main.body.getD i (.Pass ⟨0,0,0,0⟩)
noncomputable def cb(s:Stmt)(j:Y0):Stmt:=match s with
 |.ClassDef _ _ _ b _ _ _ _ _ _ _=>b.getD j (.Pass ⟨0,0,0,0⟩)
 |_=>s
end K50
namespace HD
open PySem PySem.W PySem.Calls PyProof.Rows
noncomputable def lf:Life:=PySem.Life.mk [] [] [] 0 [] [] Bool.false #[] [] 0 Bool.false Bool.false Bool.false 0 [2000,10,10] Bool.false 0 Bool.true [] [] 0 Bool.false
noncomputable def sM:Y5:=⟨#[60,109,111,100,117,108,101,62]⟩
noncomputable def sF:Y5:=⟨#[47,99,108,97,105,109,47,99,117,116,46,112,121]⟩
noncomputable def sN:Y5:=⟨#[95,95,109,97,105,110,95,95]⟩
noncomputable def bt(l:L Obj):BT:=(l.foldl (λ(p:BT×Y0) o=>(p.1.ins p.2 o,p.2+1)) (.nil,0)).1
noncomputable def Ta(P:Qp):BT:=bt ((Qf P).objs.toList++[Obj.mk (.type "tuple") B (.seq #[]) #[],Obj.mk .none B (.fields #[]) #[],
 Obj.mk (.type "code") B (.fields #[.str sM 182,.str sM 183,.str sF 184,.int 1 0,.int 0 0,.int 0 0,.int 0 0,.int 0 0,.ref 11,.bool Y6,.int 181 0,.ref 12,.none,.none,.none,.none,.int 185 0,.int 1 0,.str sF 186]) #[],
 Obj.mk (.type "frame") B .plain #[Y (.ref 13),Y (.ref 3),Y (.ref 3),B,Y (.str sN 164),B,Y (.ref 0)]])
noncomputable def Sa(w:Qj)(os:OsState):SharedT:=⟨Ta w.params,15,lf,#[],⟨0,0,0,0⟩,187,os⟩
noncomputable abbrev an:Y3 Y8:=Y (.ref 6)
noncomputable abbrev p0:Pos:=⟨0,0,0,0⟩
noncomputable def ev(p:Program):Env:={ scope:=p.main.scope,locals:=mainNs,globals:=mainNs,cells:=[],code:=.ref 13,frame:=Y 14 }
noncomputable def cE(p:Program):Code:=.body (Zh p) (ev p)
noncomputable def Lk(p q:Program)(loose:L Y5)(Xt:Program->Qz->Yb)(ads:L Y7)(w:Qj)(s:Qz):=(staticsOk (Q6 p.main.body) (Qf w.params) s.heap&&namesBound p s.heap&&gensDone s&&laidKept (Qf w.params) s.heap,openSeen q loose (Q6 p.main.body) (Xt q) O s,ads.map s.heap.get?)
theorem fin_of:topRun Qu p w 11 an 2 s (restOf [] env c q [topFrame p0])=Y s:=by
 cases s
 rfl
noncomputable abbrev Fs(p:Program)(w:Qj)(s:Qz):Bool:=staticsOk (Q6 p.main.body) (Qf w.params) s.heap&&namesBound p s.heap&&gensDone s&&laidKept (Qf w.params) s.heap
theorem qo1{os:OsState}(z:((Qf w.params).isNs mainGlobals&&(Array.mk []:Array GenState).size==0,(Qf w.params).objs.size,(Qf w.params).nsMap mainGlobals "__annotations__")=(O,11,an))(r:topRun Qu p w 11 an N ⟨Qf w.params,#[],boot_drawn,boot_toks,os⟩ (topStub p)=Y s)(l:Fs p w s=O):topFrom Qu p w N ⟨Qf w.params,#[],boot_drawn,boot_toks,os⟩=Y s:=by
 have z1:=congrArg (·.1) z;have z2:=congrArg (·.2.1) z;have a:=congrArg (·.2.2) z;dsimp only at z1 z2 a;simp only[topFrom,z1,z2,a,r,oBs];show(match Fs p w s with|true=>Y s|false=>B)=_;rw[l]
noncomputable def Rn(p:Program)(n:Y0)(w:Qj)(os:OsState):=segRunT Qu p w 11 an 1 n (Sa w os) (piecesOf (Zh p) (ev p) (cE p) p0 [topFrame p0])
noncomputable def LA(p q:Program)(ads:L Y7)(w:Qj)(s:Qz):=staticsOk (Q6 p.main.body) (Qf w.params) s.heap
noncomputable def LI(p:Program)(w:Qj)(s:Qz):=(namesBound p s.heap,gensDone s,laidKept (Qf w.params) s.heap)
noncomputable def LH(ads:L Y7)(s:Qz):=ads.map s.heap.get?
noncomputable def LF(q:Program)(s:Qz):=seen ((recsOf q).map (·.name)) (ownsOf q) [] { s with gens:=#[] }
noncomputable def LB(p q:Program)(loose:L Y5)(Xt:Program->Qz->Yb)(s:Qz):Bool:=s.heap.keysOk (looseW q loose) ((recsOf q).map (·.name)) ((litsOf q).map (·.1)) ((clssOf q (looseW q loose)).map (·.name))&&s.heap.accountedOkI (Q6 p.main.body)&&s.heap.isNs mainGlobals&&s.heap.isNs builtinsNs&&tablesOk q s.heap&&Xt q s&&s.gens.size==0
noncomputable def LD(q:Program)(loose:L Y5)(s:Qz):=(s.heap.bltView,tabsOk q s,pinSeenD q (drecsOf q) s,clsSeenW q loose s)
noncomputable def LG(q:Program)(loose:L Y5)(s:Qz):=(wideSeen q s,plainSeenD q loose s)
theorem lo3{K:Qp->Frag}(j:∀w:Qj,Option.map (λs:Qz=>(s.heap,s.gens,s.drawn,s.toks)) (fencedOpening Qu p w N)=Y (Qf w.params,#[],boot_drawn,boot_toks))(z:∀w:Qj,((Qf w.params).isNs mainGlobals&&(Array.mk []:Array GenState).size==0,(Qf w.params).objs.size,(Qf w.params).nsMap mainGlobals "__annotations__")=(O,11,an))(pre:∀w:Qj,(λos=>topGo Qu p w 11 an 12 ⟨Qf w.params,#[],boot_drawn,boot_toks,os⟩ (topStub p))=λos=>Y ((Sa w os).abs,⟨denote Qu (cE p),cE p,p0,[topFrame p0]⟩))(blk:∀w:Qj,(λos=>segRun Qu p w 11 an 1 1 (Sa w os).abs (blockOf (Zh p) (ev p) (cE p) p0 [topFrame p0]))=λos=>Y (Flow.next,(Sa w os).abs,cE p,p0))(D:∀w:Qj,(λos=>(Rn p n w os).map λr=>(r.1,r.2.2.1,r.2.2.2,LA p q ads w r.2.1.abs))=λ_=>Y (Flow.next,cE p,p1,O))(gI:∀w:Qj,(λos=>(Rn p n w os).map λr=>LI p w r.2.1.abs)=λ_=>Y (O,O,O))(gX:∀w:Qj,(λos=>(Rn p n w os).map λr=>LH ads r.2.1.abs)=λ_=>Y ((K w.params).map λp=>Y p.2))(gZ:∀w:Qj,(λos=>(Rn p n w os).map λr=>LF q r.2.1.abs)=λ_=>Y (expectedOf q))(gB:∀w:Qj,(λos=>(Rn p n w os).map λr=>LB p q loose Xt r.2.1.abs)=λ_=>Y O)(C:∀w:Qj,(λos=>(Rn p n w os).map λr=>plainSeenE q (looseW q loose) r.2.1.abs)=λ_=>Y (plainGoodE q (looseW q loose)))(A:∀w:Qj,(λos=>(Rn p n w os).map λr=>LD q loose r.2.1.abs)=λ_=>Y (bltViewBooted,O,pinGoodD (drecsOf q),clsGoodW q loose))(y:∀w:Qj,(λos=>(Rn p n w os).map λr=>LG q loose r.2.1.abs)=λ_=>Y (wideGood q,plainGoodD q loose))(le:Nat.ble (12+(1+(n+2))) N=O):LeftO p q loose (Xt q) (λs=>ads.map s.heap.get?) (λw=>(K w.params).map λp=>Y p.2) N:=by
 intro w
 rcases Qqa.mp (j w) with⟨S,I,hS⟩
 rcases S with⟨H,g,d,t,os⟩
 have h1:H=Qf w.params:=congrArg (·.1) hS;have h2:g=#[]:=congrArg (·.2.1) hS;have x:d=boot_drawn:=congrArg (·.2.2.1) hS;have u:t=boot_toks:=congrArg (·.2.2.2) hS;subst h1 h2 x u
 rcases Qqa.mp (congrFun (D w) os) with⟨⟨f,S1,c,i⟩,run,same⟩
 have h:∀{α:Type}{g:Flow×SharedT×Code×Pos->α}{v:α},(Rn p n w os).map g=Y v->g (f,S1,c,i)=v:=λe=>by rw[run]at e; exact Option.some.inj e
 have G:f=Flow.next:=congrArg (·.1) same;have F:c=cE p:=congrArg (·.2.1) same;have E:i=p1:=congrArg (·.2.2.1) same;have i0:=h (congrFun (gI w) os);have i1:staticsOk (Q6 p.main.body) (Qf w.params) S1.abs.heap=true:=congrArg (·.2.2.2) same;have i2:namesBound p S1.abs.heap=true:=congrArg (·.1) i0;have i3:gensDone S1.abs=true:=congrArg (·.2.1) i0;have i4:laidKept (Qf w.params) S1.abs.heap=true:=congrArg (·.2.2) i0;have m:Fs p w S1.abs=true:=(by unfold Fs;rw[i1,i2,i3,i4];rfl);have o:=h (congrFun (gZ w) os);have k:=h (congrFun (gX w) os);have b:=h (congrFun (gB w) os);have c0:=h (congrFun (C w) os);have d:=h (congrFun (A w) os);have e:=h (congrFun (y w) os);have l:openSeen q loose (Q6 p.main.body) (Xt q) O S1.abs=openGood q loose:=Prod.ext o (Prod.ext (congrArg (·.1) d) (Prod.ext b (Prod.ext (congrArg (·.2.1) d) (Prod.ext (congrArg (·.2.2.1) d) (Prod.ext c0 (Prod.ext (congrArg (·.2) e) (Prod.ext (congrArg (·.1) e) (congrArg (·.2.2.2) d))))))));subst G F E;have a:=piece_app (rest:=[]) (segRun_of run) fin_of;rw[Qzx]at a;have all:=go_top (congrFun (pre w) os) (piece_block (congrFun (blk w) os) a);have more:=topRun_mono (N - (12+(1+(n+2)))) _ _ _ _ all;rw[Nat.add_sub_cancel' (Nat.le_of_ble_eq_true le)]at more;simp only[openEnds,I,oBs,qo1 (z w) more m,oMs];exact congrArg Y (Prod.ext l k)
end HD
namespace K50
open PySem L2
noncomputable def c0:L Y5:=["_law_diary","_law_size_here","_law_term_here","_law_plan_here","_law_diary_here","Diary","_law_day","_law_fact_here","tell","_law_turned","_law_script","_law_k"]
noncomputable def c1:L Y5:=["_law_rest","list","_law_found","_law_at","range","len","append","pop","_law_draw","_law_family","_law_stake","part"]
noncomputable def c2:L Y5:=["_law_some_spots","_law_spots_here","_law_spots","_law_first","min",".0","fast","_law_without","_law_told","_law_ahead","_law_family_here","_law_same"]
noncomputable def c3:L Y5:=["_law_pair","law","_law_size","_law_term","_law_plan","_law_stakes","stake","_law_other","twin","strike","_law_end","_law_fields"]
noncomputable def c4:L Y5:=["field","standing","_law_name","_law_spot","_law_row","heirs","_law_names","_law_way","title","_law_pick","_law_j","_law_vein"]
noncomputable def c5:L Y5:=["vein","_law_steps","_law_outs","_law_claim_fact","_law_claim","_law_who_here","_law_who","_law_side","_law_line","work","sell","give"]
noncomputable def c6:L Y5:=["_law_fact","_law_veins","_law_floor","join","_law_rect","_law_many","_law_pace","_law_last","_law_ways","max","_law_tall","_law_floors"]
noncomputable def c7:L Y5:=["_law_wide","_law_x","sorted","_law_y","_law_deep","tuple","_law_count","_law_stride","_law_place","__name__","dipright.diary","__init__"]
noncomputable def c8:L Y5:=["self","wide","tall","deep","term","check_district","extent","year","kept","done","back","day"]
noncomputable def c9:L Y5:=["fact","check_day","sound","BadFact","not sound for this district","Taken","a fact is kept for that day","perform","fact_on","undo","_wall","redo"]
noncomputable def c10:L Y5:=["deed","put","there","NoFact","no fact is kept for that day","deeds","facts","size","word","entered","pass_to","last"]
noncomputable def c11:L Y5:=["Field","enter","known","many","NoDeed","not so many deeds are done","other","law_dipright_k50_whole_a_stake_struck_out","_law_cell","_law_turn","_law_step","_law_one"]
noncomputable def c12:L Y5:=["_law_two","_law_due","isinstance","_law_like","all","int","bool","str","_law_sizes","DEPTHS","TERMS","COIN"]
noncomputable def c13:L Y5:=["fits","LENGTHS","BadNumber","not the numbers of a district","DAYS","not a day","found","joints","staked","Claims","dug","debts"]
noncomputable def c14:L Y5:=["Late","the field's day isn't earlier","answer","enter_vein","enter_join","enter_stake","dig","enter_dig","pay","enter_pay","change","vest_all"]
noncomputable def c15:L Y5:=["good","novein","order","joined","outcrops","extend","who","spot","worth","owe","owner","gatekeeper"]
noncomputable def c16:L Y5:=["mouth","claim","over","debtor","creditor","tenths","the field's day is later","today","veins","claims","name","NoVein"]
noncomputable def c17:L Y5:=["no vein is known by that day","get","named","ground","vested","given","state","years","entries","dict","first_claim","ranks"]
noncomputable def c18:L Y5:=["cell","standing_grounds","inside","dipright.field","pairs","outcrop","pair","covers","dipright.title","ground_of","ranked","grounds"]
noncomputable def c19:L Y5:=["heads","first","behind","has_one","dip","columns_at","climbed","steps","x","y","step","reversed"]
noncomputable def c20:L Y5:=["MOVES","in_ground","met_columns","met","joint","column","enumerate","OutOfGround","not a spot of the district","dipright.reach","through","days"]
noncomputable def c21:L Y5:=["counted","dipright.claims","Claim","piece","fallen","unvested","stands","book","row","names","NoClaim","no claim is known by that day"]
noncomputable def c22:L Y5:=["vest","noclaim","ended","whole","pieces","parted","nocut","insert","index","dipright.veins","rect","some"]
noncomputable def c23:L Y5:=["any","can_part","side","line","ahead","LEFT","TOP","LOW","RIGHT","dipright.years","dipright.ground","is_cell"]
noncomputable def c24:L Y5:=["thing","all_fit","good_steps","good_outcrops","MOST_COLUMNS","set","sound_vein","numbers_agree","ASKS","COINS","below","folk"]
noncomputable def c25:L Y5:=["floor","coins","bounds","FOLK","SIDES","LINES","STEPS","value","bound","asked","values","kind"]
noncomputable def c26:L Y5:=["zip","dipright.facts","DiprightError","k","dipright.errors","ValueError","/claim/cut.py","__doc__","__package__","__loader__","__spec__","__annotations__"]
noncomputable def c27:L Y5:=["__builtins__","__file__","__cached__","__main__","__module__","__firstlineno__","__static_attributes__","__weakref__","Claim.__init__","Claim.piece","Claim.twin","Claim.state"]
noncomputable def c28:L Y5:=["__dict__","Claims.__init__","Claims.names","Claims.named","Claims.standing","Claims.stake","Claims.vest","Claims.vest_all","Claims.change","Claims.part","Claims.twin","Field.__init__"]
noncomputable def c29:L Y5:=["Field.enter","Field.answer","Field.enter_vein","Field.enter_join","Field.enter_stake","Field.enter_dig","Field.enter_pay","Field.gatekeeper","Field.owe","Field.pass_to","Field.today","Field.size"]
noncomputable def c30:L Y5:=["Field.term","Field.veins","Field.claims","Field.vein","Field.joined","Field.claim","Field.state","Field.years","Field.standing","Field.entries","Field.twin","Diary.__init__"]
noncomputable def c31:L Y5:=["Diary.tell","Diary.strike","Diary.undo","Diary.redo","Diary.perform","Diary.put","Diary.fact_on","Diary.deeds","Diary.facts","Diary.size","Diary.term","Diary.word"]
noncomputable def c32:L Y5:=["Diary.field","Diary.entered","Diary.known","Diary.twin"]
noncomputable def Al:L (L Y5):=[c0,c1,c2,c3,c4,c5,c6,c7,c8,c9,c10,c11,c12,c13,c14,c15,c16,c17,c18,c19,c20,c21,c22,c23,c24,c25,c26,c27,c28,c29,c30,c31,c32]
noncomputable def Af(i j:Y0):Y5:=(Al.getD i []).getD j ⟨#[]⟩
noncomputable def b0:String:="dict"
noncomputable def b1:String:="__main__.__loader__#opaque"
noncomputable def b2:String:="tuple"
noncomputable def b3:String:="code"
noncomputable def b4:String:="function"
noncomputable def b5:String:="ValueError"
noncomputable def b6:String:="ValueError.__new__"
noncomputable def b7:String:="type"
noncomputable def b8:String:="Exception"
noncomputable def b9:String:="BaseException"
noncomputable def b10:String:="object"
noncomputable def b11:String:="ExceptionGroup.__weakref__"
noncomputable def b12:String:="getset_descriptor"
noncomputable def b13:String:="object.__new__"
noncomputable def b14:String:="function.__dict__"
noncomputable def b15:String:="function.__dict__#set"
lay_quick Af b0 b1 b2 b3 b4 b5 b6 b7 b8 b9 b10 b11 b12 b13 b14 b15
def Hy(a:Y0->Y0->Y5)(i:Y0)(p:Prop):Y0->L Y5->Prop
 |_,[]=>p
 |j,x::r=>x=a i j->Hy a i p (j+1) r
def Hz(a:Y0->Y0->Y5)(p:Prop):Y0->L (L Y5)->Prop
 |_,[]=>p
 |i,c::r=>Hy a i (Hz a p (i+1) r) 0 c
noncomputable def G(a:Y0->Y0->Y5):Program:=by
 refine'(?f:(x:Program)->Hz a (PZW=x) 0 Al->Program) _ ?h
 (case f=>exact λx _=>x)
 (case h=>(repeat intro _); show PZW=_; delta PZW; conv=>lhs; simp only[*,Nat.reduceAdd])
noncomputable abbrev fnD(x y:Y5)(s:Stmt):=FuncData.mk x y (qqd s) (.stmts (qzu s)) (qza s)
noncomputable abbrev kh:=PyData.keyHash
noncomputable abbrev de(P:Qp)(x:Y5)(k:Y0)(v:Y8):=DictEntry.mk (kh P x) (.str x k) v
noncomputable abbrev oq(u:String)(x:Array Y8):=Obj.mk (.type u) Option.none (.seq x) #[]
noncomputable abbrev zA(u:String)(a:Y0->Y0->Y5)(i j v w k:Y0)(ln n:J)(r p:Y0):=Obj.mk (.type u) Option.none (.fields #[.str (a i j) k,.str (a v w) (k+1),.str (a 26 6) (k+2),.int ln 0,.int n 0,.int 0 0,.int 0 0,.int 3 0,.ref r,.bool Bool.true,.int 181 0,.ref (r+1),.none,.ref (r+2),.ref (r+3),.ref (r+4),.int (.ofNat p) 0,.int ln 0,.str (a 26 6) (p+1)]) #[]
noncomputable abbrev zB(u:String)(a:Y0->Y0->Y5)(i j v w k:Y0)(ln n:J)(r p:Y0):=Obj.mk (.type u) Option.none (.fields #[.str (a i j) k,.str (a v w) (k+1),.str (a 26 6) (k+2),.int ln 0,.int n 0,.int 0 0,.int 0 0,.int 3 0,.ref r,.bool Bool.true,.int 181 0,.ref (r+1),.none,.none,.none,.ref (r+2),.int (.ofNat p) 0,.int ln 0,.str (a 26 6) (p+1)]) #[]
noncomputable abbrev zA2(u:String)(a:Y0->Y0->Y5)(i j:Y0):=zA u a i j i j
noncomputable abbrev zB2(u:String)(a:Y0->Y0->Y5)(i j:Y0):=zB u a i j i j
noncomputable abbrev zM(u:String)(a:Y0->Y0->Y5)(i j v w:Y0)(s:Stmt)(x y k r:Y0):=Obj.mk (.type u) Option.none (.func (fnD (a i j) (a v w) s 3 [] .none .none .none (.str (a x y) k) Option.none (.ref r) .none 0)) #[]
noncomputable abbrev zF(u:String)(a:Y0->Y0->Y5)(i j:Y0):=zM u a i j i j
noncomputable abbrev zR(P:Qp)(a:Y0->Y0->Y5)(i j k r:Y0):=de P (a i j) k (.ref r)
noncomputable def KG(tp:Y0->Stmt)(a:Y0->Y0->Y5)(u0 u1 u2 u3 u4 u5 u6 u7 u8 u9 u10 u11 u12 u13 u14 u15:String)(P:Qp):Qqq:=(nat_lit 3,Obj.mk (.type u0) Option.none (.dict #[de P (a 7 9) 165 (.str (a 11 7) 1301),de P (a 26 7) 166 .none,de P (a 26 8) 167 .none,de P (a 26 9) 168 (.builtin u1),de P (a 26 10) 169 .none,zR P a 26 11 170 6,zR P a 27 0 171 4,de P (a 27 1) 173 (.str (a 26 6) 172),de P (a 27 2) 174 .none,zR P a 9 10 193 21,zR P a 26 2 213 31,zR P a 13 2 229 44,zR P a 9 3 245 56,zR P a 14 0 261 68,zR P a 9 5 277 80,zR P a 10 3 293 92,zR P a 11 4 309 104,zR P a 16 11 325 116,zR P a 21 10 341 128,zR P a 20 7 357 140,zR P a 13 4 362 143,zR P a 25 3 365 144,zR P a 25 4 368 145,zR P a 25 5 371 146,zR P a 25 6 374 147,zR P a 24 9 377 148,de P (a 24 4) 379 (.int 16 378),zR P a 24 8 422 149,zR P a 25 2 429 164,zR P a 13 0 437 171,zR P a 24 1 443 176,zR P a 23 11 451 183,zR P a 24 2 459 190,zR P a 24 3 465 195,zR P a 24 6 473 202,zR P a 24 7 480 209,zR P a 9 2 488 216,de P (a 23 5) 492 (.int 0 491),de P (a 23 6) 494 (.int 1 493),de P (a 23 8) 496 (.int 2 495),de P (a 23 7) 498 (.int 3 497),zR P a 18 2 506 223,zR P a 19 3 512 228,zR P a 23 1 521 235,zR P a 22 5 532 242,zR P a 20 1 540 249,zR P a 21 0 552 256,zR P a 20 10 560 263,zR P a 21 2 625 301,zR P a 13 9 741 383,zR P a 20 0 756 393,zR P a 19 6 768 400,zR P a 20 2 774 405,zR P a 19 5 780 410,zR P a 18 9 790 417,zR P a 18 5 798 424,zR P a 15 4 804 429,zR P a 18 7 812 436,zR P a 18 1 820 441,zR P a 18 10 833 448,zR P a 4 5 842 455,zR P a 17 10 849 462,zR P a 4 8 857 469,zR P a 15 10 866 476,zR P a 16 2 876 483,zR P a 13 1 881 484,zR P a 12 9 884 485,zR P a 12 10 887 486,de P (a 12 11) 889 (.int 10 888),zR P a 8 5 899 493,zR P a 9 1 906 500,zR P a 11 0 1134 678,zR P a 0 5 1300 807,zR P a 1 8 1318 818,zR P a 2 11 1324 823,zR P a 3 2 1336 830,zR P a 3 3 1345 837,zR P a 2 2 1351 842,zR P a 6 4 1364 849,zR P a 5 1 1370 854,zR P a 5 2 1386 861,zR P a 5 6 1395 868,zR P a 4 9 1405 875,zR P a 4 11 1414 882,zR P a 5 3 1429 889,zR P a 6 0 1435 894,zR P a 3 4 1449 901,zR P a 3 10 1460 908,zR P a 0 0 1472 915,zR P a 0 9 1484 922,zR P a 1 9 1495 929,zR P a 2 0 1501 934,zR P a 2 7 1507 939,zR P a 3 1 1513 944] 94) #[]) ::
(nat_lit 143,oq u2 #[.int 1 360,.int 400 361]) ::
(nat_lit 144,oq u2 #[.int 1 363,.int 40 364]) ::
(nat_lit 145,oq u2 #[.int 0 366,.int 1 367]) ::
(nat_lit 146,oq u2 #[.int 1 369,.int 23 370]) ::
(nat_lit 147,oq u2 #[.int 0 372,.int 4 373]) ::
(nat_lit 148,oq u2 #[.int 1 375,.int 1000000 376]) ::
(nat_lit 149,Obj.mk (.type u0) Option.none (.dict #[zR P a 6 3 380 150,zR P a 3 6 384 151,zR P a 5 9 390 152,zR P a 5 10 392 153,zR P a 1 11 395 154,zR P a 5 11 400 155,zR P a 14 6 402 156,zR P a 14 8 410 157] 8) #[]) ::
(nat_lit 150,oq u2 #[.str (a 8 11) 381,.str (a 8 11) 382,.str (a 24 10) 383]) ::
(nat_lit 151,oq u2 #[.str (a 24 11) 385,.str (a 19 8) 386,.str (a 19 9) 387,.str (a 19 8) 388,.str (a 19 9) 389]) ::
(nat_lit 152,oq u2 #[.str (a 8 11) 391]) ::
(nat_lit 153,oq u2 #[.str (a 8 11) 393,.str (a 24 11) 394]) ::
(nat_lit 154,oq u2 #[.str (a 8 11) 396,.str (a 23 2) 397,.str (a 23 3) 398,.str (a 24 11) 399]) ::
(nat_lit 155,oq u2 #[.str (a 8 11) 401]) ::
(nat_lit 156,oq u2 #[.str (a 24 11) 403,.str (a 19 8) 404,.str (a 19 9) 405,.str (a 19 8) 406,.str (a 19 9) 407,.str (a 25 0) 408,.str (a 25 1) 409]) ::
(nat_lit 157,oq u2 #[.str (a 24 11) 411,.str (a 24 11) 412,.str (a 25 1) 413]) ::
(nat_lit 163,zA2 u3 a 25 2 423 34 1 158 427) ::
(nat_lit 164,zF u4 a 25 2 (tp 21) 26 1 358 163) ::
(nat_lit 170,zA2 u3 a 13 0 430 36 2 165 435) ::
(nat_lit 171,zF u4 a 13 0 (tp 22) 26 1 358 170) ::
(nat_lit 175,zB2 u3 a 24 1 438 40 3 172 441) ::
(nat_lit 176,zF u4 a 24 1 (tp 23) 26 1 358 175) ::
(nat_lit 182,zA2 u3 a 23 11 444 45 2 177 449) ::
(nat_lit 183,zF u4 a 23 11 (tp 24) 26 1 358 182) ::
(nat_lit 189,zA2 u3 a 24 2 452 47 2 184 457) ::
(nat_lit 190,zF u4 a 24 2 (tp 25) 26 1 358 189) ::
(nat_lit 194,zB2 u3 a 24 3 460 49 2 191 463) ::
(nat_lit 195,zF u4 a 24 3 (tp 26) 26 1 358 194) ::
(nat_lit 201,zA2 u3 a 24 6 466 55 2 196 471) ::
(nat_lit 202,zF u4 a 24 6 (tp 27) 26 1 358 201) ::
(nat_lit 208,zA2 u3 a 24 7 474 57 1 203 478) ::
(nat_lit 209,zF u4 a 24 7 (tp 28) 26 1 358 208) ::
(nat_lit 215,zA2 u3 a 9 2 481 63 2 210 486) ::
(nat_lit 216,zF u4 a 9 2 (tp 29) 26 1 358 215) ::
(nat_lit 222,zA2 u3 a 18 2 499 74 2 217 504) ::
(nat_lit 223,zF u4 a 18 2 (tp 35) 23 10 489 222) ::
(nat_lit 227,zB2 u3 a 19 3 507 76 2 224 510) ::
(nat_lit 228,zF u4 a 19 3 (tp 36) 23 10 489 227) ::
(nat_lit 234,zA2 u3 a 23 1 513 78 3 229 519) ::
(nat_lit 235,zF u4 a 23 1 (tp 37) 23 10 489 234) ::
(nat_lit 241,zA2 u3 a 22 5 522 80 3 236 530) ::
(nat_lit 242,zF u4 a 22 5 (tp 38) 23 10 489 241) ::
(nat_lit 248,zA2 u3 a 20 1 533 90 2 243 538) ::
(nat_lit 249,zF u4 a 20 1 (tp 39) 23 10 489 248) ::
(nat_lit 255,zA2 u3 a 21 0 543 93 2 250 550) ::
(nat_lit 256,zF u4 a 21 0 (tp 41) 23 9 541 255) ::
(nat_lit 262,zA2 u3 a 20 10 553 99 2 257 558) ::
(nat_lit 263,zF u4 a 20 10 (tp 42) 23 9 541 262) ::
(nat_lit 276,zA u3 a 7 11 27 8 575 104 5 271 583) ::
(nat_lit 277,zM u4 a 7 11 27 8 (cb (tp 44) 0) 21 1 561 276) ::
(nat_lit 283,zA u3 a 21 3 27 9 586 112 3 278 593) ::
(nat_lit 284,zM u4 a 21 3 27 9 (cb (tp 44) 1) 21 1 561 283) ::
(nat_lit 297,zA u3 a 17 6 27 11 604 122 2 292 609) ::
(nat_lit 298,zM u4 a 17 6 27 11 (cb (tp 44) 3) 21 1 561 297) ::
(nat_lit 300,Obj.mk (.type u0) Option.none (.dict #[de P (a 27 4) 570 (.str (a 21 1) 561),de P (a 27 5) 574 (.int 102 573),zR P a 7 11 585 277,zR P a 21 3 595 284,zR P a 3 8 603 291,zR P a 17 6 611 298,zR P a 27 6 618 299,zR P a 28 0 620 302,zR P a 27 7 622 303,de P (a 26 7) 623 .none] 4) #[]) ::
(nat_lit 301,Obj.mk (.type u7) Option.none (.cls (ClassData.mk (a 21 2) [.type u10] [.ref 301,.type u10] 300 (a 21 2) Bool.true [] [] Bool.false Option.none Bool.false)) #[Option.none,Option.none,Option.some (.str (a 21 2) 563),Option.some (.str (a 21 2) 571),Option.some (.builtin u13),Option.some (.bool Bool.true)]) ::
(nat_lit 318,zA u3 a 7 11 28 1 638 132 2 313 643) ::
(nat_lit 319,zM u4 a 7 11 28 1 (cb (tp 45) 0) 21 1 561 318) ::
(nat_lit 325,zA u3 a 21 9 28 2 646 137 1 320 650) ::
(nat_lit 326,zM u4 a 21 9 28 2 (cb (tp 45) 1) 21 1 561 325) ::
(nat_lit 332,zA u3 a 17 2 28 3 653 140 2 327 658) ::
(nat_lit 333,zM u4 a 17 2 28 3 (cb (tp 45) 2) 21 1 561 332) ::
(nat_lit 337,zB u3 a 4 1 28 4 661 145 2 334 664) ::
(nat_lit 338,zM u4 a 4 1 28 4 (cb (tp 45) 3) 21 1 561 337) ::
(nat_lit 344,zA u3 a 3 6 28 5 667 148 5 339 675) ::
(nat_lit 345,zM u4 a 3 6 28 5 (cb (tp 45) 4) 21 1 561 344) ::
(nat_lit 351,zA u3 a 22 0 28 6 678 152 4 346 686) ::
(nat_lit 352,zM u4 a 22 0 28 6 (cb (tp 45) 5) 21 1 561 351) ::
(nat_lit 358,zA u3 a 14 11 28 7 689 158 3 353 696) ::
(nat_lit 359,zM u4 a 14 11 28 7 (cb (tp 45) 6) 21 1 561 358) ::
(nat_lit 365,zA u3 a 14 10 28 8 699 162 3 360 707) ::
(nat_lit 366,zM u4 a 14 10 28 8 (cb (tp 45) 7) 21 1 561 365) ::
(nat_lit 372,zA u3 a 1 11 28 9 710 180 3 367 718) ::
(nat_lit 373,zM u4 a 1 11 28 9 (cb (tp 45) 8) 21 1 561 372) ::
(nat_lit 382,Obj.mk (.type u0) Option.none (.dict #[de P (a 27 4) 633 (.str (a 21 1) 561),de P (a 27 5) 637 (.int 130 636),zR P a 7 11 645 319,zR P a 21 9 652 326,zR P a 17 2 660 333,zR P a 4 1 666 338,zR P a 3 6 677 345,zR P a 22 0 688 352,zR P a 14 11 698 359,zR P a 14 10 709 366,zR P a 1 11 720 373,zR P a 3 8 730 380,zR P a 27 6 734 381,zR P a 28 0 736 384,zR P a 27 7 738 385,de P (a 26 7) 739 .none] 4) #[]) ::
(nat_lit 383,Obj.mk (.type u7) Option.none (.cls (ClassData.mk (a 13 9) [.type u10] [.ref 383,.type u10] 382 (a 13 9) Bool.true [] [] Bool.false Option.none Bool.false)) #[Option.none,Option.none,Option.some (.str (a 13 9) 626),Option.some (.str (a 13 9) 634),Option.some (.builtin u13),Option.some (.bool Bool.true)]) ::
(nat_lit 388,oq u2 #[.int 0 744,.int 0 745]) ::
(nat_lit 389,oq u2 #[.int 1 746,.int 0 747]) ::
(nat_lit 390,oq u2 #[.int (-1) 749,.int 0 750]) ::
(nat_lit 391,oq u2 #[.int 0 751,.int 1 752]) ::
(nat_lit 392,oq u2 #[.int 0 753,.int (-1) 755]) ::
(nat_lit 393,oq u2 #[.ref 388,.ref 389,.ref 390,.ref 391,.ref 392]) ::
(nat_lit 399,zA2 u3 a 19 6 757 201 3 394 766) ::
(nat_lit 400,zF u4 a 19 6 (tp 48) 22 9 742 399) ::
(nat_lit 404,zB2 u3 a 20 2 769 210 4 401 772) ::
(nat_lit 405,zF u4 a 20 2 (tp 49) 22 9 742 404) ::
(nat_lit 409,zB2 u3 a 19 5 775 217 2 406 778) ::
(nat_lit 410,zF u4 a 19 5 (tp 50) 22 9 742 409) ::
(nat_lit 416,zA2 u3 a 18 9 783 227 2 411 788) ::
(nat_lit 417,zF u4 a 18 9 (tp 52) 20 9 781 416) ::
(nat_lit 423,zA2 u3 a 18 5 791 229 2 418 796) ::
(nat_lit 424,zF u4 a 18 5 (tp 53) 20 9 781 423) ::
(nat_lit 428,zB2 u3 a 15 4 799 231 2 425 802) ::
(nat_lit 429,zF u4 a 15 4 (tp 54) 20 9 781 428) ::
(nat_lit 435,zA2 u3 a 18 7 805 233 2 430 810) ::
(nat_lit 436,zF u4 a 18 7 (tp 55) 20 9 781 435) ::
(nat_lit 440,zB2 u3 a 18 1 815 236 1 437 818) ::
(nat_lit 441,zF u4 a 18 1 (tp 57) 18 8 813 440) ::
(nat_lit 447,zA2 u3 a 18 10 821 238 3 442 831) ::
(nat_lit 448,zF u4 a 18 10 (tp 58) 18 8 813 447) ::
(nat_lit 454,zA2 u3 a 4 5 834 247 2 449 840) ::
(nat_lit 455,zF u4 a 4 5 (tp 59) 18 8 813 454) ::
(nat_lit 461,zA2 u3 a 17 10 843 250 1 456 847) ::
(nat_lit 462,zF u4 a 17 10 (tp 60) 18 8 813 461) ::
(nat_lit 468,zA2 u3 a 4 8 850 252 2 463 855) ::
(nat_lit 469,zF u4 a 4 8 (tp 61) 18 8 813 468) ::
(nat_lit 484,oq u2 #[.int 1 879,.int 24 880]) ::
(nat_lit 485,oq u2 #[.int 0 882,.int 12 883]) ::
(nat_lit 486,oq u2 #[.int 1 885,.int 400 886]) ::
(nat_lit 492,zA2 u3 a 8 5 890 267 4 487 897) ::
(nat_lit 493,zF u4 a 8 5 (tp 69) 18 3 877 492) ::
(nat_lit 499,zA2 u3 a 9 1 900 270 1 494 904) ::
(nat_lit 500,zF u4 a 9 1 (tp 70) 18 3 877 499) ::
(nat_lit 513,zA u3 a 7 11 28 11 919 275 5 508 927) ::
(nat_lit 514,zM u4 a 7 11 28 11 (cb (tp 71) 0) 18 3 877 513) ::
(nat_lit 520,zA u3 a 11 1 29 0 930 286 3 515 936) ::
(nat_lit 521,zM u4 a 11 1 29 0 (cb (tp 71) 1) 18 3 877 520) ::
(nat_lit 527,zA u3 a 14 2 29 1 939 295 2 522 944) ::
(nat_lit 528,zM u4 a 14 2 29 1 (cb (tp 71) 2) 18 3 877 527) ::
(nat_lit 534,zA u3 a 14 3 29 2 947 308 2 529 952) ::
(nat_lit 535,zM u4 a 14 3 29 2 (cb (tp 71) 3) 18 3 877 534) ::
(nat_lit 541,zA u3 a 14 4 29 3 955 313 2 536 962) ::
(nat_lit 542,zM u4 a 14 4 29 3 (cb (tp 71) 4) 18 3 877 541) ::
(nat_lit 548,zA u3 a 14 5 29 4 965 325 2 543 972) ::
(nat_lit 549,zM u4 a 14 5 29 4 (cb (tp 71) 5) 18 3 877 548) ::
(nat_lit 583,zA u3 a 10 10 29 9 1013 355 2 578 1018) ::
(nat_lit 584,zM u4 a 10 10 29 9 (cb (tp 71) 10) 18 3 877 583) ::
(nat_lit 597,zA u3 a 10 7 29 11 1028 364 1 592 1032) ::
(nat_lit 598,zM u4 a 10 7 29 11 (cb (tp 71) 12) 18 3 877 597) ::
(nat_lit 611,zA u3 a 16 8 30 1 1042 370 1 606 1046) ::
(nat_lit 612,zM u4 a 16 8 30 1 (cb (tp 71) 14) 18 3 877 611) ::
(nat_lit 625,zA u3 a 5 0 30 3 1056 376 2 620 1061) ::
(nat_lit 626,zM u4 a 5 0 30 3 (cb (tp 71) 16) 18 3 877 625) ::
(nat_lit 632,zA u3 a 15 3 30 4 1064 381 2 627 1069) ::
(nat_lit 633,zM u4 a 15 3 30 4 (cb (tp 71) 17) 18 3 877 632) ::
(nat_lit 639,zA u3 a 16 1 30 5 1072 386 2 634 1078) ::
(nat_lit 640,zM u4 a 16 1 30 5 (cb (tp 71) 18) 18 3 877 639) ::
(nat_lit 660,zA u3 a 4 1 30 8 1097 396 1 655 1101) ::
(nat_lit 661,zM u4 a 4 1 30 8 (cb (tp 71) 21) 18 3 877 660) ::
(nat_lit 677,Obj.mk (.type u0) Option.none (.dict #[de P (a 27 4) 914 (.str (a 18 3) 877),de P (a 27 5) 918 (.int 273 917),zR P a 7 11 929 514,zR P a 11 1 938 521,zR P a 14 2 946 528,zR P a 14 3 954 535,zR P a 14 4 964 542,zR P a 14 5 974 549,zR P a 14 7 985 556,zR P a 14 9 993 563,zR P a 15 11 1002 570,zR P a 15 9 1012 577,zR P a 10 10 1020 584,zR P a 16 7 1027 591,zR P a 10 7 1034 598,zR P a 8 4 1041 605,zR P a 16 8 1048 612,zR P a 16 9 1055 619,zR P a 5 0 1063 626,zR P a 15 3 1071 633,zR P a 16 1 1080 640,zR P a 17 6 1088 647,zR P a 17 7 1096 654,zR P a 4 1 1103 661,zR P a 17 8 1110 668,zR P a 3 8 1118 675,zR P a 27 6 1127 676,zR P a 28 0 1129 679,zR P a 27 7 1131 680,de P (a 26 7) 1132 .none] 4) #[]) ::
(nat_lit 678,Obj.mk (.type u7) Option.none (.cls (ClassData.mk (a 11 0) [.type u10] [.ref 678,.type u10] 677 (a 11 0) Bool.true [] [] Bool.false Option.none Bool.false)) #[Option.none,Option.none,Option.some (.str (a 11 0) 907),Option.some (.str (a 11 0) 915),Option.some (.builtin u13),Option.some (.bool Bool.true)]) ::
(nat_lit 695,zA u3 a 7 11 30 11 1149 414 5 690 1157) ::
(nat_lit 696,zM u4 a 7 11 30 11 (cb (tp 73) 0) 7 10 1135 695) ::
(nat_lit 702,zA u3 a 0 8 31 0 1160 422 3 697 1166) ::
(nat_lit 703,zM u4 a 0 8 31 0 (cb (tp 73) 1) 7 10 1135 702) ::
(nat_lit 709,zA u3 a 3 9 31 1 1169 431 2 704 1174) ::
(nat_lit 710,zM u4 a 3 9 31 1 (cb (tp 73) 2) 7 10 1135 709) ::
(nat_lit 730,zA u3 a 9 7 31 4 1191 441 2 725 1196) ::
(nat_lit 731,zM u4 a 9 7 31 4 (cb (tp 73) 5) 7 10 1135 730) ::
(nat_lit 737,zA u3 a 10 1 31 5 1199 445 3 732 1205) ::
(nat_lit 738,zM u4 a 10 1 31 5 (cb (tp 73) 6) 7 10 1135 737) ::
(nat_lit 744,zA u3 a 9 8 31 6 1208 451 2 739 1213) ::
(nat_lit 745,zM u4 a 9 8 31 6 (cb (tp 73) 7) 7 10 1135 744) ::
(nat_lit 754,zB u3 a 10 6 31 8 1222 460 1 751 1225) ::
(nat_lit 755,zM u4 a 10 6 31 8 (cb (tp 73) 9) 7 10 1135 754) ::
(nat_lit 782,zA u3 a 4 0 32 0 1250 472 2 777 1256) ::
(nat_lit 783,zM u4 a 4 0 32 0 (cb (tp 73) 13) 7 10 1135 782) ::
(nat_lit 789,zA u3 a 10 9 32 1 1259 478 2 784 1267) ::
(nat_lit 790,zM u4 a 10 9 32 1 (cb (tp 73) 14) 7 10 1135 789) ::
(nat_lit 796,zA u3 a 11 2 32 2 1270 485 2 791 1277) ::
(nat_lit 797,zM u4 a 11 2 32 2 (cb (tp 73) 15) 7 10 1135 796) ::
(nat_lit 803,zA u3 a 3 8 32 3 1280 493 1 798 1285) ::
(nat_lit 804,zM u4 a 3 8 32 3 (cb (tp 73) 16) 7 10 1135 803) ::
(nat_lit 806,Obj.mk (.type u0) Option.none (.dict #[de P (a 27 4) 1144 (.str (a 7 10) 1135),de P (a 27 5) 1148 (.int 412 1147),zR P a 7 11 1159 696,zR P a 0 8 1168 703,zR P a 3 9 1176 710,zR P a 9 9 1183 717,zR P a 9 11 1190 724,zR P a 9 7 1198 731,zR P a 10 1 1207 738,zR P a 9 8 1215 745,zR P a 10 5 1221 750,zR P a 10 6 1227 755,zR P a 10 7 1234 762,zR P a 8 4 1241 769,zR P a 10 8 1249 776,zR P a 4 0 1258 783,zR P a 10 9 1269 790,zR P a 11 2 1279 797,zR P a 3 8 1287 804,zR P a 27 6 1293 805,zR P a 28 0 1295 808,zR P a 27 7 1297 809,de P (a 26 7) 1298 .none] 4) #[]) ::
(nat_lit 807,Obj.mk (.type u7) Option.none (.cls (ClassData.mk (a 0 5) [.type u10] [.ref 807,.type u10] 806 (a 0 5) Bool.true [] [] Bool.false Option.none Bool.false)) #[Option.none,Option.none,Option.some (.str (a 0 5) 1137),Option.some (.str (a 0 5) 1145),Option.some (.builtin u13),Option.some (.bool Bool.true)]) ::
(nat_lit 817,zA2 u3 a 1 8 1303 498 4 812 1316) ::
(nat_lit 818,zF u4 a 1 8 (tp 75) 11 7 1301 817) ::
(nat_lit 822,zB2 u3 a 2 11 1319 513 2 819 1322) ::
(nat_lit 823,zF u4 a 2 11 (tp 76) 11 7 1301 822) ::
(nat_lit 829,zA2 u3 a 3 2 1325 522 2 824 1334) ::
(nat_lit 830,zF u4 a 3 2 (tp 77) 11 7 1301 829) ::
(nat_lit 836,zA2 u3 a 3 3 1337 529 2 831 1343) ::
(nat_lit 837,zF u4 a 3 3 (tp 78) 11 7 1301 836) ::
(nat_lit 841,zB2 u3 a 2 2 1346 532 1 838 1349) ::
(nat_lit 842,zF u4 a 2 2 (tp 79) 11 7 1301 841) ::
(nat_lit 848,zA2 u3 a 6 4 1352 537 5 843 1362) ::
(nat_lit 849,zF u4 a 6 4 (tp 80) 11 7 1301 848) ::
(nat_lit 853,zB2 u3 a 5 1 1365 541 4 850 1368) ::
(nat_lit 854,zF u4 a 5 1 (tp 81) 11 7 1301 853) ::
(nat_lit 860,zA2 u3 a 5 2 1371 543 4 855 1384) ::
(nat_lit 861,zF u4 a 5 2 (tp 82) 11 7 1301 860) ::
(nat_lit 867,zA2 u3 a 5 6 1387 553 3 862 1393) ::
(nat_lit 868,zF u4 a 5 6 (tp 83) 11 7 1301 867) ::
(nat_lit 874,zA2 u3 a 4 9 1396 555 4 869 1403) ::
(nat_lit 875,zF u4 a 4 9 (tp 84) 11 7 1301 874) ::
(nat_lit 881,zA2 u3 a 4 11 1406 559 3 876 1412) ::
(nat_lit 882,zF u4 a 4 11 (tp 85) 11 7 1301 881) ::
(nat_lit 888,zA2 u3 a 5 3 1415 561 5 883 1427) ::
(nat_lit 889,zF u4 a 5 3 (tp 86) 11 7 1301 888) ::
(nat_lit 893,zB2 u3 a 6 0 1430 569 4 890 1433) ::
(nat_lit 894,zF u4 a 6 0 (tp 87) 11 7 1301 893) ::
(nat_lit 900,zA2 u3 a 3 4 1436 581 4 895 1447) ::
(nat_lit 901,zF u4 a 3 4 (tp 88) 11 7 1301 900) ::
(nat_lit 907,zA2 u3 a 3 10 1450 589 3 902 1458) ::
(nat_lit 908,zF u4 a 3 10 (tp 89) 11 7 1301 907) ::
(nat_lit 914,zA2 u3 a 0 0 1461 595 3 909 1470) ::
(nat_lit 915,zF u4 a 0 0 (tp 90) 11 7 1301 914) ::
(nat_lit 921,zA2 u3 a 0 9 1473 600 3 916 1482) ::
(nat_lit 922,zF u4 a 0 9 (tp 91) 11 7 1301 921) ::
(nat_lit 928,zA2 u3 a 1 9 1485 606 2 923 1493) ::
(nat_lit 929,zF u4 a 1 9 (tp 92) 11 7 1301 928) ::
(nat_lit 933,zB2 u3 a 2 0 1496 612 3 930 1499) ::
(nat_lit 934,zF u4 a 2 0 (tp 93) 11 7 1301 933) ::
(nat_lit 938,zB2 u3 a 2 7 1502 616 3 935 1505) ::
(nat_lit 939,zF u4 a 2 7 (tp 94) 11 7 1301 938) ::
(nat_lit 943,zB2 u3 a 3 1 1508 618 1 940 1511) ::
(nat_lit 944,zF u4 a 3 1 (tp 95) 11 7 1301 943)::[]
noncomputable def KF:Qp->Qqq:=KG top Af b0 b1 b2 b3 b4 b5 b6 b7 b8 b9 b10 b11 b12 b13 b14 b15
noncomputable def KH(P:Qp):Qqq:=by refine'(?f:(x:Qqq)->KF P=x->Qqq) _ ?h; (case f=>exact λx _=>x); (case h=>conv=>lhs; whnf)
end K50
namespace PySem.W.Fast
open PySem K50
noncomputable def tw13293763531863634192:Program:=G tw12169272859162124315
theorem te13293763531863634192:PZW=tw13293763531863634192:=Eq.trans (b:=G Af) (by kernel_rfl) (congrArg G te12169272859162124315)
noncomputable def qz0(i:Y0):Stmt:=tw13293763531863634192.main.body.getD i (.Pass ⟨0,0,0,0⟩)
theorem qqf:top=qz0:=funext λi=>congrArg (λp:Program=>p.main.body.getD i (.Pass ⟨0,0,0,0⟩)) te13293763531863634192
noncomputable def qqi:Qp->Frag:=KG qz0 tw12169272859162124315 tw3755782736334998479 tw1180527718125064228 tw5883439977899301223 tw13750775674369443371 tw16054634543196347437 tw10041569681519407572 tw10761838174902283737 tw4375864475335403176 tw15741698014330286084 tw15101043442752717385 tw12914652082663317169 tw14244512649077513773 tw7514443137238698492 tw2637305126664570011 tw8888674992469456433 tw11468548999462686966
theorem te2780918542615183875:KF=qqi:=congr (congr (congr (congr (congr (congr (congr (congr (congr (congr (congr (congr (congr (congr (congr (congr (congr (congrArg KG qqf) te12169272859162124315) te3755782736334998479) te1180527718125064228) te5883439977899301223) te13750775674369443371) te16054634543196347437) te10041569681519407572) te10761838174902283737) te4375864475335403176) te15741698014330286084) te15101043442752717385) te12914652082663317169) te14244512649077513773) te7514443137238698492) te2637305126664570011) te8888674992469456433) te11468548999462686966
end PySem.W.Fast
namespace K50
open PySem PySem.W PySem.Calls PyProof.Rows HD
noncomputable abbrev ads:L Y7:=[3,143,144,145,146,147,148,149,150,151,152,153,154,155,156,157,163,164,170,171,175,176,182,183,189,190,194,195,201,202,208,209,215,216,222,223,227,228,234,235,241,242,248,249,255,256,262,263,276,277,283,284,297,298,300,301,318,319,325,326,332,333,337,338,344,345,351,352,358,359,365,366,372,373,382,383,388,389,390,391,392,393,399,400,404,405,409,410,416,417,423,424,428,429,435,436,440,441,447,448,454,455,461,462,468,469,484,485,486,492,493,499,500,513,514,520,521,527,528,534,535,541,542,548,549,583,584,597,598,611,612,625,626,632,633,639,640,660,661,677,678,695,696,702,703,709,710,730,731,737,738,744,745,754,755,782,783,789,790,796,797,803,804,806,807,817,818,822,823,829,830,836,837,841,842,848,849,853,854,860,861,867,868,874,875,881,882,888,889,893,894,900,901,907,908,914,915,921,922,928,929,933,934,938,939,943,944]
noncomputable abbrev loose:L Y5:=["ASKS"]
noncomputable def vw(p:Program):Program:=view p [0,2,3,4,5,6,7,8,9,10,11,13,14,15,16,17,18,19,20,21,22,23,24,25,26,27,28,29,31,32,33,34,35,36,37,38,39,41,42,44,45,47,48,49,50,52,53,54,55,57,58,59,60,61,62,63,65,66,67,68,69,70,71,73,75,76,77,78,79,80,81,82,83,84,85,86,87,88,89,90,91,92,93,94,95]
noncomputable def Xt(q:Program)(s:Qz):Bool:=xlAt q [] s&&recOk (RowW.records (OpenRow.toRowW (OpenLaw.row RZW))) s
theorem pre:∀w:Qj,(λos=>topGo Qu PZW w 11 an 12 ⟨Qf w.params,#[],boot_drawn,boot_toks,os⟩ (topStub PZW))=λos=>Y ((Sa w os).abs,⟨denote Qu (cE PZW),cE PZW,p0,[topFrame p0]⟩):=by
 rw[Fast.te15667345088766844465,Fast.te14364793385576792824,Fast.te11892475500146522536,Fast.te13293763531863634192];exact λw=>by kernel_rfl
theorem blk:∀w:Qj,(λos=>segRun Qu PZW w 11 an 1 1 (Sa w os).abs (blockOf (Zh PZW) (ev PZW) (cE PZW) p0 [topFrame p0]))=λos=>Y (Flow.next,(Sa w os).abs,cE PZW,p0):=by
 rw[Fast.te14374325043358763698,Fast.te14364793385576792824,Fast.te13293763531863634192];exact λw=>by kernel_rfl
noncomputable def GC(w:Qj):Prop:=(λos=>(Rn PZW 6767 w os).map λr=>plainSeenE (vw PZW) (looseW (vw PZW) loose) r.2.1.abs)=λ_=>Y (plainGoodE (vw PZW) (looseW (vw PZW) loose))
theorem gCf:∀w:Qj,GC (w.withFollow "special-get-raises" Y6):=by
 unfold GC Rn ;rw[Fast.te10110043849684766642,Fast.te14364793385576792824,Fast.te13293763531863634192];exact λw=>by kernel_rfl
theorem gCt:∀w:Qj,GC (w.withFollow "special-get-raises" O):=by
 unfold GC Rn ;rw[Fast.te10110043849684766642,Fast.te14364793385576792824,Fast.te13293763531863634192];exact λw=>by kernel_rfl
noncomputable def GB(w:Qj):Prop:=(λos=>(Rn PZW 6767 w os).map λr=>LB PZW (vw PZW) loose Xt r.2.1.abs)=λ_=>Y O
theorem gBf:∀w:Qj,GB (w.withFollow "special-get-raises" Y6):=by
 unfold GB Rn LB;rw[Fast.te10110043849684766642,Fast.te14364793385576792824,Fast.te5923862056798008813,Fast.te13293763531863634192];exact λw=>by kernel_rfl
theorem gBt:∀w:Qj,GB (w.withFollow "special-get-raises" O):=by
 unfold GB Rn LB;rw[Fast.te10110043849684766642,Fast.te14364793385576792824,Fast.te5923862056798008813,Fast.te13293763531863634192];exact λw=>by kernel_rfl
noncomputable def GD(w:Qj):Prop:=(λos=>(Rn PZW 6767 w os).map λr=>LD (vw PZW) loose r.2.1.abs)=λ_=>Y (bltViewBooted,O,pinGoodD (drecsOf (vw PZW)),clsGoodW (vw PZW) loose)
theorem gDf:∀w:Qj,GD (w.withFollow "special-get-raises" Y6):=by
 unfold GD Rn LD;rw[Fast.te10110043849684766642,Fast.te14364793385576792824,Fast.te13293763531863634192];exact λw=>by kernel_rfl
theorem gDt:∀w:Qj,GD (w.withFollow "special-get-raises" O):=by
 unfold GD Rn LD;rw[Fast.te10110043849684766642,Fast.te14364793385576792824,Fast.te13293763531863634192];exact λw=>by kernel_rfl
noncomputable def GZ(w:Qj):Prop:=(λos=>(Rn PZW 6767 w os).map λr=>LF (vw PZW) r.2.1.abs)=λ_=>Y (expectedOf (vw PZW))
theorem gZf:∀w:Qj,GZ (w.withFollow "special-get-raises" Y6):=by
 unfold GZ Rn LF;rw[Fast.te10110043849684766642,Fast.te14364793385576792824,Fast.te13293763531863634192];exact λw=>by kernel_rfl
theorem gZt:∀w:Qj,GZ (w.withFollow "special-get-raises" O):=by
 unfold GZ Rn LF;rw[Fast.te10110043849684766642,Fast.te14364793385576792824,Fast.te13293763531863634192];exact λw=>by kernel_rfl
noncomputable def GX(w:Qj):Prop:=(λos=>(Rn PZW 6767 w os).map λr=>LH ads r.2.1.abs)=λ_=>Y ((KF w.params).map λp=>Y p.2)
theorem gXf:∀w:Qj,GX (w.withFollow "special-get-raises" Y6):=by
 unfold GX Rn LH;rw[Fast.te10110043849684766642,Fast.te14364793385576792824,Fast.te13293763531863634192,Fast.te2780918542615183875];exact λw=>by kernel_rfl
theorem gXt:∀w:Qj,GX (w.withFollow "special-get-raises" O):=by
 unfold GX Rn LH;rw[Fast.te10110043849684766642,Fast.te14364793385576792824,Fast.te13293763531863634192,Fast.te2780918542615183875];exact λw=>by kernel_rfl
noncomputable def GE(w:Qj):Prop:=(λos=>(Rn PZW 6767 w os).map λr=>LG (vw PZW) loose r.2.1.abs)=λ_=>Y (wideGood (vw PZW),plainGoodD (vw PZW) loose)
theorem gEf:∀w:Qj,GE (w.withFollow "special-get-raises" Y6):=by
 unfold GE Rn LG;rw[Fast.te10110043849684766642,Fast.te14364793385576792824,Fast.te13293763531863634192];exact λw=>by kernel_rfl
theorem gEt:∀w:Qj,GE (w.withFollow "special-get-raises" O):=by
 unfold GE Rn LG;rw[Fast.te10110043849684766642,Fast.te14364793385576792824,Fast.te13293763531863634192];exact λw=>by kernel_rfl
noncomputable def GI(w:Qj):Prop:=(λos=>(Rn PZW 6767 w os).map λr=>LI PZW w r.2.1.abs)=λ_=>Y (O,O,O)
theorem gIf:∀w:Qj,GI (w.withFollow "special-get-raises" Y6):=by
 unfold GI Rn LI;rw[Fast.te10110043849684766642,Fast.te14364793385576792824,Fast.te13293763531863634192];exact λw=>by kernel_rfl
theorem gIt:∀w:Qj,GI (w.withFollow "special-get-raises" O):=by
 unfold GI Rn LI;rw[Fast.te10110043849684766642,Fast.te14364793385576792824,Fast.te13293763531863634192];exact λw=>by kernel_rfl
noncomputable def GA(w:Qj):Prop:=(λos=>(Rn PZW 6767 w os).map λr=>(r.1,r.2.2.1,r.2.2.2,LA PZW (vw PZW) ads w r.2.1.abs))=λ_=>Y (Flow.next,cE PZW,⟨618,0,643,15⟩,O)
theorem gAf:∀w:Qj,GA (w.withFollow "special-get-raises" Y6):=by
 unfold GA Rn LA;rw[Fast.te10110043849684766642,Fast.te14364793385576792824,Fast.te5923862056798008813,Fast.te13293763531863634192];exact λw=>by kernel_rfl
theorem gAt:∀w:Qj,GA (w.withFollow "special-get-raises" O):=by
 unfold GA Rn LA;rw[Fast.te10110043849684766642,Fast.te14364793385576792824,Fast.te5923862056798008813,Fast.te13293763531863634192];exact λw=>by kernel_rfl
theorem left:LeftO PZW (vw PZW) loose (Xt (vw PZW)) (λs=>ads.map s.heap.get?) (λw=>(KF w.params).map λp=>Y p.2) 13658:=
 lo3 (boot_open (by kernel_rfl) (by decide) (λs=>by kernel_rfl)) (λw=>by kernel_rfl) pre blk (byRow2 "special-get-raises" gAf gAt) (byRow2 "special-get-raises" gIf gIt) (byRow2 "special-get-raises" gXf gXt) (byRow2 "special-get-raises" gZf gZt) (byRow2 "special-get-raises" gBf gBt) (byRow2 "special-get-raises" gCf gCt) (byRow2 "special-get-raises" gDf gDt) (byRow2 "special-get-raises" gEf gEt) (by decide)
end K50
section
namespace L2
open PySem PySem.Spec PyProof.Rows
abbrev Key:=Sum J Y5
noncomputable def qbu:Key->Y8->Yb
 |.inl k,v=>Value.isInt k v
 |.inr x,v=>Value.isStrOf x v
noncomputable def keyH(w:Qj):Key->J
 |.inl k=>hashInt k
 |.inr x=>hashStr w x
def qzi:∀{k}{v},qbu k v=O->(∃i t,k=Sum.inl i/\v=Value.int i t)\/(∃x t,k=Sum.inr x/\v=Value.str x t)
 |.inl i,v,h=>by
  obtain⟨t,e⟩:=Value.isInt_shape h;exact .inl ⟨i,t,rfl,e⟩
 |.inr x,v,h=>by
  obtain⟨t,e⟩:=Value.isStrOf_shape h;exact .inr ⟨x,t,rfl,e⟩
def qeg(i)(t):qbu (.inl i) (.int i t)=true:=by simp[qbu,Value.isInt]
def qef(x)(t):qbu (.inr x) (.str x t)=true:=by simp[qbu,Value.isStrOf]
def key_ll(a b):decide ((Sum.inl a:Key)=Sum.inl b)=(a==b):=by
 by_cases e:a=b
 ·subst e; simp
 ·have h:¬ (Sum.inl a:Key)=Sum.inl b:=λq=>e (Sum.inl.inj q);rw[Z4 h];exact(beq_eq_false_iff_ne.mpr e).symm
def key_rr(a b):decide ((Sum.inr a:Key)=Sum.inr b)=decide (a=b):=by
 by_cases e:a=b
 ·subst e; simp
 ·have h:¬ (Sum.inr a:Key)=Sum.inr b:=λq=>e (Sum.inr.inj q);rw[Z4 h,Z4 e]
def key_lr(a)(b):decide ((Sum.inl a:Key)=Sum.inr b)=false:=Z4 (λq=>nomatch q)
def key_rl(a)(b):decide ((Sum.inr a:Key)=Sum.inl b)=false:=Z4 (λq=>nomatch q)
noncomputable def mixKind(prog:Program)(w:Qj):PySem.KeyKind prog w Key where
 is:=qbu
 hash:=keyH w
 inj:=λv a b ha hb=>by
  rcases qzi ha with⟨i,t,rfl,rfl⟩|⟨x,t,rfl,rfl⟩
  ·rcases qzi hb with⟨j,u,rfl,e⟩|⟨y,u,rfl,e⟩
   ·injection e with e1 _; rw[e1]
   ·exact nomatch e
  ·rcases qzi hb with⟨j,u,rfl,e⟩|⟨y,u,rfl,e⟩
   ·exact nomatch e
   ·injection e with e1 _; rw[e1]
 byValue:=λk v h=>by
  rcases qzi h with⟨i,t,rfl,rfl⟩|⟨x,t,rfl,rfl⟩<;>rfl
 pyHash:=λhv h=>by
  rcases qzi hv with⟨i,t,rfl,rfl⟩|⟨x,t,rfl,rfl⟩
  ·exact wpAny_pyHash_int h
  ·exact wpAny_pyHash_str h
 eqBool:=λhu hv h=>by
  rcases qzi hu with⟨i,t,rfl,rfl⟩|⟨x,t,rfl,rfl⟩
  ·rcases qzi hv with⟨j,u,rfl,rfl⟩|⟨y,u,rfl,rfl⟩
   ·rw[key_ll]at h; exact wpAny_eqBool_int h
   ·rw[key_lr]at h; exact SeqAt.EqAt.int_str i t y u _ _ _ _ h
  ·rcases qzi hv with⟨j,u,rfl,rfl⟩|⟨y,u,rfl,rfl⟩
   ·rw[key_rl]at h; exact SeqAt.EqAt.str_int x t j u _ _ _ _ h
   ·rw[key_rr]at h; exact wpAny_eqBool_str h
 «strs»:=λk x t v h=>by
  rcases qzi h with⟨i,u,rfl,e⟩|⟨y,u,rfl,e⟩
  ·exact nomatch e
  ·injection e with e1 _;subst e1;cases v<;>rfl
def qyx(prog)(w)(i)(t):(mixKind prog w).is (.inl i) (.int i t)=true:=qeg i t
def qq4(prog)(w)(x)(t):(mixKind prog w).is (.inr x) (.str x t)=true:=qef x t
inductive V where
 |non|bl (b:Yb)|int (i:J)|str (x:Y5)|byt (b:Array UInt8)|flt (b:UInt64)|ref (a:Y7)|ty (n:String)
 deriving DecidableEq
noncomputable def RelV:V->Y8->Prop
 |.non,u=>u=Value.none
 |.bl b,u=>u=Value.bool b
 |.int i,u=>∃t,u=Value.int i t
 |.str x,u=>∃t,u=Value.str x t
 |.byt b,u=>∃t,u=Value.bytes b t
 |.flt b,u=>∃t,u=Value.float b t
 |.ref a,u=>u=Value.ref a
 |.ty n,u=>u=Value.type n
abbrev Vals:L V->L Y8->Prop:=Paired RelV
theorem Vals.length(r:Vals xs us):xs.length=us.length:=Paired.length r
theorem Vals.get:∀{xs:L V}{us:L Y8}{i:Y0}{x:V},Vals xs us->xs[i]?=Y x->∃u,us[i]?=Y u/\RelV x u
 |_,_,_,_,.nil,e=>by simp at e
 |_,_,0,_,.cons r _,e=>by simp at e; subst e; exact⟨_,rfl,r⟩
 |_,_,i+1,x,.cons _ t,e=>by
  obtain⟨u,h1,h2⟩:=Vals.get t (by simpa using e);exact⟨u,by simpa using h1,h2⟩
theorem Vals.set(r:RelV x u):∀{xs:L V}{us:L Y8}(i:Y0),Vals xs us->Vals (xs.set i x) (us.set i u)
 |_,_,_,.nil=>.nil
 |_,_,0,.cons _ t=>.cons r t
 |_,_,i+1,.cons q t=>.cons q (Vals.set r i t)
theorem Vals.append:∀{xs ys}{us ws},Vals xs us->Vals ys ws->Vals (xs++ys) (us++ws)
 |_,_,_,_,.nil,s=>s
 |_,_,_,_,.cons r t,s=>.cons r (Vals.append t s)
theorem Vals.take:∀{xs:L V}{us:L Y8}(n:Y0),Vals xs us->Vals (xs.take n) (us.take n)
 |_,_,0,_=>.nil
 |_,_,_+1,.nil=>.nil
 |_,_,n+1,.cons r t=>.cons r (Vals.take n t)
theorem Vals.drop:∀{xs:L V}{us:L Y8}(n:Y0),Vals xs us->Vals (xs.drop n) (us.drop n)
 |_,_,0,r=>r
 |_,_,_+1,.nil=>.nil
 |_,_,n+1,.cons _ t=>Vals.drop n t
noncomputable def RelO:Y3 V->Y3 Y8->Prop
 |some v,Y u=>RelV v u
 |none,B=>True
 |_,_=>False
def KV{κ:Type}:L (κ×V)->L (κ×Y8)->Prop:=Paired λ(p:κ×V) (q:κ×Y8)=>p.1=q.1/\RelV p.2 q.2
noncomputable def kV:Key->V
 |.inl i=>.int i
 |.inr x=>.str x
inductive HO where
 /-- a list -/
 |lst (xs:L V)
 /-- a tuple (never changes) -/
 |tup (xs:L V)
 /-- a dict whose keys are ints and texts; one whose keys are tuples of ints and texts (the empty one is both) -/
 |dK (kvs:L (Key×V))|dT (kvs:L (L Key×V))
 /-- a set of ints: its members,its size -/
 |set (S:J->Yb) (n:Y0)
 /-- an instance of the class at C,its dict at dx,its attributes -/
 |ins (C dx:Y7) (fs:L (Y5×V))
 /-- the dict of the instance at x -/
 |own (x:Y7)
 /-- the dict of an exception -/
 |xd (fs:L (Y5×V))
 /-- a bound method,f of x -/
 |met (f x:Y7)
 /-- a range object lo,lo+1,.. below hi -/
 |rng (lo hi:J)
 /-- a thing that is known to the object (the script; a dict while a loop walks it): read,never written while it is so -/
 |frz (o:Obj) (u:HO)
 /-- a code object's table -/
 |tbl (ps:Array Y8)
 /-- any other thing,by what is O of its one object (a def of one's own: SetO a S n:=HO.ext λh=>..) -/
 |ext (φ:Heap->Prop)
abbrev Hp:=Y7->Y3 HO
noncomputable def upd(H:Hp)(a:Y7)(o:HO):Hp:=λb=>if b=a then Y o else H b
def qzw:upd H a o a=Y o:=by unfold upd; rw[Z6 rfl]
def qzq(h:b≠a):upd H a o b=H b:=by unfold upd; rw[Z5 h]
def qzt{H:Hp}(h:H a=Y o)(h':H b=Y u)(d:o≠u):a≠b:=by
 intro e; subst e; rw[h]at h'; exact d (Option.some.inj h')
def qzl{H:Hp}(h:H a=Y o)(h':H b=B):a≠b:=by
 intro e; subst e; rw[h]at h'; cases h'
section
variable (P:Program)(w:Qj)
noncomputable def ObjOk(H:Hp)(h:Heap)(a:Y7):HO->Prop
 |.lst xs=>xs.length<=sizeLine/\∃(its:L Y8) (n:Y0),Vals xs its/\h.get? a=Y { cls:=.type "list",data:=.seq its.toArray n }
 |.tup xs=>xs.length<=sizeLine/\∃its:L Y8,Vals xs its/\IsTup h a its.toArray
 |.dK kvs=>kvs.length<=sizeLine/\(a==Qn)=Y6/\∃vs,KV kvs vs/\h.DictOf (mixKind P w) a vs
 |.dT kvs=>kvs.length<=sizeLine/\(a==Qn)=Y6/\∃xs:L (L Key×Y7×Y8),
   Paired (λ(p:L Key×V) (q:L Key×Y7×Y8)=>p.1=q.1/\H q.2.1=Y (.tup (p.1.map kV))/\RelV p.2 q.2.2) kvs xs/\
   ∃o es ep,h.get? a=Y o/\o.ExactDict/\o.data=.dict es ep/\es.toList=xs.map (entryOfKey (tupleKind (mixKind P w)))/\(xs.map (·.1)).Nodup
 |.set S n=>h.SetOf (intKind P w) a S n
 |.ins C dx fs=>H dx=Y (.own a)/\fs.length<=1000/\dx≠a/\h.get? a=Y (PySem.W.instObj C dx)/\
   ∃mA,h.Ns1 dx mA/\(∀f,RelO (fs.lookup f) (mA f))/\PySem.Within mA (fs.map (·.1))
 |.own _=>∃o,h.get? a=Y o
 |.xd fs=>∃mA,h.Ns1 a mA/\∀f,RelO (fs.lookup f) (mA f)
 |.rng lo hi=>∃t u v,h.get? a=Y { cls:=.type "range",data:=.fields #[.int lo t,.int hi u,.int 1 v] }
 |.frz o u=>h.get? a=Y o/\ObjOk H h a u
 |.tbl ps=>h.get? a=Y { cls:=.none,data:=.fields ps }
 |.met f x=>h.get? a=Y (PySem.W.methodObj (.ref f) (.ref x))
 |.ext φ=>φ h/\(∃o,h.get? a=Y o)/\∀h1 h2:Heap,φ h1->(∀o,h1.get? a=Y o->h2.get? a=Y o)->φ h2
def HOk(H:Hp)(h:Heap):Prop:=∀a o,H a=Y o->ObjOk P w H h a o
end
section
theorem ObjOk.lt(x:ObjOk P w H h a o):a<h.objs.size:=by
 cases o with
 |lst xs=>obtain⟨_,_,_,_,e⟩:=x; exact Qqe e
 |tup xs=>obtain⟨_,_,_,p⟩:=x; exact p.lt
 |dK kvs=>obtain⟨_,_,_,_,o,_,_,e,_⟩:=x; exact Qqe e
 |dT kvs=>obtain⟨_,_,_,_,o,_,_,e,_⟩:=x; exact Qqe e
 |set S n=>obtain⟨o,_,_,_,e,_⟩:=x; exact Qqe e
 |ins C dx fs=>obtain⟨_,_,_,e,_⟩:=x; exact Qqe e
 |own y=>obtain⟨_,e⟩:=x; exact Qqe e
 |xd fs=>obtain⟨_,⟨_,_,_,e,_⟩,_⟩:=x; exact Qqe e
 |rng lo hi=>obtain⟨_,_,_,e⟩:=x; exact Qqe e
 |frz ob u=>obtain⟨e,_⟩:=x; exact Qqe e
 |tbl ps=>exact Qqe (x)
 |met f y=>exact Qqe (x)
 |ext b=>obtain⟨_,⟨_,e⟩,_⟩:=x; exact Qqe e
theorem Paired.mapP:∀{l₁}{l₂},Paired F l₁ l₂->(∀a b,F a b->G a b)->Paired G l₁ l₂
 |_,_,.nil,_=>.nil
 |_,_,.cons r t,f=>.cons (f _ _ r) (Paired.mapP t f)
def ObjOk.stay(x:ObjOk P w H h a o)(k:∀b u,(b=a\/H b=Y (.own a))->h.get? b=Y u->h'.get? b=Y u)
  (s:∀b,H b=Y (.own a)->H' b=Y (.own a)) (m:∀b xs,H b=Y (.tup xs)->H' b=Y (.tup xs)):ObjOk P w H' h' a o:=by
 induction o with
 |lst xs=>obtain⟨z,i,n,r,e⟩:=x; exact⟨z,i,n,r,k _ _ ?qp e⟩
 |tup xs=>obtain⟨z,i,r,ob,e,c⟩:=x; exact⟨z,i,r,ob,k _ _ ?qp e,c⟩
 |dK kvs=>obtain⟨z,y,vs,r,ob,es,g,e,c⟩:=x; exact⟨z,y,vs,r,ob,es,g,k _ _ ?qp e,c⟩
 |dT kvs=>
  obtain⟨z,y,xs,r,ob,es,g,e,c⟩:=x;exact⟨z,y,xs,Paired.mapP r λp q z=>⟨z.1,m _ _ z.2.1,z.2.2⟩,ob,es,g,k _ _ ?qp e,c⟩
 |set S n=>obtain⟨ob,es,g,t,e,c⟩:=x; exact⟨ob,es,g,t,k _ _ ?qp e,c⟩
 |ins C dx fs=>
  obtain⟨d,z,ne,e,mA,⟨j,es,g,A,c⟩,r⟩:=x;exact⟨s _ d,z,ne,k _ _ ?qp e,mA,⟨j,es,g,k _ _ (.inr d) A,c⟩,r⟩
 |own y=>obtain⟨ob,e⟩:=x; exact⟨ob,k _ _ ?qp e⟩
 |xd fs=>obtain⟨mA,⟨j,es,g,e,c⟩,r⟩:=x; exact⟨mA,⟨j,es,g,k _ _ ?qp e,c⟩,r⟩
 |rng lo hi=>obtain⟨t,u,v,e⟩:=x; exact⟨t,u,v,k _ _ ?qp e⟩
 |frz ob u l=>obtain⟨e,q⟩:=x; exact⟨k _ _ ?qp e,l q⟩
 |tbl ps=>
  have e:=x;exact k a _ ?qp e
 |met f y=>
  have e:=x;exact k a _ ?qp e
 |ext D=>obtain⟨p,⟨o,e⟩,st⟩:=x; exact⟨st _ _ p λo q=>k _ _ ?qp q,⟨o,k _ _ ?qp e⟩,st⟩
theorem HOk.lt(x:HOk P w H h)(e:H a=Y o):a<h.objs.size:=(x a o e).lt
def HOk.fresh(x:HOk P w H h)(e:h.objs.size<=a):H a=none:=by
 cases q:H a with
 |none=>rfl
 |some u=>exact absurd (Qq7 (x.lt q) e) (Qxj _)
def HOk.kept(x:HOk P w H h)(k:∀b u,h.get? b=Y u->h'.get? b=Y u):HOk P w H h':=λa o e=>
 (x a o e).stay (λb u _ q=>k b u q) (λ_ q=>q) λ_ _ q=>q
def HOk.laid(x:HOk P w H h)(k:∀b u,h.get? b=Y u->h'.get? b=Y u)(d:h.objs.size<=a)(new:ObjOk P w (upd H a o) h' a o):HOk P w (upd H a o) h':=λb u e=>by
 have hn:=x.fresh d
 by_cases hb:b=a
 ·subst hb; rw[qzw]at e; cases e; exact new
 ·rw[qzq hb]at e;exact(x b u e).stay (λc v _ q=>k c v q) (λc q=>by rw[qzq (qzl q hn)]; exact q) λc xs q=>by rw[qzq (qzl q hn)]; exact q
end
def Rd(H:Hp)(a:Y7)(u:HO):Prop:=H a=Y u\/∃o,H a=Y (.frz o u)
def Rd.ok(r:Rd H a u)(x:HOk P w H h):ObjOk P w H h a u:=by
 rcases r with r|⟨o,r⟩
 ·exact x a u r
 ·obtain⟨_,q⟩:=x a _ r;exact q
noncomputable def Mut:Y3 HO->Prop
 |some (.lst _)=>True
 |some (.dK _)=>True
 |some (.dT _)=>True
 |some (.set _ _)=>True
 |some (.ins _ _ _)=>True
 |some (.ext _)=>True
 |_=>False
section
def HOk.write(ok:HOk P w H h)(g:Mut (H x))(l:e=x\/H e=Y (.own x))(k:∀b u,b≠e->h.get? b=Y u->h'.get? b=Y u)(i:∃u,h'.get? e=Y u)
  (new:ObjOk P w (upd H x o') h' x o'):HOk P w (upd H x o') h':=λb u q=>by
 have d:∀c y,H c=Y (.own y)->c≠x:=λc y r z=>by subst z; rw[r]at g; exact g
 have f:∀c xs,H c=Y (.tup xs)->c≠x:=λc xs r z=>by subst z; rw[r]at g; exact g
 by_cases hb:b=x
 ·subst hb; rw[qzw]at q; cases q; exact new
 ·rw[qzq hb]at q
  by_cases a:b=e
  ·have j:H b=Y (.own x):=by
    rcases l with z|z
    ·exact absurd (a.trans z) hb
    ·rw[a]; exact z
   rw[q]at j; cases j;obtain⟨v,hv⟩:=i;exact⟨v,by rw[a]; exact hv⟩
  ·refine(ok b u q).stay (λc v hc r=>k c v ?_ r) (λc r=>by rw[qzq (d c b r)]; exact r) λc xs r=>by rw[qzq (f c xs r)]; exact r
   rcases hc with rfl|hc
   ·exact a
   ·rintro rfl;rcases l with z|z
    ·exact d c b hc z
    ·rw[hc]at z; cases z; exact hb rfl
end
structure Un (fs ex:L Y7) (H H':Hp) (h h':Heap):Prop where
 keep:∀b o,h.get? b=Y o->H b=B->b ∉ fs->b ∉ ex->h'.get? b=Y o
 slot:∀b o,h.get? b=Y o->H b=B->b∈fs->b ∉ ex->∃sl,h'.get? b=Y { o with slots:=sl }
 free:∀b o,h.get? b=Y o->H b=B->b ∉ ex->H' b=B
 there:∀b o,h.get? b=Y o->b ∉ ex->∃o',h'.get? b=Y o'
 tups:∀b xs,H b=Y (.tup xs)->H' b=Y (.tup xs)
 frzs:∀b o u,H b=Y (.frz o u)->H' b=Y (.frz o u)
 tbls:∀b ps,H b=Y (.tbl ps)->∃more,H' b=Y (.tbl (ps++more))
section
def Un.any(u:Un fs ex H H1 h h1)(q:h.get? b=Y ob)(n:H b=B)(c:b ∉ ex):∃sl,h1.get? b=Y { ob with slots:=sl }:=by
 by_cases hb:b∈fs
 ·exact u.slot b ob q n hb c
 ·exact⟨ob.slots,u.keep b ob q n hb c⟩
def Un.kept(k:∀b u,h.get? b=Y u->h'.get? b=Y u):Un fs ex H H h h':=
 ⟨λb ob q _ _ _=>k b ob q,λb ob q _ _ _=>⟨ob.slots,k b ob q⟩,λ_ _ _ n _=>n,λb ob q _=>⟨ob,k b ob q⟩,λ_ _ q=>q,λ_ _ _ q=>q,λ_ ps q=>⟨#[],by rw[q]; simp⟩⟩
def Un.refl:Un fs ex H H h h:=Un.kept λ_ _ q=>q
def Un.laid(k:∀b u,h.get? b=Y u->h'.get? b=Y u)(d:h.objs.size<=a)(c:H a=B):Un fs ex H (upd H a o) h h' where
 keep:=λb u q _ _ _=>k b u q
 slot:=λb u q _ _ _=>⟨u.slots,k b u q⟩
 free:=λb u q n _=>by rw[qzq (Qq6 (Qq7 (Qqe q) d))]; exact n
 there:=λb u q _=>⟨u,k b u q⟩
 tups:=λb xs q=>by rw[qzq (qzl q c)]; exact q
 frzs:=λb u xs q=>by rw[qzq (qzl q c)]; exact q
 tbls:=λb ps q=>⟨#[],by rw[qzq (qzl q c),q]; simp⟩
def Un.write(d:Mut (H x))(j:e=x\/H e=Y (.own x))(k:∀b u,b≠e->h.get? b=Y u->h'.get? b=Y u)(g:∃u,h'.get? e=Y u):Un fs ex H (upd H x o) h h':=by
 have i:∀b,H b=B->b≠x:=λb n z=>by subst z; rw[n]at d; exact d
 have hb:∀b,H b=B->b≠e:=λb n z=>by
  subst z;rcases j with r|r
  ·exact i b n r
  ·rw[n]at r; cases r
 have f:∀b u,H b=Y u->¬ Mut (Y u)->b≠x:=λb u q nm z=>by subst z; rw[q]at d; exact nm d
 refine⟨λb u q n _ _=>k b u (hb b n) q,λb u q n _ _=>⟨u.slots,k b u (hb b n) q⟩,λb u q n _=>by rw[qzq (i b n)]; exact n,λb u q _=>?_,
  λb xs q=>by rw[qzq (f b _ q λz=>z)]; exact q,λb u xs q=>by rw[qzq (f b _ q λz=>z)]; exact q,λb ps q=>⟨#[],by rw[qzq (f b _ q λz=>z),q]; simp⟩⟩
 by_cases c:b=e
 ·subst c; exact g
 ·exact⟨u,k b u c q⟩
end
noncomputable def trk(h:Heap)(H:Hp):L Y7:=(List.range h.objs.size).filter λa=>(H a).isSome
noncomputable def hidT(h:Heap)(H:Hp):Heap:=PySem.W.hideAll h (trk h H)
def qer(h)(H):(hidT h H).objs.size=h.objs.size:=PySem.W.hideAll_size _ _
def qh8(e:h.get? b=Y o)(n:H b=B):(hidT h H).get? b=Y o:=
 PySem.W.hideAll_get _ e λa=>by
  have q:=(Qzn.mp a).2;rw[n]at q; simp at q
def qn3(e:(hidT h H).get? b=Y o):h.get? b=Y o/\H b=none:=by
 have a:=PySem.W.of_hideAll (trk h H) e;refine⟨a,?_⟩
 cases q:H b with
 |none=>rfl
 |some x=>
  have c:b∈trk h H:=Qzn.mpr ⟨Qz8.mpr (Qqe a),by simp[q]⟩;have z:(hidT h H).get? b=none:=PySem.W.hideAll_none (trk h H) c;rw[z]at e; cases e
structure Mod (K:Qqq) (mg:Y5->Y3 Y8) (base:Heap):Prop where
 kin:K.In base
 glob:base.Ns mainGlobals mg
 blt:∃mb,base.Ns builtinsNs mb/\∀x:Y5,x ≠ "__name__"->mb x=Qc x
 nolimit:base.NoLimit
structure Cx where
 prog:Program
 w:Qj
 K:Qqq
 mg:Y5->Y3 Y8
 base:Heap
 A:Qk
 N:L Y5
 s₀:Qz
 H₀:Hp
 env:Env
 outer:L Env
 stack:L Env
 ex:L Y7
 fn:Y5->Yb
 calm:Yb
 pn:L (Y7×Obj)
 xe:Y8->Qz->Prop
noncomputable def frs(l:L Env):L Y7:=l.filterMap (·.frame)
noncomputable abbrev Cx.fs(X:Cx):L Y7:=frs X.outer
def Vis(sc:Scope)(x:Y5):Prop:=sc.names.lookup x=Y .local\/sc.names.lookup x=Y .cell\/sc.names.lookup x=Y .free
def Loc(sc:Scope)(x:Y5):Prop:=sc.names.lookup x=Y .local\/sc.names.lookup x=Y .cell
def Look(env:Env)(h:Heap)(m:Y5->Y3 Y8)(x:Y5)(u:Y8):Prop:=
 (env.kindOf x=Y .local/\m x=Y u)\/((env.kindOf x=Y .cell\/env.kindOf x=Y .free)/\∃c,env.cells.lookup x=Y c/\h.IsCell c (Y u))
structure Cx.Ok (X:Cx):Prop where
 mod:Mod X.K X.mg X.base
 kind:X.env.scope.kind=.function
 glob:X.env.globals=mainGlobals
 blt:X.env.builtins=builtinsNs
 above:X.s₀.heap.objs.size<=X.env.locals
 inj:∀x y c,X.env.cells.lookup x=Y c->X.env.cells.lookup y=Y c->x=y
 has:∀x,(X.env.kindOf x=Y .cell\/X.env.kindOf x=Y .free)->∃c,X.env.cells.lookup x=Y c
 cab:∀x c,X.fn x=O->X.env.cells.lookup x=Y c->X.s₀.heap.objs.size<=c
 hd:X.calm=O->X.A.handled=B
 frames:X.A.frames=Y X.stack
 stk:X.stack=X.outer\/(X.stack=X.env::X.outer/\X.env.frame=Y X.env.locals)
 exf:∀b∈X.ex,b≠X.env.locals/\∀x c,X.env.cells.lookup x=Y c->c≠b
 bs:∀b o,X.base.get? b=Y o->X.s₀.heap.get? b=Y o/\X.H₀ b=B
 bsz:X.base.objs.size<=X.s₀.heap.objs.size
 noex:∀b o,X.base.get? b=Y o->b ∉ X.ex
 exfs:∀b∈X.ex,b ∉ X.fs
 funs:X.s₀.heap.FunFrames X.base X.outer
 frf:∀b∈X.fs,X.H₀ b=B
structure Inv (X:Cx) (pins:L (Y7×Obj)) (σ:L (Y3 V)) (H:Hp) (s:Qz):Prop where
 ok:X.Ok
 os:s.os=X.s₀.os
 bare:Zm s.gens
 base:Un X.fs X.ex X.H₀ H X.s₀.heap s.heap
 loc:∃m,s.heap.Ns X.env.locals m/\∀(i:Y0) (x:Y5) (v:V),X.N[i]?=Y x->σ[i]?=Y (Y v)->Vis X.env.scope x->∃u,RelV v u/\Look X.env s.heap m x u
 cell:∀x c,X.env.cells.lookup x=Y c->∃v,s.heap.IsCell c v
 free:H X.env.locals=B
 freeC:∀x c,X.env.cells.lookup x=Y c->H c=B
 pin:∀p∈X.pn++pins,s.heap.get? p.1=Y p.2/\H p.1=B/\p.1≠X.env.locals/\p.1 ∉ X.fs/\∀v,p.2.data≠.cell v
 hok:HOk X.prog X.w H s.heap
 len:σ.length=X.N.length
section
variable {X:Cx}
def Cx.Ok.nofr(ok:X.Ok)(e:X.base.get? b=Y o):b ∉ X.fs:=λhb=>by
 have:=(ok.funs.mem hb).1;rw[e]at this; cases this
theorem Inv.bs(I:Inv X pins σ H s):∀b o,X.base.get? b=Y o->s.heap.get? b=Y o/\H b=none:=λb o e=>
 ⟨I.base.keep b o (I.ok.bs b o e).1 (I.ok.bs b o e).2 (I.ok.nofr e) (I.ok.noex b o e),I.base.free b o (I.ok.bs b o e).1 (I.ok.bs b o e).2 (I.ok.noex b o e)⟩
def Inv.bk(I:Inv X pins σ H s):∀b o,X.base.get? b=Y o->s.heap.get? b=Y o:=λb o e=>(I.bs b o e).1
theorem Inv.mod(I:Inv X pins σ H s):Mod X.K X.mg X.base:=I.ok.mod
def Inv.kIn(I:Inv X pins σ H s):X.K.In s.heap:=I.ok.mod.kin.keeps I.bk
theorem Inv.lt(I:Inv X pins σ H s):X.env.locals<s.heap.objs.size:=let ⟨_,hn,_⟩:=I.loc; hn.lt
def Inv.sz(I:Inv X pins σ H s):X.s₀.heap.objs.size<=s.heap.objs.size:=Qzh I.ok.above (Qjo I.lt)
def Inv.nofs(I:Inv X pins σ H s)(h:s.heap.objs.size<=a):a ∉ X.fs:=λhb=>by
 obtain⟨_,o,b,_⟩:=I.ok.funs.mem hb;exact absurd (Qq7 (Qqe b) (Qzh I.sz h)) (Qxj _)
def Inv.cne(I:Inv X pins σ H s):∀x c,X.env.cells.lookup x=Y c->c≠X.env.locals:=λx c e z=>by
 obtain⟨v,o,d,hd⟩:=I.cell x c e;obtain⟨m,⟨o',es,f,a,b,_⟩,_⟩:=I.loc;rw[z,a]at d; cases d; rw[b]at hd; cases hd
theorem Inv.funs(I:Inv X pins σ H s):s.heap.FunFrames X.base X.outer:=by
 have all:∀(l:L Env),(∀b∈frs l,b∈X.fs)->X.s₀.heap.FunFrames X.base l->s.heap.FunFrames X.base l:=by
  intro l
  induction l with
  |nil=>intro _ _; trivial
  |cons env r d=>
   intro hs hl;obtain⟨hk,⟨a,o,hf,hn,f,hd⟩,hr⟩:=hl;have c:=hs a (by unfold frs; rw[Qqt,hf]; exact Qzk);obtain⟨sl,e⟩:=I.base.slot a o f (I.ok.frf a c) c λz=>I.ok.exfs a z c;exact⟨hk,⟨a,_,hf,hn,e,hd⟩,d (λb hb=>hs b (by unfold frs; rw[Qqt,hf]; exact Qq3 _ hb)) hr⟩
 exact all X.outer (λ_ hb=>hb) I.ok.funs
theorem Inv.stack(I:Inv X pins σ H s):s.heap.FunFrames X.base X.stack:=by
 rcases I.ok.stk with e|⟨e,hf⟩
 ·rw[e]; exact I.funs
 ·rw[e];obtain⟨m,hn,_⟩:=I.loc;refine .cons (by rw[I.ok.kind]; decide) hf hn ?_ I.funs;exact Heap.get?_none_of_le (Qzh I.ok.bsz I.ok.above)
def Inv.stkSub(I:Inv X pins σ H s):∀b∈frs X.stack,b∈X.env.locals::X.fs:=λb hb=>by
 rcases I.ok.stk with e|⟨e,hf⟩
 ·rw[e]at hb; exact Qq3 _ hb
 ·rw[e]at hb;unfold frs at hb;rw[Qqt,hf]at hb;exact hb
def Inv.stkFree(I:Inv X pins σ H s):∀b∈frs X.stack,H b=none:=λb hb=>by
 rcases Qqb.mp (I.stkSub b hb) with e|hb
 ·rw[e]; exact I.free
 ·obtain⟨_,o,a,_⟩:=I.ok.funs.mem hb;exact I.base.free b o a (I.ok.frf b hb) λz=>I.ok.exfs b z hb
def Inv.step{ch:L Y7}(I:Inv X pins σ H s)(g:∀b∈ch,(b∈X.ex\/X.s₀.heap.objs.size<=b)/\b≠X.env.locals/\(∀x c,X.env.cells.lookup x=Y c->c≠b)/\∀p∈X.pn++pins,p.1≠b)(keep:∀b o,b≠X.env.locals->b ∉ X.fs->b ∉ ch->s.heap.get? b=Y o->H b=B->h'.get? b=Y o)(slot:∀b o,b≠X.env.locals->b∈X.fs->b ∉ ch->s.heap.get? b=Y o->H b=B->∃sl,h'.get? b=Y { o with slots:=sl })(free:∀b o,b ∉ ch->s.heap.get? b=Y o->H b=B->H' b=B)(there:∀b o,b ∉ ch->s.heap.get? b=Y o->∃o',h'.get? b=Y o')(tups:∀b xs,H b=Y (.tup xs)->H' b=Y (.tup xs))(frzs:∀b o u,H b=Y (.frz o u)->H' b=Y (.frz o u))(tbls:∀b ps,H b=Y (.tbl ps)->∃more,H' b=Y (.tbl (ps++more)))(ns:∀m,s.heap.Ns X.env.locals m->h'.Ns X.env.locals m)(hok:HOk X.prog X.w H' h')(F:Zm g'):
  Inv X pins σ H' { s with heap:=h',gens:=g',drawn:=d',toks:=t' }:=by
 have y:∀b o,X.s₀.heap.get? b=Y o->b≠X.env.locals:=λb o e=>Qq6 (Qq7 (Qqe e) I.ok.above);have j:∀b o,X.s₀.heap.get? b=Y o->b ∉ X.ex->b ∉ ch:=λb o e a hb=>by
  rcases (g b hb).1 with z|z
  ·exact a z
  ·exact absurd (Qq7 (Qqe e) z) (Qxj _)
 have h:∀x c,X.env.cells.lookup x=Y c->∀v,s.heap.IsCell c v->h'.IsCell c v:=λx c e v ⟨o,w,hd⟩=>by
  have f:=λz=>(g c z).2.2.1 x c e rfl
  by_cases hc:c∈X.fs
  ·obtain⟨sl,q⟩:=slot c o (I.cne x c e) hc f w (I.freeC x c e);exact⟨_,q,hd⟩
  ·exact⟨o,keep c o (I.cne x c e) hc f w (I.freeC x c e),hd⟩
 refine⟨I.ok,I.os,F,⟨λb o e n hb a=>?_,λb o e n hb a=>?_,λb o e n a=>?_,λb o e a=>?_,λb xs e=>tups b xs (I.base.tups b xs e),λb o xs e=>frzs b o xs (I.base.frzs b o xs e),λb ps e=>?_⟩,?_,λx c e=>?_,?_,λx c e=>?_,λp E=>?_,hok,I.len⟩
 ·exact keep b o (y b o e) hb (j b o e a) (I.base.keep b o e n hb a) (I.base.free b o e n a)
 ·obtain⟨sl,t⟩:=I.base.slot b o e n hb a;obtain⟨C,A⟩:=slot b _ (y b o e) hb (j b o e a) t (I.base.free b o e n a);exact⟨C,A⟩
 ·obtain⟨o',t⟩:=I.base.there b o e a;exact free b o' (j b o e a) t (I.base.free b o e n a)
 ·obtain⟨o',t⟩:=I.base.there b o e a;exact there b o' (j b o e a) t
 ·obtain⟨m1,t⟩:=I.base.tbls b ps e;obtain⟨m2,A⟩:=tbls b _ t;exact⟨m1++m2,by rw[A,Array.append_assoc]⟩
 ·obtain⟨m,hn,hl⟩:=I.loc;refine⟨m,ns m hn,λi x v t A G=>?_⟩;obtain⟨u,r,l⟩:=hl i x v t A G;refine⟨u,r,?_⟩;rcases l with l|⟨k,c,e,z⟩
  ·exact .inl l
  ·exact .inr ⟨k,c,e,h x c e _ z⟩
 ·obtain⟨v,z⟩:=I.cell x c e;exact⟨v,h x c e v z⟩
 ·obtain⟨m,⟨o,_,_,w,_⟩,_⟩:=I.loc;exact free _ o (λz=>(g _ z).2.1 rfl) w I.free
 ·obtain⟨v,o,w,hd⟩:=I.cell x c e;exact free c o (λz=>(g c z).2.2.1 x c e rfl) w (I.freeC x c e)
 ·obtain⟨e,n,ne,D,d⟩:=I.pin p E;have f:=λz=>(g p.1 z).2.2.2 p E rfl;exact⟨keep p.1 p.2 ne D f e n,free p.1 p.2 f e n,ne,D,d⟩
def Inv.un(I:Inv X pins σ H s)(u:Un X.fs [] H H' s.heap h')(hok:HOk X.prog X.w H' h'):Inv X pins σ H' { s with heap:=h',toks:=t' }:=by
 obtain⟨m,⟨o,es,i,f,r⟩,_⟩:=id I.loc;obtain⟨sl,h⟩:=u.any f I.free (by simp)
 exact I.step (ch:=[]) (λ_ z=>nomatch z) (λb o _ hb _ e n=>u.keep b o e n hb (by simp)) (λb o _ hb _ e n=>u.slot b o e n hb (by simp)) (λb o _ e n=>u.free b o e n (by simp)) (λb o _ e=>u.there b o e (by simp)) u.tups u.frzs u.tbls (λm' g=>by
  obtain⟨o',c,d,a,r'⟩:=g;rw[f]at a; cases a
  exact⟨_,c,d,h,r'⟩) hok I.bare
def Inv.call(I:Inv X pins σ H s)(u:Un (frs X.stack) ch H H' s.heap h')(hok:HOk X.prog X.w H' h')(k:Zm g')(d:∀b∈ch,(b∈X.ex\/X.s₀.heap.objs.size<=b)/\b≠X.env.locals/\(∀x c,X.env.cells.lookup x=Y c->c≠b)/\∀p∈X.pn++pins,p.1≠b):
  Inv X pins σ H' { s with heap:=h',gens:=g',drawn:=d',toks:=t' }:=by
 obtain⟨m,⟨o,es,l,i,r⟩,_⟩:=id I.loc;obtain⟨sl,f⟩:=u.any i I.free λz=>(d _ z).2.1 rfl
 exact I.step d (λb o f hb hc e n=>u.keep b o e n (λz=>(Qqb.mp (I.stkSub b z)).elim f hb) hc) (λb o _ _ hc e n=>u.any e n hc) (λb o hc e n=>u.free b o e n hc) (λb o hc e=>u.there b o e hc) u.tups u.frzs u.tbls (λm' j=>by
  obtain⟨o',g,h,a,r'⟩:=j;rw[i]at a; cases a
  exact⟨_,g,h,f,r'⟩) hok k
def Inv.turned(I:Inv X pins σ H s)(k:∀b o,b≠it->s.heap.get? b=Y o->h'.get? b=Y o)(g:H it=B)(d:it≠X.env.locals)(l:it∈X.ex\/X.s₀.heap.objs.size<=it)(j:∀x c,X.env.cells.lookup x=Y c->c≠it)(i:∀p∈X.pn++pins,p.1≠it):Inv X pins σ H { s with heap:=h',toks:=t' }:=by
 have a:∀b u,H b=Y u->b≠it:=λb u e z=>by rw[z,g]at e; cases e
 refine I.step (ch:=[it]) (λb hb=>?_) (λb o _ _ hc e _=>k b o (λz=>hc (by simp[z])) e) (λb o _ _ hc e _=>⟨o.slots,k b o (λz=>hc (by simp[z])) e⟩) (λ_ _ _ _ n=>n)
  (λb o hc e=>⟨o,k b o (λz=>hc (by simp[z])) e⟩) (λ_ _ e=>e) (λ_ _ _ e=>e) (λb ps e=>⟨#[],by rw[e]; simp⟩) (λm h=>?_) (λb u e=>?_) I.bare
 ·have e:b=it:=by simpa using hb
  subst e;exact⟨l,d,j,i⟩
 ·obtain⟨o,es,t,f,r⟩:=h;exact⟨o,es,t,k _ o (Ne.symm d) f,r⟩
 ·refine(I.hok b u e).stay (λc v hc q=>k c v ?_ q) (λ_ q=>q) λ_ _ q=>q;rcases hc with z|z
  ·rw[z]; exact a b u e
  ·exact a c _ z
def Inv.tok(I:Inv X pins σ H s)(t):Inv X pins σ H { s with toks:=t }:=I.un Un.refl I.hok
theorem Inv.kept(I:Inv X pins σ H s)(k:∀b u,s.heap.get? b=Y u->h'.get? b=Y u):Inv X pins σ H { s with heap:=h',toks:=t' }:=I.un (Un.kept k) (I.hok.kept k)
theorem Inv.laid(I:Inv X pins σ H s)(k:∀b u,s.heap.get? b=Y u->h'.get? b=Y u)(c:s.heap.objs.size<=a)(new:ObjOk X.prog X.w (upd H a o) h' a o):
  Inv X pins σ (upd H a o) { s with heap:=h',toks:=t' }:=I.un (Un.laid k c (I.hok.fresh c)) (I.hok.laid k c new)
theorem Inv.write(I:Inv X pins σ H s)(c:Mut (H x))(d:e=x\/H e=Y (.own x))(k:∀b u,b≠e->s.heap.get? b=Y u->h'.get? b=Y u)(a:∃u,h'.get? e=Y u)(new:ObjOk X.prog X.w (upd H x o) h' x o):Inv X pins σ (upd H x o) { s with heap:=h',toks:=t' }:=I.un (Un.write c d k a) (I.hok.write c d k a new)
def Inv.pins_of(I:Inv X pins σ H s)(h:∀p∈a,s.heap.get? p.1=Y p.2/\H p.1=B/\p.1≠X.env.locals/\p.1 ∉ X.fs/\∀v,p.2.data≠.cell v):Inv X a σ H s:=
 ⟨I.ok,I.os,I.bare,I.base,I.loc,I.cell,I.free,I.freeC,λp b=>(Qqr.mp b).elim (λz=>I.pin p (Qzb _ z)) (h p),I.hok,I.len⟩
def qaw{N:L Y5}(c:N.Nodup){i:Y0}(a:N[i]?=Y x)(b:N[j]?=Y x):i=j:=by
 obtain⟨h1,e⟩:=Qqk.mp a;obtain⟨h2,d⟩:=Qqk.mp b;exact(List.getElem_inj c).mp (e.trans d.symm)
def qvm(I:Inv X pins σ H s)(hN:X.N.Nodup)(G:X.N[i]?=Y x)(g:Loc X.env.scope x)(r:RelV v u)(h:∀s',Inv X pins (σ.set i (Y v)) H s'->(∃a,Heap.SameBut a s.heap s'.heap/\(a=X.env.locals\/X.env.cells.lookup x=Y a))->Q () s')(hf:X.fn x=O\/X.env.scope.names.lookup x=Y .local):wpAny M A (storeName X.env x u) Q E s:=by
 obtain⟨m,hn,hl⟩:=id I.loc;have K:(X.env.scope.kind==.class||(X.env.scope.kind==.module&&X.env.locals != X.env.globals))=false:=by rw[I.ok.kind]; rfl
 have w:i<σ.length:=by rw[I.len]; exact(Qqk.mp G).1
 have cne:=I.cne;have tracked:∀{a:Y7}{h':Heap},(∃o,s.heap.get? a=Y o/\H a=B)->Heap.SameBut a s.heap h'->HOk X.prog X.w H h':=λ{a h'} ha hs b ob e=>by
  obtain⟨_,_,l⟩:=ha;refine(I.hok b ob e).stay (λc R hc q=>(hs.2 c ?_).trans q) (λ_ q=>q) λ_ _ q=>q;rintro rfl;rcases hc with rfl|hc
  ·rw[l]at e; cases e
  ·rw[l]at hc; cases hc
 rcases g with hk|hk
 ·refine wpAny_storeName_local hk hn (λh' a1 hs=>?_) K;obtain⟨oL,_,_,a0,_⟩:=id hn;refine h _ ⟨I.ok,I.os,I.bare,⟨λb o e n hb g=>?_,λb o e n hb g=>?_,I.base.free,λb o e g=>?_,I.base.tups,I.base.frzs,I.base.tbls⟩,⟨_,a1,λj y T f t e3=>?_⟩,λy c e=>?_,I.free,I.freeC,λp hp=>?_,tracked ⟨oL,a0,I.free⟩ hs,by simpa using I.len⟩ ⟨_,hs,.inl rfl⟩
  ·exact(hs.2 b (Qq6 (Qq7 (Qqe e) I.ok.above))).trans (I.base.keep b o e n hb g)
  ·obtain⟨sl,f⟩:=I.base.slot b o e n hb g;exact⟨sl,(hs.2 b (Qq6 (Qq7 (Qqe e) I.ok.above))).trans f⟩
  ·obtain⟨o',f⟩:=I.base.there b o e g;exact⟨o',(hs.2 b (Qq6 (Qq7 (Qqe e) I.ok.above))).trans f⟩
  ·by_cases hj:j=i
   ·subst hj;rw[G]at f; cases f;rw[Qzv w]at t;cases t;exact⟨u,r,.inl ⟨hk,by simp⟩⟩
   ·rw[Qq0 (Ne.symm hj)]at t;obtain⟨U,r',q⟩:=hl j y T f t e3;refine⟨U,r',?_⟩;rcases q with⟨k,e⟩|⟨k,c,e,z⟩
    ·refine .inl ⟨k,?_⟩;have:y≠x:=λe=>hj (qaw hN f (e▸G));simp[this,e]
    ·exact .inr ⟨k,c,e,z.sameBut hs (cne y c e)⟩
  ·obtain⟨R,z⟩:=I.cell y c e;exact⟨R,z.sameBut hs (cne y c e)⟩
  ·obtain⟨e,n,ne,W,d⟩:=I.pin p hp;exact⟨(hs.2 p.1 ne).trans e,n,ne,W,d⟩
 ·have C:X.fn x=true:=by
   rcases hf with z|z
   ·exact z
   ·rw[z]at hk; cases hk
  obtain⟨c,hc⟩:=I.ok.has x (.inl hk);obtain⟨R,z⟩:=I.cell x c hc;refine wpAny_storeName_cell I.ok.kind hk hc z (λh' P hs=>?_);obtain⟨oc,F,D⟩:=id z;refine h { s with heap:=h' } ⟨I.ok,I.os,I.bare,⟨λb o e n hb g=>?_,λb o e n hb g=>?_,I.base.free,λb o e g=>?_,I.base.tups,I.base.frzs,I.base.tbls⟩,⟨m,hn.sameBut hs (Ne.symm (cne x c hc)),λj y T f t e3=>?_⟩,λy S e=>?_,I.free,I.freeC,λp hp=>?_,tracked ⟨oc,F,I.freeC x c hc⟩ hs,by simpa using I.len⟩ ⟨c,hs,.inr hc⟩
  ·exact(hs.2 b (Qq6 (Qq7 (Qqe e) (I.ok.cab x c C hc)))).trans (I.base.keep b o e n hb g)
  ·obtain⟨sl,f⟩:=I.base.slot b o e n hb g;exact⟨sl,(hs.2 b (Qq6 (Qq7 (Qqe e) (I.ok.cab x c C hc)))).trans f⟩
  ·obtain⟨o',f⟩:=I.base.there b o e g;exact⟨o',(hs.2 b (Qq6 (Qq7 (Qqe e) (I.ok.cab x c C hc)))).trans f⟩
  ·by_cases hj:j=i
   ·subst hj;rw[G]at f; cases f;rw[Qzv w]at t;cases t;exact⟨u,r,.inr ⟨.inl hk,c,hc,P⟩⟩
   ·rw[Qq0 (Ne.symm hj)]at t;obtain⟨U,r',q⟩:=hl j y T f t e3;refine⟨U,r',?_⟩;rcases q with q|⟨k,S,e,z'⟩
    ·exact .inl q
    ·refine .inr ⟨k,S,e,z'.sameBut hs ?_⟩;rintro rfl;exact hj (qaw hN f (I.ok.inj _ _ _ e hc▸G))
  ·by_cases N:S=c
   ·subst N; exact⟨_,P⟩
   ·obtain⟨w2,z2⟩:=I.cell y S e;exact⟨w2,z2.sameBut hs N⟩
  ·obtain⟨e,n,ne,W,d⟩:=I.pin p hp;refine⟨(hs.2 p.1 ?_).trans e,n,ne,W,d⟩;intro q;rw[q,F]at e;have q':=Option.some.inj e;exact d R (by rw[<- q']; exact D)
def qy0(I:Inv X pins σ H s)(c:X.N.Nodup)(b:X.N[i]?=Y x)(a:Loc X.env.scope x)(r:RelV v u)(h:∀s',Inv X pins (σ.set i (Y v)) H s'->Q () s')(hf:X.fn x=O\/X.env.scope.names.lookup x=Y .local):wpAny M A (storeName X.env x u) Q E s:=
 qvm I c b a r (λs' d _=>h s' d) hf
def Inv.call'(I:Inv X pins σ H s)(f:s'.os=s.os)(u:Un (frs X.stack) ch H H' s.heap s'.heap)(hok:HOk X.prog X.w H' s'.heap)(g:Zm s'.gens)(a:∀b∈ch,(b∈X.ex\/X.s₀.heap.objs.size<=b)/\b≠X.env.locals/\(∀x c,X.env.cells.lookup x=Y c->c≠b)/\∀p∈X.pn++pins,p.1≠b):Inv X pins σ H' s':=by
 obtain⟨h',h,i,d,o'⟩:=s';have e:=f;subst e;exact I.call u hok g a
end
abbrev XK:=Y8->Y3 Y7->Hp->Prop
abbrev St:=L (Y3 V)
abbrev VK:=V->Hp->Prop
abbrev TE:=St->Hp->VK->Prop
abbrev TT:=St->Hp->(Yb->Hp->Prop)->Prop
abbrev TA:=St->Hp->(L V->Hp->Prop)->Prop
structure Ends where
 nx:St->Hp->Prop
 rt:VK
 bk:St->Hp->Prop:=λ_ _=>False
 ct:St->Hp->Prop:=λ_ _=>False
abbrev TS:=Ends->St->Hp->Prop
def EP(X:Cx)(pins:L ?qm)(σ:St)(Q:VK)(u:Y8)(s':Qz):Prop:=∃v H',Inv X pins σ H' s'/\RelV v u/\Q v H'
def TP(X:Cx)(pins:L ?qm)(σ:St)(Q:Yb->Hp->Prop)(b:Yb)(s':Qz):Prop:=∃H',Inv X pins σ H' s'/\Q b H'
def AP(X:Cx)(pins:L ?qm)(σ:St)(Q:L V->Hp->Prop)(us:L Y8)(s':Qz):Prop:=∃vs H',Inv X pins σ H' s'/\Vals vs us/\Q vs H'
def SP(X:Cx)(pins:L ?qm)(D:Ends)(f:Flow)(s':Qz):Prop:=
 match f with
 |.next=>∃σ' H',Inv X pins σ' H' s'/\D.nx σ' H'
 |.brk=>∃σ' H',Inv X pins σ' H' s'/\D.bk σ' H'
 |.cont=>∃σ' H',Inv X pins σ' H' s'/\D.ct σ' H'
 |.ret u=>∃v σ' H',Inv X pins σ' H' s'/\RelV v u/\D.rt v H'
def PE(X:Cx)(e:Expr)(t:TE):Prop:=
 ∀(pins:L ?qm) (s:Qz) (σ:St) (H:Hp) (Q:VK),Inv X pins σ H s->t σ H Q->wpAny ?d X.A (Qa e X.env) (EP X pins σ Q) X.xe s
def PT(X:Cx)(e:Expr)(t:TT):Prop:=
 ∀(pins:L ?qm) (s:Qz) (σ:St) (H:Hp) (Q:Yb->Hp->Prop),Inv X pins σ H s->t σ H Q->wpAny ?d X.A (isTrue e X.env (Qa e X.env)) (TP X pins σ Q) X.xe s
def PW(X:Cx)(e:Expr)(t:TT):Prop:=
 ∀(whole:Sem Y8) (pins:L ?qm) (s:Qz) (σ:St) (H:Hp) (Q:Yb->Hp->Prop),Inv X pins σ H s->t σ H Q->wpAny ?d X.A (isTrue e X.env whole) (TP X pins σ Q) X.xe s
def PW.pt(h:PW X e t):PT X e t:=h _
def PA(X:Cx)(es:L Expr)(t:TA):Prop:=
 ∀(pos:Pos) (pins:L ?qm) (s:Qz) (σ:St) (H:Hp) (Q:L V->Hp->Prop),Inv X pins σ H s->t σ H Q->wpAny ?d X.A (spliced (backTo pos (starEach es X.env))) (AP X pins σ Q) X.xe s
def PS(X:Cx)(st:Stmt)(t:TS):Prop:=
 ∀(pins:L ?qm) (s:Qz) (σ:St) (H:Hp) (D:Ends),Inv X pins σ H s->t D σ H->wpAny ?d X.A (exec st X.env) (SP X pins D) X.xe s
def PSs(X:Cx)(st:L Stmt)(t:TS):Prop:=
 ∀(pins:L ?qm) (s:Qz) (σ:St) (H:Hp) (D:Ends),Inv X pins σ H s->t D σ H->wpAny ?d X.A (execs st X.env) (SP X pins D) X.xe s
def thn{t:Sem α}{Q b:α->Qz->Prop}(h:wpAny M A t Q E s)(c:∀a s,Q a s->b a s):wpAny M A t b E s:=Qh h c λ_ _ x=>x
section
def bin(n:PE X a j)(hb:PE X b tb){R:V->V->Hp->Prop}(I:Inv X c d H s)(h:j d H λx H1=>tb d H1 λy H2=>R x y H2){Q:α->Qz->Prop}{f:Y8->Y8->Sem α}(hf:∀v u i x y H2,Inv X c d H2 i->RelV x v->RelV y u->R x y H2->wpAny ?d X.A (f v u) Q X.xe i):
  wpAny ?d X.A (Qa a X.env) (λv g=>wpAny ?d X.A (Qa b X.env) (λu e=>wpAny ?d X.A (f v u) Q X.xe e) X.xe g) X.xe s:=by
 refine thn (n c s d H _ I h) λv k ⟨x,H1,p,r1,m⟩=>?_;refine thn (hb c k d H1 _ p m) λu i ⟨y,H2,o,r2,l⟩=>?_;exact hf v u i x y H2 o r1 r2 l
noncomputable def tVar(i:Y0):TE:=λσ H Q=>∃v,σ[i]?=Y (Y v)/\Q v H
noncomputable def tC(v:V):TE:=λ_ H Q=>Q v H
def pe_var(g:X.N[i]?=Y x)(hv:Vis X.env.scope x)(hd:?W=false:=by decide)(d:(x==("__classdict__" : Y5))=false:=by decide):PE X (.Name x pos) (tVar i):=by
 intro pins s σ H Q I h;obtain⟨v,e,h⟩:=h;obtain⟨m,hn,hl⟩:=I.loc;obtain⟨u,r,l⟩:=hl i x v g e hv;have b:EP X pins σ Q u s:=⟨v,H,I,r,h⟩
 rcases l with⟨hk,f⟩|⟨hk,c,hc,a⟩
 ·exact wpAny_Name (wpAny_loadName_local I.ok.kind hk hn f b) hd
 ·rcases hk with hk|hk
  ·exact wpAny_Name (wpAny_loadName_cell I.ok.kind hk hc a b) hd
  ·exact wpAny_Name (wpAny_loadName_free I.ok.kind hk hc a b d) hd
def pe_int{i j pos}:PE X (.Constant (.int i) j pos) (tC (.int i)):=λ_ _ _ H _ I h=>wpAny_Constant_int ⟨.int i,H,I.tok _,⟨_,rfl⟩,h⟩
def pe_bl{b j pos}:PE X (.Constant (.bool b) j pos) (tC (.bl b)):=λ_ _ _ H _ I h=>Constant_bool ⟨.bl b,H,I,rfl,h⟩
def pe_non{j pos}:PE X (.Constant .none j pos) (tC .non):=λ_ _ _ H _ I h=>Constant_none ⟨.non,H,I,rfl,h⟩
def pe_str{x j pos}:PE X (.Constant (.str x) j pos) (tC (.str x)):=λ_ _ _ H _ I h=>Calls.Constant_str ⟨.str x,H,I.tok _,⟨_,rfl⟩,h⟩
def Gl(X:Cx)(x:Y5):Prop:=X.env.kindOf x=Y .globalImplicit
def qyw(I:Inv X a b H s)(d:Gl X x)(c:X.mg x=Y u)(h:Q u s)(hd:?W=false:=by decide):wpAny ?d X.A (Qa (.Name x pos) X.env) Q E s:=
 Calls.Name_function_global I.ok.kind d (Calls.loadGlobal_global (by rw[I.ok.glob]; exact I.mod.glob.keeps I.bk) c h) hd
def qx3(I:Inv X a b H s)(e:Gl X x)(d:X.mg x=B)(hv:Qc x=Y u)(h:Q u s)(c:x ≠ "__name__":=by decide)(hd:?W=false:=by decide):wpAny ?d X.A (Qa (.Name x pos) X.env) Q E s:=by
 obtain⟨f,h1,h2⟩:=I.mod.blt;exact Calls.Name_function_global I.ok.kind e (Calls.loadGlobal_builtin (by rw[I.ok.glob]; exact I.mod.glob.keeps I.bk) d (by rw[I.ok.blt]; exact h1.keeps I.bk) ((h2 x c).trans hv) h) hd
def qw9(b:Gl X x)(a:X.mg x=Y u)(r:RelV v u)(hd:?W=false:=by decide):PE X (.Name x pos) (tC v):=
 λ_ _ _ H _ I h=>qyw I b a ⟨v,H,I,r,h⟩ hd
def qjp(c:Gl X x)(b:X.mg x=B)(hv:Qc x=Y u)(r:RelV v u)(a:x ≠ "__name__":=by decide)(hd:?W=false:=by decide):PE X (.Name x pos) (tC v):=
 λ_ _ _ H _ I h=>qx3 I c b hv ⟨v,H,I,r,h⟩ a hd
def PC(X:Cx)(op:CmpOp)(a b:Expr)(t:TE):Prop:=
 ∀(pins:L ?qm) (s:Qz) (σ:St) (H:Hp) (Q:VK),Inv X pins σ H s->t σ H Q->
  wpAny ?d X.A (Qa a X.env) (λv s₁=>wpAny ?d X.A (Qa b X.env) (λu s₂=>wpAny ?d X.A (Qg op v u) (EP X pins σ Q) X.xe s₂) X.xe s₁) X.xe s
noncomputable def tB(t:TE):TT:=λσ H Q=>t σ H λx H1=>∃c,x=.bl c/\Q c H1
def qlx(h:PC X c a b t)(e:Zg c b=Y6):PE X (.Compare a [c] [b] pos) t:=λpins s σ H Q I d=>wpAny_Compare1 (h pins s σ H Q I d) e
def qi7(h:PC X e a b t)(f:Zg e b=Y6):PT X (.Compare a [e] [b] pos) (tB t):=by
 intro pins s σ H Q I i;refine wpAny_isTrue_Compare1 (thn (h pins s σ H _ I i) λv m f=>thn f λu l h2=>thn h2 λc k ⟨x,H1,j,r1,g⟩=>?_) f;obtain⟨d,rfl,q⟩:=g;cases r1;exact Qe ⟨H1,j,q⟩
noncomputable def tAnd(t u:TT):TT:=λσ H Q=>t σ H λc H1=>if c=O then u σ H1 Q else Q Y6 H1
noncomputable def tOr(t u:TT):TT:=λσ H Q=>t σ H λc H1=>if c=O then Q O H1 else u σ H1 Q
noncomputable def tNot(t:TT):TT:=λσ H Q=>t σ H λc H1=>Q (!c) H1
def qm8(d:PT X a tA):PW X (.BoolOp .And [a] pos) tA:=by
 intro f pins s σ H Q I h;refine isTrue_and (thn (d pins s σ H Q I h) λc g e=>?_)
 cases c with
 |true=>exact isTrue_and_nil e
 |false=>exact e
def pw_or1(d:PT X a tA):PW X (.BoolOp .Or [a] pos) tA:=by
 intro f pins s σ H Q I h;refine isTrue_or (thn (d pins s σ H Q I h) λc g e=>?_)
 cases c with
 |false=>exact isTrue_or_nil e
 |true=>exact e
def pw_and(i:PT X a tA)(hb:PW X (.BoolOp .And (b::rest) pos) tB'):PW X (.BoolOp .And (a::b::rest) pos) (tAnd tA tB'):=by
 intro f pins s σ H Q I h;refine isTrue_and (thn (i pins s σ H _ I h) λc g ⟨H1,e,d⟩=>?_)
 cases c with
 |true=>exact hb f pins g σ H1 Q e d
 |false=>exact⟨H1,e,d⟩
def pw_or(i:PT X a tA)(hb:PW X (.BoolOp .Or (b::rest) pos) tB'):PW X (.BoolOp .Or (a::b::rest) pos) (tOr tA tB'):=by
 intro f pins s σ H Q I h;refine isTrue_or (thn (i pins s σ H _ I h) λc g ⟨H1,e,d⟩=>?_)
 cases c with
 |true=>exact⟨H1,e,d⟩
 |false=>exact hb f pins g σ H1 Q e d
def pt_not(d:PT X a tA):PT X (.UnaryOp .Not a pos) (tNot tA):=by
 intro pins s σ H Q I h;exact isTrue_not (d pins s σ H (λc H1=>Q (!c) H1) I h)
noncomputable def tAndV(ta tb:TE):TE:=λσ H Q=>ta σ H λx H1=>∃c,x=.bl c/\if c=O then tb σ H1 Q else Q (.bl Y6) H1
noncomputable def tOrV(ta tb:TE):TE:=λσ H Q=>ta σ H λx H1=>∃c,x=.bl c/\if c=O then Q (.bl O) H1 else tb σ H1 Q
noncomputable def tNotV(ta:TE):TE:=λσ H Q=>ta σ H λx H1=>∃c,x=.bl c/\Q (.bl (!c)) H1
def qlq{op}(h:PE X a t):PE X (.BoolOp op [a] pos) t:=λpins s σ H Q I c=>BoolOp_one (h pins s σ H Q I c)
def pe_and(g:PE X a ta)(hb:PE X (.BoolOp .And (b::rest) pos) tb):PE X (.BoolOp .And (a::b::rest) pos) (tAndV ta tb):=by
 intro pins s σ H Q I h;refine BoolOp_and (thn (g pins s σ H _ I h) λv f ⟨x,H1,e,r1,d⟩=>?_);obtain⟨c,rfl,d⟩:=d;cases r1;refine Qe ?_
 cases c with
 |true=>exact hb pins f σ H1 Q e d
 |false=>exact⟨.bl Y6,H1,e,rfl,d⟩
def pe_or(g:PE X a ta)(hb:PE X (.BoolOp .Or (b::rest) pos) tb):PE X (.BoolOp .Or (a::b::rest) pos) (tOrV ta tb):=by
 intro pins s σ H Q I h;refine BoolOp_or (thn (g pins s σ H _ I h) λv f ⟨x,H1,e,r1,d⟩=>?_);obtain⟨c,rfl,d⟩:=d;cases r1;refine Qe ?_
 cases c with
 |false=>exact hb pins f σ H1 Q e d
 |true=>exact⟨.bl O,H1,e,rfl,d⟩
def pe_not(e:PE X a ta):PE X (.UnaryOp .Not a pos) (tNotV ta):=by
 intro pins s σ H Q I h;refine UnaryOp_ (thn (e pins s σ H _ I h) λv g ⟨x,H1,f,r1,d⟩=>?_);obtain⟨c,rfl,d⟩:=d;cases r1;exact not_of (Qe ⟨.bl (!c),H1,f,rfl,d⟩)
noncomputable def tIf(t:TT)(ta tb:TE):TE:=λσ H Q=>t σ H λc H1=>if c=O then ta σ H1 Q else tb σ H1 Q
def qhc(hc:PT X c tA)(i:PE X a ta)(hb:PE X b tb):PE X (.IfExp c a b pos) (tIf tA ta tb):=by
 intro pins s σ H Q I h;refine wpAny_IfExp (thn (hc pins s σ H _ I h) λd e ⟨H1,g,f⟩=>?_)
 cases d with
 |true=>exact i pins e σ H1 Q g f
 |false=>exact hb pins e σ H1 Q g f
end
def SqL(K:Qqq)(H:Hp)(a:Y7)(xs:L V):Prop:=
 Rd H a (.lst xs)\/
  ∃(o:Obj) (its:Array Y8) (n:Y0),K.lookup a=Y o/\o.cls=.type "list"/\o.dict=B/\o.data=.seq its n/\its.size<=sizeLine/\Vals xs its.toList
def SqT(K:Qqq)(H:Hp)(a:Y7)(xs:L V):Prop:=
 Rd H a (.tup xs)\/
  ∃(o:Obj) (its:Array Y8) (n:Y0),K.lookup a=Y o/\o.cls=.type "tuple"/\o.data=.seq its n/\its.size<=sizeLine/\Vals xs its.toList
noncomputable def absV:Y8->Y3 V
 |.none=>Y .non
 |.bool b=>Y (.bl b)
 |.int i _=>Y (.int i)
 |.str x _=>Y (.str x)
 |.bytes b _=>Y (.byt b)
 |.float b _=>Y (.flt b)
 |.ref a=>Y (.ref a)
 |.type n=>Y (.ty n)
 |_=>B
def RelV.abs(r:RelV x u):absV u=Y x:=by
 cases x with
 |non=>cases r; rfl
 |bl _=>cases r; rfl
 |int _=>obtain⟨t,rfl⟩:=r; rfl
 |str _=>obtain⟨t,rfl⟩:=r; rfl
 |byt _=>obtain⟨t,rfl⟩:=r; rfl
 |flt _=>obtain⟨t,rfl⟩:=r; rfl
 |ref _=>cases r; rfl
 |ty _=>cases r; rfl
theorem RelV.inj(r:RelV x u)(q:RelV y u):x=y:=Option.some.inj (r.abs.symm.trans q.abs)
theorem Vals.inj:∀{xs ys}{us},Vals xs us->Vals ys us->xs=ys
 |_,_,_,.nil,.nil=>rfl
 |_,_,_,.cons r t,.cons r' t'=>by rw[r.inj r',Vals.inj t t']
section
def SqL.of{K:Qqq}(h:H a=Y (.lst xs)):SqL K H a xs:=.inl (.inl h)
def SqT.of{K:Qqq}(h:H a=Y (.tup xs)):SqT K H a xs:=.inl (.inl h)
def Inv.list(I:Inv X pins σ H s)(h:SqL X.K H a xs):∃b:L Y8,Vals xs b/\PlainL s.heap a b.toArray/\xs.length<=sizeLine:=by
 rcases h with h|⟨o,b,n,hk,hc,hd,hs,c,r⟩
 ·obtain⟨z,b,n,r,e⟩:=h.ok I.hok;exact⟨b,r,⟨_,n,e,rfl,rfl,rfl⟩,z⟩
 ·refine⟨b.toList,r,⟨o,n,I.kIn a o hk,hc,hd,by simpa using hs⟩,?_⟩;have e:=r.length;simp only[Qz3]at e;omega
def Inv.tuple(I:Inv X pins σ H s)(h:SqT X.K H a xs):∃b:L Y8,Vals xs b/\IsTup s.heap a b.toArray/\xs.length<=sizeLine:=by
 rcases h with h|⟨o,b,n,hk,hc,hs,c,r⟩
 ·obtain⟨z,b,r,p⟩:=h.ok I.hok;exact⟨b,r,p,z⟩
 ·refine⟨b.toList,r,⟨o,I.kIn a o hk,hc,n,by simpa using hs⟩,?_⟩;have e:=r.length;simp only[Qz3]at e;omega
def Inv.list_inj(I:Inv X pins σ H s)(h:SqL X.K H a xs)(h':SqL X.K H a ys):xs=ys:=by
 obtain⟨b,r,⟨o,n,e,_,_,d⟩,_⟩:=I.list h;obtain⟨its',r',⟨o',i,c,_,_,f⟩,_⟩:=I.list h';rw[e]at c; cases c;rw[d]at f;injection f with g _;have:b=its':=by simpa using congrArg Array.toList g
 subst this;exact r.inj r'
def Inv.tuple_inj(I:Inv X pins σ H s)(h:SqT X.K H a xs)(h':SqT X.K H a ys):xs=ys:=by
 obtain⟨b,r,⟨o,e,_,n,d⟩,_⟩:=I.tuple h;obtain⟨its',r',⟨o',c,_,i,f⟩,_⟩:=I.tuple h';rw[e]at c; cases c;rw[d]at f;injection f with g _;have:b=its':=by simpa using congrArg Array.toList g
 subst this;exact r.inj r'
end
noncomputable abbrev Cx.wish(X:Cx)(E:Y8->Qz->Prop):Cx:={ X with xe:=E }
noncomputable abbrev Cx.nox(X:Cx):Cx:=X.wish λ_ _=>False
theorem Cx.Ok.wish{X:Cx}(ok:X.Ok)(E:Y8->Qz->Prop):(X.wish E).Ok:=
 ⟨ok.mod,ok.kind,ok.glob,ok.blt,ok.above,ok.inj,ok.has,ok.cab,ok.hd,ok.frames,ok.stk,ok.exf,ok.bs,ok.bsz,ok.noex,ok.exfs,ok.funs,ok.frf⟩
def Cx.Ok.unwish{X:Cx}(ok:(X.wish E).Ok):X.Ok:=
 ⟨ok.mod,ok.kind,ok.glob,ok.blt,ok.above,ok.inj,ok.has,ok.cab,ok.hd,ok.frames,ok.stk,ok.exf,ok.bs,ok.bsz,ok.noex,ok.exfs,ok.funs,ok.frf⟩
section
theorem Inv.wish(I:Inv X pins σ H s)(E:Y8->Qz->Prop):Inv (X.wish E) pins σ H s:=⟨I.ok.wish E,I.os,I.bare,I.base,I.loc,I.cell,I.free,I.freeC,I.pin,I.hok,I.len⟩
theorem Inv.unwish(I:Inv (X.wish E) pins σ H s):Inv X pins σ H s:=⟨I.ok.unwish,I.os,I.bare,I.base,I.loc,I.cell,I.free,I.freeC,I.pin,I.hok,I.len⟩
theorem SP.unwish(h:SP (X.wish E) pins D f s'):SP X pins D f s':=by
 cases f with
 |next=>obtain⟨a,H',I,q⟩:=h; exact⟨a,H',I.unwish,q⟩
 |brk=>obtain⟨a,H',I,q⟩:=h; exact⟨a,H',I.unwish,q⟩
 |cont=>obtain⟨a,H',I,q⟩:=h; exact⟨a,H',I.unwish,q⟩
 |ret u=>obtain⟨v,a,H',I,r,q⟩:=h; exact⟨v,a,H',I.unwish,r,q⟩
theorem PSs.nox{st:L Stmt}(h:PSs X.nox st t):PSs X st t:=λpins s σ H D I a=>
 Qh (h pins s σ H D (I.wish _) a) (λ_ _ q=>q.unwish) λ_ _ z=>False.elim z
end
section
variable {X:Cx}{st:Stmt}{rest:L Stmt}{t u:TS}
noncomputable def tNext:TS:=λD σ H=>D.nx σ H
noncomputable def tSeq(t u:TS):TS:=λD σ H=>t { D with nx:=u D } σ H
def pss_nil:PSs X [] tNext:=λ_ _ σ H _ I h=>wpAny_execs_nil ⟨σ,H,I,h⟩
def qaz(d:PS X st t)(c:PSs X rest u):PSs X (st::rest) (tSeq t u):=by
 intro pins s σ H D I h;refine wpAny_execs_cons (thn (d pins s σ H { D with nx:=u D } I h) λf b q=>?_)
 cases f with
 |next=>
  obtain⟨a,H',g,q⟩:=q;exact c pins b a H' D g q
 |ret v=>exact q
 |brk=>exact q
 |cont=>exact q
def Inv.quiet(I:Inv X a b H s):interactive X.env=false:=by simp[interactive,I.ok.kind]
def ps_doc{x j pos pos'}:PS X (.Expr (.Constant (.str x) j pos) pos') tNext:=λ_ s σ H _ I h=>wpAny_Expr (Calls.Constant_str (show SP X _ _ .next { s with toks:=s.toks+1 } from⟨σ,H,I.tok _,h⟩)) I.quiet
noncomputable def tDrop(te:TE):TS:=λD σ H=>te σ H λ_ H1=>D.nx σ H1
def qnq(b:PE X e te)(hs:swapsWith e B pos.line X.env=pure Y6):PS X (.Expr e pos) (tDrop te):=by
 intro pins s σ H D I h;exact wpAny_Expr_any (thn (b pins s σ H _ I h) λv d ⟨x,H1,c,r1,a⟩=>⟨σ,H1,c,a⟩) I.quiet hs
noncomputable def tRet(te:TE):TS:=λD σ H=>te σ H D.rt
def ps_ret(b:PE X e te):PS X (.Return (Y e) pos) (tRet te):=by
 intro pins s σ H D I h;exact wpAny_Return_some (thn (b pins s σ H _ I h) λv d ⟨x,H1,c,r1,a⟩=>⟨x,σ,H1,c,r1,a⟩)
noncomputable def tIfS(c:TT)(t u:TS):TS:=λD σ H=>c σ H λb H1=>if b=O then t D σ H1 else u D σ H1
def ps_if(hc:PT X c f)(k:PSs X a t)(hb:PSs X b u):PS X (.If c a b pos) (tIfS f t u):=by
 intro pins s σ H D I h;refine wpAny_If (thn (hc pins s σ H _ I h) λd g ⟨H1,j,i⟩=>?_)
 cases d with
 |true=>exact k pins g σ H1 D j i
 |false=>exact hb pins g σ H1 D j i
end
abbrev TG:=V->St->Hp->(St->Hp->Prop)->Prop
abbrev TGs:=L V->St->Hp->(St->Hp->Prop)->Prop
def PG(X:Cx)(target:Expr)(t:TG):Prop:=
 ∀(pins:L ?qm) (s:Qz) (σ:St) (H:Hp) (v:V) (u:Y8) (Q:St->Hp->Prop),Inv X pins σ H s->RelV v u->t v σ H Q->
  wpAny ?d X.A (assign target X.env u) (λ_ s'=>∃σ' H',Inv X pins σ' H' s'/\Q σ' H') X.xe s
def PGs(X:Cx)(ts:L Expr)(t:TGs):Prop:=
 ∀(pins:L ?qm) (s:Qz) (σ:St) (H:Hp) (vs:L V) (us:L Y8) (Q:St->Hp->Prop),Inv X pins σ H s->Vals vs us->t vs σ H Q->
  wpAny ?d X.A (assignInOrder ((Qt ts X.env).map (·.2)) us) (λ_ s'=>∃σ' H',Inv X pins σ' H' s'/\Q σ' H') X.xe s
section
noncomputable def qye(i:Y0):TG:=λv σ H Q=>Q (σ.set i (Y v)) H
def qdn(c:X.N.Nodup)(b:X.N[i]?=Y x)(a:Loc X.env.scope x)(hf:X.fn x=O\/X.env.scope.names.lookup x=Y .local):PG X (.Name x pos) (qye i):=by
 intro pins s σ H v u Q I r h;exact wpAny_assign_Name (qy0 I c b a r (λs' d=>⟨_,H,d,h⟩) hf)
noncomputable def gNil:TGs:=λvs σ H Q=>vs=[]/\Q σ H
noncomputable def gCons(t:TG)(u:TGs):TGs:=λvs σ H Q=>∃v r,vs=v::r/\t v σ H λσ' H'=>u r σ' H' Q
def qnb:PGs X [] gNil:=by
 intro pins s σ H vs a Q I r h;obtain⟨e,h⟩:=h;subst e;cases r;exact assignInOrder_nil ⟨σ,H,I,h⟩
def qhy(g:PG X e t)(f:PGs X es u)(hs:(Qt (e::es) X.env).map (·.2)=assign e X.env::(Qt es X.env).map (·.2):=by rfl):PGs X (e::es) (gCons t u):=by
 intro pins s σ H vs l Q I r h;obtain⟨v,k,i,h⟩:=h;subst i
 cases r with
 |cons r c=>
  rw[hs];refine assignInOrder_cons (thn (g pins s σ H _ _ _ I r h) λ_ b ⟨a,H1,j,d⟩=>?_);exact f pins b a H1 _ _ Q j c d
noncomputable def gTup(K:Qqq)(n:Y0)(t:TGs):TG:=λv σ H Q=>∃a xs,v=.ref a/\SqT K H a xs/\xs.length=n/\t xs σ H Q
def pg_tup(hc:X.calm=O)(h:PGs X es t)(l:(Qt es X.env).length=n:=by rfl)(hst:(Qt es X.env).findIdx? (·.1)=none:=by rfl):PG X (.Tuple es k pos) (gTup X.K n t):=by
 intro pins s σ H v u Q I r c;obtain⟨a,xs,m,j,hl,c⟩:=c;subst m;cases r;obtain⟨f,d,i,q⟩:=I.tuple j;refine assign_Tuple_tuple (I.ok.hd hc) i (by simp[l,<- hl,d.length]) hst λh' g=>?_;have p:=I.kept (t':=s.toks) λb o e=>g b o (Qq6 (Qqe e)) e;exact h pins _ σ H xs _ Q p (by simpa using d) c
noncomputable def tAsg(te:TE)(g:TG):TS:=λD σ H=>te σ H λx H1=>g x σ H1 D.nx
def ps_asg(i:PE X e a)(f:PG X tg g)(hs:swapsWithSole [tg] e pos.line X.env=pure false:=by rfl)(d:swappedStores [tg] e X.env=pure none:=by rfl)(j:(Qt [tg] X.env).map (·.2)=[assign tg X.env]:=by rfl):PS X (.Assign [tg] e pos) (tAsg a g):=by
 intro pins s σ H D I h;refine wpAny_Assign_stores (thn (i pins s σ H _ I h) λv b ⟨x,H1,k,r1,c⟩=>?_) hs d;rw[j];exact thn (f pins b σ H1 x v _ k r1 c) λ_ l q=>q
def qi8(j:X.N.Nodup)(f:X.N[i]?=Y x)(d:Loc X.env.scope x)(g:PE X e b)(hs:swapsWith e (Y (.Name x a)) pos.line X.env=pure false:=by rfl)(hf:X.fn x=O\/X.env.scope.names.lookup x=Y .local):
  PS X (.Assign [.Name x a] e pos) (tAsg b (qye i)):=by
 intro pins s σ H D I h;refine wpAny_Assign_Name (thn (g pins s σ H _ I h) λv n ⟨y,H1,l,r1,c⟩=>?_) hs;exact qy0 l j f d r1 (λm k=>⟨_,H1,k,c⟩) hf
end
section
end
structure It where
 go:Y0->Hp->Prop
 yld:Y0->Hp->V->Hp->Prop
 stop:Y0->Hp->Prop
def FpOk(X:Cx)(pins:L ?qm)(H:Hp)(b:Y7):Prop:=
 H b=B/\b≠X.env.locals/\b ∉ X.fs/\(b∈X.ex\/X.s₀.heap.objs.size<=b)/\(∀x c,X.env.cells.lookup x=Y c->c≠b)/\∀p∈X.pn++pins,p.1≠b
def Inv.fpOk(I:Inv X a d H s)(hb:s.heap.objs.size<=b)(g:H' b=B):FpOk X a H' b:=by
 refine⟨g,Qxi (Qq7 I.lt hb),I.nofs hb,.inr (Qzh I.sz hb),λx c e z=>?_,λp f z=>?_⟩
 ·obtain⟨v,q⟩:=I.cell x c e;exact absurd (Qq7 q.lt (by rw[z]; exact hb)) (Qxj _)
 ·exact absurd (Qq7 (Qqe (I.pin p f).1) (by rw[z]; exact hb)) (Qxj _)
structure Turn (P:Program) (w:Qj) (K:Qqq) (tg:Expr) (Jq:It) (fp:L Y7) (it:Y7) (tn:Y0->Heap->Prop):Prop where
 mem:it∈fp
 obj:∀i h,tn i h->∀b∈fp,∃o,h.get? b=Y o/\∀v,o.data≠.cell v
 keep:∀i h h',tn i h->(∀b∈fp,∀o,h.get? b=Y o->h'.get? b=Y o)->tn i h'
 item:∀(X:Cx),X.prog=P->X.w=w->X.K=K->X.calm=O->∀(i:Y0) (pins:L (Y7×Obj)) (s:Qz) (σ:St) (H:Hp) (E:Y8->Qz->Prop),Inv X pins σ H s->(∀b∈fp,FpOk X pins H b)->tn i s.heap->Jq.go i H->
  wpAny (model P w) X.A (pyNext (.ref it)) (λr s1=>∃u,r=Y u/\
   wpAny (model P w) X.A (Zn tg (.ref it) u) (λ_ s2=>∃x H',Inv X pins σ H' s2/\RelV x u/\Jq.yld i H x H'/\tn (i+1) s2.heap/\∀b∈fp,H' b=B) E s1) E s
 done:∀(X:Cx),X.prog=P->X.w=w->X.K=K->X.calm=O->∀(i:Y0) (pins:L (Y7×Obj)) (s:Qz) (σ:St) (H:Hp) (E:Y8->Qz->Prop),Inv X pins σ H s->(∀b∈fp,FpOk X pins H b)->tn i s.heap->Jq.stop i H->
  wpAny (model P w) X.A (pyNext (.ref it)) (λr s1=>r=B/\Inv X pins σ H s1) E s
 self:∀(A:Qk) (i:Y0) (s:Qz) (Q:Y8->Qz->Prop) (E:Y8->Qz->Prop),tn i s.heap->Q (.ref it) s->wpAny (model P w) A (pyIter (.ref it)) Q E s
abbrev TI:=St->Hp->(It->Hp->Prop)->Prop
def PIE(X:Cx)(pins:L ?qm)(σ:St)(tg:Expr)(R:It->Hp->Prop)(itv:Y8)(s2:Qz):Prop:=
 ∃(it:Y7) (fp:L Y7) (tn:Y0->Heap->Prop) (Jq:It) (H':Hp),itv=.ref it/\Inv X pins σ H' s2/\Turn X.prog X.w X.K tg Jq fp it tn/\tn 0 s2.heap/\(∀b∈fp,FpOk X pins H' b)/\R Jq H'
def PI(X:Cx)(tg iter:Expr)(wi:TI):Prop:=
 ∀(pins:L ?qm) (s:Qz) (σ:St) (H:Hp) (R:It->Hp->Prop),Inv X pins σ H s->wi σ H R->
  wpAny ?d X.A (Qa iter X.env) (λv s1=>wpAny ?d X.A (pyIter v) (PIE X pins σ tg R) X.xe s1) X.xe s
def qe2(b:s.heap.get? it=Y o)(hc:o.cls=.type n)(hd:o.data=.fields vs)(c:["enumerate","zip","dict_itemiterator","dict_reverseitemiterator","odict_iterator","itertools.zip_longest","itertools.pairwise"].contains n=Y6)(a:Q () s):wpAny M A (Zn tg (.ref it) u) Q E s:=by
 unfold Zn
 cases tg<;>first
  |exact Qx a
  |(cases u<;>first
    |exact Qx a
    |(refine Qq (wpAny_load b ?_)
      rw[hc,hd];show wpAny M A (if (["enumerate","zip","dict_itemiterator","dict_reverseitemiterator","odict_iterator","itertools.zip_longest","itertools.pairwise"].contains n&&vs[0]?==Y (rawInt _))=O then _ else _) Q E s;rw[Z5 (by intro h; rw[c,Bool.false_and]at h; cases h)]
      exact Qx a))
noncomputable def Itl(K:Qqq)(a:Y7):It:=
 ⟨λi H=>∃xs x,SqL K H a xs/\xs[i]?=Y x,λi H x H'=>H'=H/\∀xs,SqL K H a xs->xs[i]?=Y x,λi H=>∃xs,SqL K H a xs/\xs.length<=i⟩
noncomputable def Itt(K:Qqq)(a:Y7):It:=
 ⟨λi H=>∃xs x,SqT K H a xs/\xs[i]?=Y x,λi H x H'=>H'=H/\∀xs,SqT K H a xs->xs[i]?=Y x,λi H=>∃xs,SqT K H a xs/\xs.length<=i⟩
noncomputable def Itr(lo:J)(n:Y0):It:=⟨λi _=>i<n,λi H x H'=>H'=H/\x=.int (lo+i),λi _=>n<=i⟩
def qcb{K:Qqq}(a it):Turn P w K tg (Itl K a) [it] it (λi h=>h.IsListIter it a i) where
 mem:=by simp
 obj:=λi h st b hb=>by
  have e:b=it:=by simpa using hb
  subst e;obtain⟨o,e,c,d⟩:=st;exact⟨o,e,λv z=>by rw[d]at z; cases z⟩
 keep:=λi h h' st k=>st.at λo e=>k it (by simp) o e
 item:=by
  intro X q m r hc i pins s σ H E I hf st n;subst q m r;obtain⟨xs,x,f,l⟩:=n;obtain⟨j,g,p,N⟩:=I.list f;obtain⟨u,R,G⟩:=g.get l;obtain⟨D,C,S,A,y,t⟩:=hf it (by simp);refine wpAny_pyNext_list_item st p.isList (x:=u) (by simpa using R) λh' st' F=>?_;have U:=I.turned (t':=s.toks) (λb o hb e=>(F.2 b hb).trans e) D C A y t;obtain⟨o,e,c,d⟩:=id st';exact⟨u,rfl,qe2 e c d (by decide) ⟨x,H,U,G,⟨rfl,λys Q=>by rw[I.list_inj Q f]; exact l⟩,st',λb hb=>(hf b hb).1⟩⟩
 done:=by
  intro X q m r hc i pins s σ H E I hf st n;subst q m r;obtain⟨xs,f,l⟩:=n;obtain⟨j,g,p,N⟩:=I.list f;obtain⟨D,C,S,A,y,t⟩:=hf it (by simp);have hl:=g.length;exact wpAny_pyNext_list_end (I.ok.hd hc) st p.isList (by simp; omega) λh' T=>⟨rfl,I.turned (λb o hb e=>T b o hb e) D C A y t⟩
 self:=λ_ _ _ _ _ st h=>wpAny_pyIter_listiter st h
def qbk{K:Qqq}(a it):Turn P w K tg (Itt K a) [it] it (λi h=>h.IsTupleIter it a i) where
 mem:=by simp
 obj:=λi h st b hb=>by
  have e:b=it:=by simpa using hb
  subst e;obtain⟨o,e,c,d⟩:=st;exact⟨o,e,λv z=>by rw[d]at z; cases z⟩
 keep:=λi h h' st k=>st.at λo e=>k it (by simp) o e
 item:=by
  intro X q m r hc i pins s σ H E I hf st n;subst q m r;obtain⟨xs,x,g,l⟩:=n;obtain⟨f,j,p,N⟩:=I.tuple g;obtain⟨u,R,G⟩:=j.get l;obtain⟨D,C,S,A,y,t⟩:=hf it (by simp);refine wpAny_pyNext_tuple_item st (p) (x:=u) (by simpa using R) λh' st' F=>?_;have U:=I.turned (t':=s.toks) (λb o hb e=>(F.2 b hb).trans e) D C A y t;obtain⟨o,e,c,d⟩:=id st';exact⟨u,rfl,qe2 (s:={ s with heap:=h' }) e c d (by decide) ⟨x,H,U,G,⟨rfl,λys Q=>by rw[I.tuple_inj Q g]; exact l⟩,st',λb hb=>(hf b hb).1⟩⟩
 done:=by
  intro X q m r hc i pins s σ H E I hf st n;subst q m r;obtain⟨xs,g,l⟩:=n;obtain⟨f,j,p,N⟩:=I.tuple g;obtain⟨D,C,S,A,y,t⟩:=hf it (by simp);have hl:=j.length;exact wpAny_pyNext_tuple_end (I.ok.hd hc) st (p) (by simp; omega) λh' T=>⟨rfl,I.turned (λb o hb e=>T b o hb e) D C A y t⟩
 self:=λ_ _ _ _ _ st h=>wpAny_pyIter_tupleiter st h
def qbv{K:Qqq}(it)(a)(n):Turn P w K tg (Itr a n) [it] it (λi h=>IsRangeIter h it (a+(i:Y0)*1) ((n:J) - (i:Y0)) 1) where
 mem:=by simp
 obj:=λi h st b hb=>by
  have e:b=it:=by simpa using hb
  subst e
  exact⟨_,st,λv z=>by
   have r:=z
   cases r⟩
 keep:=λi h h' st k=>k it (by simp) _ st
 item:=by
  intro X f c g hc i pins s σ H E I hf st d;subst f c g;obtain⟨q,p,x,m,l,j⟩:=hf it (by simp);have W:=Walks.range (prog:=X.prog) (w:=X.w) (I.ok.hd hc) it a 1 n;refine W.item i s _ _ d st λv h' tk hv st' u=>?_;obtain⟨t,rfl⟩:=hv;have A:Inv X pins σ H { s with heap:=h',toks:=tk }:=I.turned (λb o hb e=>u b o (by simpa using hb) e) q p m l j;refine⟨_,rfl,qe2 st' rfl rfl (by decide) ⟨.int (a+i),H,A,⟨t,?_⟩,⟨rfl,rfl⟩,st',λb hb=>(hf b hb).1⟩⟩;rw[Int.mul_one]
 done:=by
  intro X f c g hc i pins s σ H E I hf st d;subst f c g;obtain⟨q,p,x,m,l,j⟩:=hf it (by simp);exact wpAny_pyNext_range_end (I.ok.hd hc) st (by have:n<=i:=d; omega) λh' y=>⟨rfl,I.turned (λb o hb e=>y b o hb e) q p m l j⟩
 self:=λ_ _ _ _ _ st h=>wpAny_pyIter_rangeiter st h
section
def qy9{lo:J}(I:Inv X c d H s)(k:-(2 ^ 62)<=lo)(j:lo<2 ^ 62)(i:-(2 ^ 62)<=a)(h:a<2 ^ 62)(q:R (Itr lo (a - lo).toNat) H):wpAny ?d X.A (pyIter ?qd) (PIE X c d tg R) E { s with heap:=s.heap.push { cls:=.type "range",data:=.fields #[.int lo t,.int a u,.int 1 v] },toks:=f }:=by
 refine wpAny_pyIter_range (IsRange.new ..) (small_one k j i h) ?_;have g:Inv X c d H { s with heap:=s.heap.push { cls:=.type "range",data:=.fields #[.int lo t,.int a u,.int 1 v] },toks:=f }:=I.kept λb o e=>Qqx _ e
 refine⟨(s.heap.push { cls:=.type "range",data:=.fields #[.int lo t,.int a u,.int 1 v] }).objs.size,[(s.heap.push { cls:=.type "range",data:=.fields #[.int lo t,.int a u,.int 1 v] }).objs.size],_,_,H,rfl,
  g.kept λb o e=>Qqx _ e,qbv _ lo (a - lo).toNat,?_,λb hb=>?_,q⟩
 ·have m:lo+((0:Y0):J)*1=lo:=by simp
  have l:(((a - lo).toNat:Y0):J) - ((0:Y0):J)=Builtin.Range.rangeSize lo a 1:=by rw[rangeSize_one]; split<;>omega
  rw[m,l];exact Qqf _ rfl
 ·have e:b=(s.heap.push { cls:=.type "range",data:=.fields #[.int lo t,.int a u,.int 1 v] }).objs.size:=by simpa using hb
  subst e;exact g.fpOk (Qqv _) (g.hok.fresh (Qqv _))
noncomputable def iRng1(ta:TA):TI:=λσ H R=>ta σ H λvs H1=>∃j:J,vs=[.int j]/\-(2 ^ 62)<=j/\j<2 ^ 62/\R (Itr 0 j.toNat) H1
noncomputable def iRng2(ta:TA):TI:=λσ H R=>ta σ H λvs H1=>∃i j:J,vs=[.int i,.int j]/\(-(2 ^ 62)<=i/\i<2 ^ 62/\-(2 ^ 62)<=j/\j<2 ^ 62)/\R (Itr i (j - i).toNat) H1
def qdm(i:Gl X "range")(g:X.mg "range" = B)(k:PA X [a] c)(hs:starEach [a] X.env=[(Y6,Qa a X.env)]:=by rfl):PI X tg (.Call (.Name "range" p) [a] [] pos) (iRng1 c):=by
 intro pins s σ H R I h;refine Call_ (qx3 I i g boot_range (PyProof.Rows.callWith_type1 (thn (k pos pins s σ H _ I h) λm n ⟨vs,H1,l,r1,b⟩=>?_) hs rfl));obtain⟨j,e,b,f,q⟩:=b;subst e
 cases r1 with
 |cons r d=>
  cases d;obtain⟨t,rfl⟩:=r;exact call_range_1 (qy9 l (by omega) (by omega) b f (by simpa using q))
def qdl(o:Gl X "range")(n:X.mg "range" = B)(u:PA X [a,b] g)(hs:starEach [a,b] X.env=[(Y6,Qa a X.env),(Y6,Qa b X.env)]:=by rfl)(c:starEach [b] X.env=[(Y6,Qa b X.env)]:=by rfl):
  PI X tg (.Call (.Name "range" p) [a,b] [] pos) (iRng2 g):=by
 intro pins s σ H R I h;refine Call_ (qx3 I o n boot_range (PyProof.Rows.callWith_type1 (thn (u pos pins s σ H _ I h) λw y ⟨vs,H1,v,r1,f⟩=>?_) (by rw[hs,c]) (by rw[c]; rfl)));obtain⟨i,j,e,⟨f,m,l,k⟩,q⟩:=f;subst e
 cases r1 with
 |cons r d=>
  cases d with
  |cons r' d=>
   cases d;obtain⟨t,rfl⟩:=r;obtain⟨x,rfl⟩:=r';exact call_range_2 (qy9 v f m l k q)
noncomputable def tFor(wi:TI)(g:TG)(tb:TS):TS:=λD σ H=>wi σ H λJq H1=>∃W:Y0->Y0->St->Hp->Prop,(∃m,W 0 m σ H1)/\∀i m σ H,W i m σ H->
 (Jq.stop i H/\D.nx σ H)\/(Jq.go i H/\∃N:St->Hp->Prop,(∀σ' H',N σ' H'->∃m',m'<m/\W (i+1) m' σ' H')/\∀x H',Jq.yld i H x H'->g x σ H' λσ2 H2=>tb { D with nx:=N,ct:=N,bk:=D.nx } σ2 H2)
noncomputable def qv0(fp:L Y7)(h:Heap):L ?qm:=fp.filterMap λb=>(h.get? b).map λo=>(b,o)
def qqt(hb:b∈fp)(e:h.get? b=Y o):(b,o)∈qv0 fp h:=Qxt.mpr ⟨b,hb,by rw[e]; rfl⟩
def qd5(a:p∈qv0 fp h):p.1∈fp/\h.get? p.1=Y p.2:=by
 obtain⟨b,hb,e⟩:=Qxt.mp a
 cases q:h.get? b with
 |none=>rw[q]at e; cases e
 |some o=>
  rw[q]at e;have c:=Option.some.inj e;subst c;exact⟨hb,q⟩
def Inv.pinned(I:Inv X a c H s)(hf:∀b∈fp,FpOk X a H b)(h:∀b∈fp,∃o,s.heap.get? b=Y o/\∀v,o.data≠.cell v):Inv X (a++qv0 fp s.heap) c H s:=
 I.pins_of λp g=>(Qqr.mp g).elim (λz=>I.pin p (Qqn _ z)) λz=>by
  obtain⟨hb,e⟩:=qd5 z;obtain⟨k,j,i,_⟩:=hf p.1 hb;obtain⟨o,f,d⟩:=h p.1 hb;rw[e]at f; cases f;exact⟨e,k,j,i,d⟩
def Inv.unpinned(I:Inv X (a++pl) b H s):Inv X a b H s:=I.pins_of λp c=>I.pin p (Qqn _ (Qzb _ c))
def qi9(E:PassesOwn ?d X.A X.env X.xe)(hc:X.calm=O)(hi:PI X tg l U)(hg:PG X tg g)(hb:PSs X body tb)(hs:∀x,foldedSetIterable l X.env x=pure x):PS X (.For tg l body [] pos) (tFor U g tb):=by
 intro pins s σ H D I h;refine wpAny_For (thn (hi pins s σ H _ I h) λv s1 h1=>thn h1 λa0 s2 h2=>?_) hs;obtain⟨it,fp,V,Jq,H2,e,I2,T,P,f2,W,⟨m0,w0⟩,z⟩:=h2;subst e;have k:∀{H':Hp},(∀b∈fp,H' b=B)->∀b∈fp,FpOk X pins H' b:=λhn b hb=>⟨hn b hb,(f2 b hb).2⟩
 refine codeAny_forLoop_any (λn s'=>∃i j H',Inv X pins j H' s'/\V i s'.heap/\(∀b∈fp,H' b=B)/\W i n j H') ?_ m0 ⟨0,σ,H2,I2,P,λb hb=>(f2 b hb).1,w0⟩;rintro n s3 ⟨i,c,G,I3,A,F,w3⟩;rcases z i n c G w3 with⟨stop,qn⟩|⟨go,N,hN,step⟩
 ·refine Zv E (thn (T.done X rfl rfl rfl hc i pins s3 c G X.xe I3 (k F) A stop) λr s4 ⟨hr,I4⟩=>?_);subst hr;exact wpAny_execs_nil ⟨c,G,I4,qn⟩
 ·refine Zv E (thn (T.item X rfl rfl rfl hc i pins s3 c G X.xe I3 (k F) A go) λr s4 ⟨u,hr,h4⟩=>?_);subst hr;refine Zv E (thn h4 λ_ s5 ⟨x,H5,I5,r5,y5,y,R⟩=>?_);have S:=I5.pinned (k R) (T.obj _ _ y);refine Zv E (thn (hg _ s5 c H5 x u _ S r5 (step x H5 y5)) λ_ s6 ⟨K,H6,I6,q6⟩=>?_);refine Zv E (thn (hb _ s6 K H6 _ I6 q6) λf Q w=>?_);have p:∀{a:St}{t:Hp},Inv X (pins++qv0 fp s5.heap) a t Q->N a t->∃m,m<n/\∃i j H',Inv X pins j H' Q/\V i Q.heap/\(∀b∈fp,H' b=B)/\W i m j H':=λ{a t} q C=>by
   obtain⟨m',hm,w7⟩:=hN a t C;refine⟨m',hm,i+1,a,t,q.unpinned,T.keep _ _ _ y λb hb o e=>(q.pin (b,o) (Qqn _ (Qqn _ (qqt hb e)))).1,λb hb=>?_,w7⟩;obtain⟨o,e,d⟩:=T.obj _ _ y b hb;exact(q.pin (b,o) (Qqn _ (Qqn _ (qqt hb e)))).2.1
  cases f with
  |next=>obtain⟨a,t,q,C⟩:=w; exact p q C
  |cont=>obtain⟨a,t,q,C⟩:=w; exact p q C
  |brk=>obtain⟨a,t,q,w⟩:=w; exact⟨a,t,q.unpinned,w⟩
  |ret v=>obtain⟨x7,a,t,q,r7,w⟩:=w; exact⟨x7,a,t,q.unpinned,r7,w⟩
end
abbrev R2:=V->V->Hp->VK->Prop
def OpR(X:Cx)(f:Y8->Y8->Sem Y8)(r:R2):Prop:=
 ∀(pins:L ?qm) (s:Qz) (σ:St) (H:Hp) (x y:V) (v u:Y8) (Q:VK),Inv X pins σ H s->RelV x v->RelV y u->r x y H Q->
  wpAny ?d X.A (f v u) (EP X pins σ Q) X.xe s
def UnR(X:Cx)(f:Y8->Sem Y8)(r:V->Hp->VK->Prop):Prop:=
 ∀(pins:L ?qm) (s:Qz) (σ:St) (H:Hp) (x:V) (v:Y8) (Q:VK),Inv X pins σ H s->RelV x v->r x H Q->
  wpAny ?d X.A (f v) (EP X pins σ Q) X.xe s
def qqb(X:Cx)(f:Y8)(r:L V->Hp->VK->Prop):Prop:=
 ∀(pins:L ?qm) (s:Qz) (σ:St) (H:Hp) (xs:L V) (us:L Y8) (Q:VK),Inv X pins σ H s->Vals xs us->r xs H Q->
  wpAny ?d X.A (call f us) (EP X pins σ Q) X.xe s
def TruR(X:Cx)(r:V->Hp->(Yb->Hp->Prop)->Prop):Prop:=
 ∀(pins:L ?qm) (s:Qz) (σ:St) (H:Hp) (x:V) (v:Y8) (Q:Yb->Hp->Prop),Inv X pins σ H s->RelV x v->r x H Q->
  wpAny ?d X.A (truthy v) (TP X pins σ Q) X.xe s
noncomputable def tOp(r:R2)(ta tb:TE):TE:=λσ H Q=>ta σ H λx H1=>tb σ H1 λy H2=>r x y H2 Q
noncomputable def tUn(r:V->Hp->VK->Prop)(ta:TE):TE:=λσ H Q=>ta σ H λx H1=>r x H1 Q
noncomputable def rI(C:J->J->Prop)(g:J->J->V):R2:=λx y H Q=>∃i j,x=.int i/\y=.int j/\C i j/\Q (g i j) H
noncomputable def rI0(g:J->J->V):R2:=λx y H Q=>∃i j,x=.int i/\y=.int j/\Q (g i j) H
def rU(g:J->V):V->Hp->VK->Prop:=λx H Q=>∃i,x=.int i/\Q (g i) H
section
def binT(n:PE X a ta)(hb:PE X b tb){R:V->V->Hp->Prop}(I:Inv X d e H s)(h:ta e H λx H1=>tb e H1 λy H2=>R x y H2){f:Y8->Y8->Sem Y8}(hf:∀v u j x y H2,Inv X d e H2 j->RelV x v->RelV y u->R x y H2->wpAny ?d X.A (f v u) Q X.xe j):
  wpAny ?d X.A (Qa a X.env) (λv i=>wpAny ?d X.A (Qa b X.env) (λu g=>wpAny ?d X.A (f v u) Q X.xe g) X.xe i) X.xe s:=by
 refine thn (n d s e H _ I h) λv k ⟨x,H1,p,r1,m⟩=>?_;refine thn (hb d k e H1 _ p m) λu j ⟨y,H2,o,r2,l⟩=>?_;exact hf v u j x y H2 o r1 r2 l
def pe_op(i:OpR X (Q2 d) r)(j:PE X a ta)(hb:PE X b tb):PE X (.BinOp a d b pos) (tOp r ta tb):=by
 intro pins s σ H Q I h;exact wpAny_BinOp (binT j hb I h λv u e x y H2 k g f q=>i pins e σ H2 x y v u Q k g f q)
def pe_un(g:UnR X (unaryOp d) r)(i:PE X a ta):PE X (.UnaryOp d a pos) (tUn r ta):=by
 intro pins s σ H Q I h;exact UnaryOp_ (thn (i pins s σ H _ I h) λv e ⟨x,H1,j,r1,f⟩=>g pins e σ H1 x v Q j r1 f)
def opI{g:J->J->J}(d:∀(i j:J) (t u:Tok) (s:Qz) (Q:Y8->Qz->Prop) (E:Y8->Qz->Prop),C i j->Q (.int (g i j) s.toks) { s with toks:=s.toks+1 }->wpAny ?d X.A (f (.int i t) (.int j u)) Q E s):
  OpR X f (rI C λi j=>.int (g i j)):=by
 intro pins s σ H x y v u Q I l k h;obtain⟨i,j,rfl,rfl,hc,q⟩:=h;obtain⟨t,rfl⟩:=l;obtain⟨e,rfl⟩:=k;exact d i j t e s _ _ hc ⟨.int (g i j),H,I.tok _,⟨_,rfl⟩,q⟩
def opI0{g:J->J->J}(d:∀(i j:J) (t u:Tok) (s:Qz) (Q:Y8->Qz->Prop) (E:Y8->Qz->Prop),Q (.int (g i j) s.toks) { s with toks:=s.toks+1 }->wpAny ?d X.A (f (.int i t) (.int j u)) Q E s):
  OpR X f (rI0 λi j=>.int (g i j)):=by
 intro pins s σ H x y v u Q I l k h;obtain⟨i,j,rfl,rfl,q⟩:=h;obtain⟨t,rfl⟩:=l;obtain⟨e,rfl⟩:=k;exact d i j t e s _ _ ⟨.int (g i j),H,I.tok _,⟨_,rfl⟩,q⟩
def opB0{g:J->J->Yb}(d:∀(i j:J) (t u:Tok) (s:Qz) (Q:Y8->Qz->Prop) (E:Y8->Qz->Prop),Q (.bool (g i j)) s->wpAny ?d X.A (f (.int i t) (.int j u)) Q E s):
  OpR X f (rI0 λi j=>.bl (g i j)):=by
 intro pins s σ H x y v u Q I l k h;obtain⟨i,j,rfl,rfl,q⟩:=h;obtain⟨t,rfl⟩:=l;obtain⟨e,rfl⟩:=k;exact d i j t e s _ _ ⟨.bl (g i j),H,I,rfl,q⟩
def CPow(i j:J):Prop:=0<=j/\j<=1000000/\i.natAbs<2 ^ 64
def CMul(i j:J):Prop:=(-(2 ^ 64)<i/\i<2 ^ 64)\/(-(2 ^ 64)<j/\j<2 ^ 64)
def CMul.ok(h:CMul i j):IntMulOk i j:=by
 rcases h with⟨h1,h2⟩|⟨h1,h2⟩
 ·exact .of_left (intBits_le_64 h1 h2)
 ·exact .of_right (intBits_le_64 h1 h2)
def op_add:OpR X (Q2 .Add) (rI0 λi j=>.int (i+j)):=opI0 λ_ _ _ _ _ _ _ q=>add_int q
def op_sub:OpR X (Q2 .Sub) (rI0 λi j=>.int (i - j)):=opI0 λ_ _ _ _ _ _ _ q=>sub_int q
def op_mul:OpR X (Q2 .Mult) (rI CMul λi j=>.int (i*j)):=opI λ_ _ _ _ _ _ _ hc q=>mul_int q hc.ok
def op_mod:OpR X (Q2 .Mod) (rI (λ_ j=>0<j) λi j=>.int (i % j)):=opI λi j _ _ _ _ _ hc q=>by
 have h1:=hc;exact mod_int' (by omega) (by rw[Int.fmod_eq_emod_of_nonneg i (by omega)]; exact q)
def op_pow:OpR X (Q2 .Pow) (rI CPow λi j=>.int (i ^ j.toNat)):=opI λ_ _ _ _ _ _ _ hc q=>pow_int_small hc.1 hc.2.1 hc.2.2 q
def unI{g:J->J}(d:∀(i:J) (t:Tok) (s:Qz) (Q:Y8->Qz->Prop) (E:Y8->Qz->Prop),Q (.int (g i) s.toks) { s with toks:=s.toks+1 }->wpAny ?d X.A (f (.int i t)) Q E s):
  UnR X f (rU λi=>.int (g i)):=by
 intro pins s σ H x v Q I e h;obtain⟨i,rfl,q⟩:=h;obtain⟨t,rfl⟩:=e;exact d i t s _ _ ⟨.int (g i),H,I.tok _,⟨_,rfl⟩,q⟩
def un_neg:UnR X (unaryOp .USub) (rU λi=>.int (-i)):=unI λ_ _ _ _ _ q=>neg_int q
end
section
def qlt(I:Inv X d f H s)(q:Q (.bl k) H)(e:k=g):EP X d f Q (.bool g) s:=by
 subst e;exact⟨.bl k,H,I,rfl,q⟩
def op_lt:OpR X (Qg .Lt) (rI0 λi j=>.bl (decide (i<j))):=opB0 λ_ _ _ _ _ _ _ q=>lt_int q
def op_le:OpR X (Qg .LtE) (rI0 λi j=>.bl (decide (i<=j))):=opB0 λ_ _ _ _ _ _ _ q=>le_int q
def op_gt:OpR X (Qg .Gt) (rI0 λi j=>.bl (decide (j<i))):=opB0 λ_ _ _ _ _ _ _ q=>gt_int q
def op_ge:OpR X (Qg .GtE) (rI0 λi j=>.bl (decide (j<=i))):=opB0 λ_ _ _ _ _ _ _ q=>ge_int q
def op_isN:OpR X (Qg .Is) (λx y H Q=>y=.non/\Q (.bl (decide (x=.non))) H):=by
 intro pins s σ H x y v u Q I d e h;obtain⟨rfl,q⟩:=h;cases e;refine is_none_gen (qlt I q ?_)
 cases x<;>first
  |(cases d; rfl)
  |(obtain⟨t,rfl⟩:=d; rfl)
def qnt:OpR X (Qg .IsNot) (λx y H Q=>y=.non/\Q (.bl (!decide (x=.non))) H):=by
 intro pins s σ H x y v u Q I d e h;obtain⟨rfl,q⟩:=h;cases e;refine isnot_none_gen (qlt I q ?_)
 cases x<;>first
  |(cases d; rfl)
  |(obtain⟨t,rfl⟩:=d; rfl)
def qnl(i:OpR X (Qg d) r)(k:PE X a ta)(hb:PE X b tb)(j:Zg d b=Y6):PE X (.Compare a [d] [b] pos) (tOp r ta tb):=by
 intro pins s σ H Q I h;exact wpAny_Compare1 (binT k hb I h λv u e x y H2 l g f q=>i pins e σ H2 x y v u Q l g f q) j
noncomputable def tTest(t:TE):TT:=λσ H Q=>t σ H λx H'=>∃k,x=.bl k/\Q k H'
def qm9(n:OpR X (Qg d) r)(p:PE X a ta)(hb:PE X b tb)(o:Zg d b=Y6):PT X (.Compare a [d] [b] pos) (tTest (tOp r ta tb)):=by
 intro pins s σ H Q I h
 refine wpAny_isTrue_Compare1 (thn (p pins s σ H _ I h) λv g ⟨x,H1,w,r1,m⟩=>thn (hb pins g σ H1 _ w m) λu f ⟨y,H2,t,r2,l⟩=>
  thn (n pins f σ H2 x y v u _ t r1 r2 l) λc C ⟨z,A,q,i,k,e,j⟩=>?_) o
 subst e;cases i;exact Qe ⟨A,q,j⟩
noncomputable def qi1(r r':R2)(ta tb tc:TE):TE:=λσ H Q=>ta σ H λx H1=>tb σ H1 λy H2=>r x y H2 λz H3=>∃k,z=.bl k/\
 (if k=O then tc σ H3 λw' H4=>r' y w' H4 Q else Q (.bl Y6) H3)
def qhi(K:OpR X (Qg g) r)(i:OpR X (Qg f) j)(P:PE X a ta)(hb:PE X b tb)(hc:PE X c tc)(N:lastMarks [g,f] [b,c]=Y6):PE X (.Compare a [g,f] [b,c] pos) (qi1 r j ta tb tc):=by
 intro pins s σ H Q I h
 refine Compare_chain (thn (P pins s σ H _ I h) λv A ⟨x,H1,T,r1,G⟩=>chain_link (thn (hb pins A σ H1 _ T G) λu w ⟨y,H2,S,r2,F⟩=>
  thn (K pins w σ H2 x y v u _ S r1 r2 F) λd t ⟨z,n,m,D,k,e,l⟩=>?_)) N
 subst e;cases D;refine Qe ?_
 cases k with
 |false=>exact ite_ff ⟨.bl Y6,n,m,rfl,l⟩
 |true=>exact ite_tt (chain_last (thn (hc pins t σ n _ m l) λp q ⟨o,U,R,C,E⟩=>i pins q σ U y o u p Q R r2 C E))
def qhq(R:OpR X (Qg g) r)(i:OpR X (Qg f) j)(T:PE X a ta)(hb:PE X b tb)(hc:PE X c tc)(S:lastMarks [g,f] [b,c]=Y6):PT X (.Compare a [g,f] [b,c] pos) (tTest (qi1 r j ta tb tc)):=by
 intro pins s σ H Q I h
 refine isTrue_chain (thn (T pins s σ H _ I h) λv A ⟨x,H1,I1,r1,N⟩=>test_link (thn (hb pins A σ H1 _ I1 N) λu w ⟨y,H2,I2,r2,K⟩=>
  thn (R pins w σ H2 x y v u _ I2 r1 r2 K) λd t ⟨z,n,m,E,k,e,l⟩=>?_)) S
 subst e;cases E;refine Qe ?_
 cases k with
 |false=>
  obtain⟨k',V,P⟩:=l;cases V;exact ite_ff ⟨n,m,P⟩
 |true=>
  refine ite_tt (test_last (thn (hc pins t σ n _ m l) λp q ⟨o,H4,I4,D,G⟩=>thn (i pins q σ H4 y o u p _ I4 r2 D G) λd' s5 ⟨z2,H5,W,C,k2,U,F⟩=>?_));subst U;cases C;exact Qe ⟨H5,W,F⟩
def TruV(K:Qqq)(x:V)(H:Hp)(k:Yb):Prop:=
 match x with
 |.non=>k=Y6
 |.bl b=>k=b
 |.int i=>k=(i != 0)
 |.str y=>y.length<=sizeLine/\k=((y.length:J) != 0)
 |.byt y=>y.size<=sizeLine/\k=((y.size:J) != 0)
 |.ref p=>(∃xs,SqL K H p xs/\k = !xs.isEmpty)\/(∃xs,SqT K H p xs/\k = !xs.isEmpty)\/∃kvs,H p=Y (.dK kvs)/\k = !kvs.isEmpty
 |_=>False
def qb0{kvs:L (d×V)}{vs:L (d×Y8)}(r:KV kvs vs):(!vs.isEmpty) = !kvs.isEmpty:=by
 cases r<;>rfl
def qko(r:Vals xs d):(!d.toArray.isEmpty) = !xs.isEmpty:=by
 cases r<;>simp
def qaf:(sizeLine:Y0)<2 ^ 63:=by rw[Q0]; decide
def tru_ok:TruR X (λx H Q=>∃k,TruV X.K x H k/\Q k H):=by
 intro pins s σ H x v Q I g h;obtain⟨k,e,q⟩:=h;have hl:=qaf;have hs:=Q0
 cases x with
 |non=>
  cases g;have d:=e;subst d;exact truthy_none ⟨H,I,q⟩
 |bl b=>
  cases g;have d:=e;subst d;exact Qe ⟨H,I,q⟩
 |int i=>
  obtain⟨t,rfl⟩:=g;have d:=e;subst d;exact PySem.P.truthy_int ⟨H,I,q⟩
 |str y=>
  obtain⟨t,rfl⟩:=g;obtain⟨o,d⟩:y.length<=sizeLine/\k=((y.length:J) != 0):=e;subst d;exact PySem.P.truthy_str (by omega) ⟨H,I.tok _,q⟩
 |byt y=>
  obtain⟨t,rfl⟩:=g;obtain⟨o,d⟩:y.size<=sizeLine/\k=((y.size:J) != 0):=e;subst d;exact PySem.W.truthy_bytes (by omega) ⟨H,I.tok _,q⟩
 |ref p=>
  cases g;have d:=e;rcases d with⟨xs,j,d⟩|⟨xs,j,d⟩|⟨kvs,j,d⟩
  ·subst d;obtain⟨l,r,pl,n⟩:=I.list j;have f:=r.length;exact wpAny_truthy_list pl.isList (by simp only[Qqc]; omega) ⟨H,I.tok _,by rw[qko r]; exact q⟩
  ·subst d;obtain⟨l,r,pl,n⟩:=I.tuple j;have f:=r.length;exact truthy_tuple pl (by simp only[Qqc]; omega) ⟨H,I.tok _,by rw[qko r]; exact q⟩
  ·subst d;obtain⟨n,hS,vs,r,m⟩:kvs.length<=sizeLine/\(p==Qn)=Y6/\∃vs,KV kvs vs/\s.heap.DictOf (mixKind X.prog X.w) p vs:=I.hok p _ j;have f:=Paired.length r;exact wpAny_truthy_dict hS m (by omega) ⟨H,I.tok _,by rw[qb0 r]; exact q⟩
 |_=>exact(e).elim
def qhz(i:PE X a ta)(g:∀d,isTrue a X.env d=(do let v <- d; standAt a.pos; holding [v] (truthy v))):
  PT X a (λσ H Q=>ta σ H λx H'=>∃k,TruV X.K x H' k/\Q k H'):=by
 intro pins s σ H Q I h;exact isTrue_plain (thn (i pins s σ H _ I h) λv e ⟨x,H1,j,r1,f⟩=>tru_ok pins e σ H1 x v Q j r1 f) (g _)
def vals1(r:Vals [x] us):∃u,us=[u]/\RelV x u:=by
 cases r with
 |cons r1 r2=>cases r2; exact⟨_,rfl,r1⟩
def vals2(r:Vals [x,y] us):∃u w',us=[u,w']/\RelV x u/\RelV y w':=by
 cases r with
 |cons r1 r2=>
  cases r2 with
  |cons e d=>cases d; exact⟨_,_,rfl,r1,e⟩
def qfs(hc:X.calm=O):qqb X (.builtin "max") (λxs H Q=>∃i j,xs=[.int i,.int j]/\Q (.int (if j > i then j else i)) H):=by
 intro pins s σ H xs e Q I r h;obtain⟨i,j,rfl,q⟩:=h;obtain⟨u,d,rfl,⟨t,rfl⟩,⟨f,rfl⟩⟩:=vals2 r;refine max_two_ints (I.ok.hd hc) λh' tk k=>⟨_,H,I.kept k,?_,q⟩
 by_cases hj:j > i
 ·rw[Z6 hj,Z6 hj]; exact⟨_,rfl⟩
 ·rw[Z5 hj,Z5 hj]; exact⟨_,rfl⟩
def qfp(hc:X.calm=O):qqb X (.builtin "min") (λxs H Q=>∃i j,xs=[.int i,.int j]/\Q (.int (if j<i then j else i)) H):=by
 intro pins s σ H xs e Q I r h;obtain⟨i,j,rfl,q⟩:=h;obtain⟨u,d,rfl,⟨t,rfl⟩,⟨f,rfl⟩⟩:=vals2 r;refine min_two_ints (I.ok.hd hc) λh' tk k=>⟨_,H,I.kept k,?_,q⟩
 by_cases hj:j<i
 ·rw[Z6 hj,Z6 hj]; exact⟨_,rfl⟩
 ·rw[Z5 hj,Z5 hj]; exact⟨_,rfl⟩
end
structure ObjM (h:Heap) (x dx C:Y7) (mA:Y5->Y3 Y8):Prop where
 obj:h.get? x=Y (PySem.W.instObj C dx)
 ns:h.Ns1 dx mA
 ne:dx≠x
def qew{h:Heap}(n:h.Ns1 f d):∃c,h.get? f=Y c/\∀name,PySem.W.lookIn name c=Y (d name):=by
 obtain⟨o,es,l,i,hd,hk,_,j⟩:=n;refine⟨o,i,λname=>?_⟩;have e:=j name;unfold nsFind findBy at e;rw[<- Array.find?_toList]at e;unfold PySem.W.lookIn;rw[hd];dsimp only
 split
 ·rename_i y q;rw[q]at e;exact congrArg Y e
 ·rename_i q;rw[q]at e;have a:es.toList.any (·.refKey)=false:=by
   rw[Qj7];intro y g;obtain⟨z,t,b⟩:=hk y (Array.mem_toList_iff.mp g);simp[DictEntry.refKey,b]
  have k:¬ es.toList.any (·.refKey)=true:=by rw[a]; exact Qq8
  rw[Z5 k];exact congrArg Y e
def ObjM.look(I:ObjM h x c C b):∃a,PySem.W.InstAt h x (PySem.W.instObj C c) C (Y a)/\∀name,PySem.W.lookIn name a=Y (b name):=
 let ⟨a,d,hl⟩:=qew I.ns
 ⟨a,⟨I.obj,rfl,rfl,d⟩,hl⟩
section
variable {prog:Program}{w:Qj}{A:Qk}{E:Y8->Qz->Prop}{s:Qz}{K:Qqq}{x dx C f:Y7}{mA:Y5->Y3 Y8}{name:Y5}{v:Y8}
def qos(X:K.In s.heap)(I:ObjM s.heap x dx C mA)(c:PySem.W.plainGet K C name=O)(b:PySem.W.hasDictIn K C=O)(d:PySem.W.findIn K (.ref C) name=Y B)(hv:mA name=Y v)(a:PySem.W.handedIn v=O)(h:Q v { s with toks:=s.toks+1 }):
  wpAny ?r A (getAttr (.ref x) name expr) Q E s:=by
 obtain⟨g,e,hl⟩:=I.look;exact PySem.W.get_value X e (Qj0 c).1 (PySem.W.findObj_own b d rfl (by rw[hl,hv])) a h
def qiz(X:K.In s.heap)(I:ObjM s.heap x dx C mA)(a:PySem.W.plainGet K C name=O)(hf:PySem.W.findIn K (.ref C) name=Y (Y (.ref f)))(c:PySem.W.isFn K (.ref f)=O)(hv:mA name=B)(h:Q (.ref f,[.ref x]) s):
  wpAny ?r A (Zu (.ref x) name pl) Q E s:=by
 obtain⟨b,d,hl⟩:=I.look;exact PySem.W.method_fn X d (Qj0 a).1 (Qj0 a).2 hf (beq_iff_eq.mp c) (by show(PySem.W.lookIn name b).map (·.isSome)=Y Y6; rw[hl,hv]; rfl) h
def qmu(X:K.In s.heap)(I:ObjM s.heap x dx C mA)(hs:PySem.W.findIn K (.ref C) "__setattr__" = Y (Y (.builtin "object.__setattr__")))(o:PySem.W.plainOver K C=O)(n:PySem.W.takerIn K C name=Y B)(p:PySem.W.hasDictIn K C=O)(m:PySem.Within mA ns)(hsz:ns.length<=sizeLine)(h:∀h',ObjM h' x dx C (λy=>if y=name then Y v else mA y)->Heap.SameBut dx s.heap h'->Q () { s with heap:=h',toks:=s.toks+2 }):
  wpAny ?r A (setAttr (.ref x) name v) Q E s:=by
 obtain⟨u,k,hl⟩:=I.look;refine PySem.W.set_plain X k hs (PySem.W.osa_open X k o n λb=>?_);obtain⟨z,hc,i⟩:=PySem.W.any_some p;have l:=I.obj;refine Qq (Qx (Qq (Qq (wpAny_loadPart l (Qq (PySem.W.Looks.here (PySem.W.looks_clsIn X hc) ?_))))));rw[i];refine Qx (Qq (Qx (Qq ?_)));refine wpAny_nsSet1 I.ns λh' d c=>?_;obtain⟨oD,q,t,e,g,j⟩:=d.count (PySem.Within.cons name v m);refine Qq (wpAny_lookBehind e (by rw[g]; exact pastItsLine_dict (Qzh j (by rw[Qqh]; omega))) ?_);exact Qx (h _ ⟨(c.2 _ (Ne.symm I.ne)).trans I.obj,d,I.ne⟩ c)
def qht(X:K.In s.heap)(b:PySem.W.makesIn K C=O)(c:PySem.W.findIn K (.ref C) "__init__" = Y (Y (.ref f)))(hf:PySem.W.typeIn K (.ref f)=Y (.type "function"))(h:Zc ?r (A.under (.builtin "type.__call__" ⟨.ref C::vs,a⟩)) (.call (.ref f) ⟨.ref ?K::vs,a⟩) (PySem.W.InitBack ?K R)
   { s with heap:=(s.heap.push PySem.W.emptyDict).push (PySem.W.instObj C s.heap.objs.size) }):
  Zc ?r A (.call (.ref C) ⟨vs,a⟩) R s:=by
 obtain⟨e,g,d,t,os⟩:=s;exact PySem.W.make_core (PySem.W.makes_of X b) (PySem.W.looks_findIn X c) (λself=>PySem.W.bind_fn X self hf) ?qp h
end
noncomputable def putF(f:Y5)(v:V):L (Y5×V)->L (Y5×V)
 |[]=>[(f,v)]
 |(g,x)::r=>if g=f then(g,v)::r else(g,x)::putF f v r
theorem qjt(f g)(v):∀fs:L (Y5×V),(putF f v fs).lookup g=if g=f then Y v else fs.lookup g
 |[]=>by
  show List.lookup g [(f,v)]=_
  by_cases h:g=f
  ·have hb:=beq_iff_eq.mpr h;simp only[List.lookup,hb,Z6 h]
  ·have hb:=beq_eq_false_iff_ne.mpr h;simp only[List.lookup,hb,Z5 h]
 |(k,x)::r=>by
  have a:=qjt f g v r;rw[show putF f v ((k,x)::r)=(if k=f then(k,v)::r else(k,x)::putF f v r) from rfl]
  by_cases hk:k=f
  ·rw[Z6 hk]
   by_cases h:g=k
   ·have hb:=beq_iff_eq.mpr h;simp only[List.lookup,hb,Z6 (h.trans hk)]
   ·have hb:=beq_eq_false_iff_ne.mpr h;simp only[List.lookup,hb,Z5 (λe:g=f=>h (e.trans hk.symm))]
  ·rw[Z5 hk]
   by_cases h:g=k
   ·have hb:=beq_iff_eq.mpr h;simp only[List.lookup,hb,Z5 (λe:g=f=>hk (h.symm.trans e))]
   ·have hb:=beq_eq_false_iff_ne.mpr h;simp only[List.lookup,hb];exact a
theorem qj1(f)(v):∀fs:L (Y5×V),f∈(putF f v fs).map (·.1)/\∀g,g∈fs.map (·.1)->g∈(putF f v fs).map (·.1)
 |[]=>⟨by simp[putF],λg h=>by simp at h⟩
 |(k,x)::r=>by
  obtain⟨i1,i2⟩:=qj1 f v r;rw[show putF f v ((k,x)::r)=(if k=f then(k,v)::r else(k,x)::putF f v r) from rfl]
  by_cases hk:k=f
  ·rw[Z6 hk];subst hk;exact⟨by simp,λg h=>by simpa using h⟩
  ·rw[Z5 hk];refine⟨?_,λg h=>?_⟩
   ·rw[Qqg];exact Qq3 _ i1
   ·rw[Qqg]at h ⊢;rcases Qqb.mp h with e|e
    ·exact Qqb.mpr (.inl e)
    ·exact Qq3 _ (i2 g e)
theorem qju(f)(v):∀fs:L (Y5×V),(putF f v fs).length<=fs.length+1
 |[]=>by simp[putF]
 |(k,x)::r=>by
  have a:=qju f v r;rw[show putF f v ((k,x)::r)=(if k=f then(k,v)::r else(k,x)::putF f v r) from rfl]
  by_cases hk:k=f
  ·rw[Z6 hk,Qqh,Qqh]; omega
  ·rw[Z5 hk,Qqh,Qqh]; omega
def RelO.some_of(r:RelO (Y v) o):∃u,o=Y u/\RelV v u:=by
 cases o with
 |none=>exact(r).elim
 |some u=>exact⟨u,rfl,r⟩
def RelO.none_of(r:RelO B o):o=none:=by
 cases o with
 |none=>rfl
 |some u=>exact(r).elim
def qet(r:RelV v u):PySem.W.handedIn u=true:=by
 cases v with
 |non=>cases (r); rfl
 |bl b=>cases (r); rfl
 |int i=>obtain⟨t,e⟩:=(r); cases e; rfl
 |str x=>obtain⟨t,e⟩:=(r); cases e; rfl
 |byt b=>obtain⟨t,e⟩:=(r); cases e; rfl
 |flt b=>obtain⟨t,e⟩:=(r); cases e; rfl
 |ref a=>cases (r); rfl
 |ty n=>cases (r); rfl
section
def qqv(hok:HOk P w H h)(e:H a=Y (.ins C dx fs)):∃mA,ObjM h a dx C mA/\(∀f,RelO (fs.lookup f) (mA f))/\PySem.Within mA (fs.map (·.1))/\fs.length<=1000/\H dx=Y (.own a):=by
 obtain⟨d,z,ne,ob,mA,n,r,q⟩:=(hok a _ e)
 exact⟨mA,⟨ob,n,ne⟩,r,q,z,d⟩
end
structure Cls (K:Qqq) (C:Y7):Prop where
 pg:PySem.W.plainGet K C Str.empty=O
 hd:PySem.W.hasDictIn K C=O
 po:PySem.W.plainOver K C=O
 sa:PySem.W.findIn K (.ref C) "__setattr__" = Y (Y (.builtin "object.__setattr__"))
def Cls.get{K:Qqq}(c:Cls K C)(f):PySem.W.plainGet K C f=true:=c.pg
def NoAttr(K:Qqq)(C:Y7)(f:Y5):Prop:=PySem.W.findIn K (.ref C) f=Y B
def NoAttr.taker{K:Qqq}(n:NoAttr K C f):PySem.W.takerIn K C f=Y none:=by
 unfold PySem.W.takerIn;rw[show PySem.W.findIn K (.ref C) f=Y B from n]
 rfl
structure Meth (K:Qqq) (C:Y7) (m:Y5) (f:Y7):Prop where
 at_:PySem.W.findIn K (.ref C) m=Y (Y (.ref f))
 fn:PySem.W.isFn K (.ref f)=O
 kp:Qz2 K (.ref f)=O
section
def qb1(I:Inv X pins σ H s)(e:H a=Y (.ins C dx fs))(c:Cls X.K C)(n:NoAttr X.K C f)(l:fs.lookup f=Y v)(h:∀u s',Inv X pins σ H s'->RelV v u->Q u s'):wpAny ?d A (getAttr (.ref a) f b) Q E s:=by
 obtain⟨mA,i,r,_,_,_⟩:=qqv I.hok e;obtain⟨u,g,d⟩:=RelO.some_of (by rw[<- l]; exact r f);exact qos I.kIn i (c.get f) c.hd n g (qet d) (h u _ (I.tok _) d)
def qxn(I:Inv X pins σ H s)(e:H a=Y (.ins C dx fs))(c:Cls X.K C)(k:Meth X.K C m g)(l:fs.lookup m=B)(h:Q (.ref g,[.ref a]) s):wpAny ?d A (Zu (.ref a) m pl) Q E s:=by
 obtain⟨mA,b,r,_,_,_⟩:=qqv I.hok e;have hn:=RelO.none_of (by rw[<- l]; exact r m);exact qiz I.kIn b (c.get m) k.at_ k.fn hn h
def qbf(I:Inv X pins σ H s)(e:H a=Y (.ins C dx fs))(c:Cls X.K C)(n:NoAttr X.K C f)(hl:fs.length<1000)(m:RelV y u)(h:∀s',Inv X pins σ (upd H a (.ins C dx (putF f y fs))) s'->Q () s'):wpAny ?d A (setAttr (.ref a) f u) Q E s:=by
 obtain⟨mA,d,r,j,_,k⟩:=qqv I.hok e;have p:(fs.map (·.1)).length<=sizeLine:=by rw[Qqz,Q0]; omega
 refine qmu I.kIn d c.sa c.po n.taker c.hd j p λh' i l=>h _ ?_;have hd:∃o,h'.get? dx=Y o:=let ⟨o,_,_,w,_⟩:=i.ns; ⟨o,w⟩;refine I.write (by rw[e]; exact True.intro) (.inr k) (λb q hb z=>(l.2 b hb).trans z) hd ?_;refine⟨by rw[qzq d.ne]; exact k,?_,d.ne,i.obj,_,i.ns,λg=>?_,λg t=>?_⟩
 ·have:=qju f y fs; omega
 ·rw[qjt]
  by_cases q:g=f
  ·rw[Z6 q,Z6 q]; exact m
  ·rw[Z5 q,Z5 q]; exact r g
 ·by_cases q:g=f
  ·rw[q]; exact(qj1 f y fs).1
  ·refine(qj1 f y fs).2 g (j g λz=>t ?_);show(if g=f then Y u else mA g)=B;rw[Z5 q]; exact z
def Inv.made(I:Inv X pins σ H s):Inv X pins σ (upd (upd H s.heap.objs.size (.own ?K)) ?K (.ins C s.heap.objs.size []))
  { s with heap:=(s.heap.push PySem.W.emptyDict).push (PySem.W.instObj C s.heap.objs.size) }:=by
 have c:(s.heap.push PySem.W.emptyDict).get? s.heap.objs.size=Y PySem.W.emptyDict:=Qqf s.heap rfl;have i:((s.heap.push PySem.W.emptyDict).push (PySem.W.instObj C s.heap.objs.size)).get? ?K=Y (PySem.W.instObj C s.heap.objs.size):=by
  have:=Qqf (s.heap.push PySem.W.emptyDict) (o:=PySem.W.instObj C s.heap.objs.size) rfl;rwa [Qxv]at this
 have h:(s.heap.push PySem.W.emptyDict).Ns s.heap.objs.size (λ_=>B):=⟨PySem.W.emptyDict,#[],_,c,rfl,(λe g=>absurd g (by simp)),λ_=>rfl⟩
 have j:=I.laid (o:=.own ?K) (t':=s.toks) (λb u q=>Qqx _ q) (Qqv _) ⟨_,c⟩;refine j.laid (λb u q=>Qqx _ q) (Nat.le_of_eq (Qxv _ _)) ?_;have ne:s.heap.objs.size≠s.heap.objs.size+1:=Qq6 (Qzo _);refine⟨by rw[qzq ne,qzw],Qzl _,ne,i,λ_=>B,(Heap.Ns1.of_empty h).at λo q=>Qqx _ q,λ_=>True.intro,λy d=>absurd rfl d⟩
def qpy(hb:Zz e f env (Qa e env)=Qa e env)(h:wpAny ?r A (Qa e env) (λo b=>wpAny ?r A (getAttr o f O) Q E b) E s):wpAny ?r A (Qa (.Attribute e f pos) env) Q E s:=
 Attribute_any_ h (by rw[arm_eval_Attribute,hb])
end
noncomputable def tFld(K:Qqq)(ta:TE)(f:Y5):TE:=λσ H Q=>ta σ H λx H1=>∃a C dx fs v,x=.ref a/\H1 a=Y (.ins C dx fs)/\Cls K C/\NoAttr K C f/\fs.lookup f=Y v/\Q v H1
noncomputable def sFld(K:Qqq)(ta tv:TE)(f:Y5):TS:=λD σ H=>tv σ H λy H1=>ta σ H1 λx H2=>∃a C dx fs,x=.ref a/\H2 a=Y (.ins C dx fs)/\Cls K C/\NoAttr K C f/\fs.length<1000/\
 D.nx σ (upd H2 a (.ins C dx (putF f y fs)))
section
def pe_fld(g:PE X e ta)(hb:Zz e f X.env (Qa e X.env)=Qa e X.env):PE X (.Attribute e f pos) (tFld X.K ta f):=by
 intro pins s σ H Q I h;refine qpy hb (thn (g pins s σ H _ I h) λu r ⟨x,H1,k,b,a,C,dx,fs,v,ex,i,c,n,l,q⟩=>?_);subst ex;obtain rfl:u=Value.ref a:=b;exact qb1 k i c n l λm p j d=>⟨v,H1,j,d,q⟩
def ps_fld(k:PE X o ta)(hv:PE X value tv)(hs:swapsWith value (Y (.Attribute o f pos')) pos.line X.env=pure Y6):PS X (.Assign [.Attribute o f pos'] value pos) (sFld X.K ta tv f):=by
 intro pins s σ H D I h;refine plainObj_wpAny_Assign_Attribute (thn (hv pins s σ H _ I h) λu b ⟨y,H1,t,d,q⟩=>thn (k pins b σ H1 _ t q) λj w ⟨x,H2,r,g,a,C,dx,fs,ex,m,c,n,l,i⟩=>?_) hs;subst ex;obtain rfl:j=Value.ref a:=g;exact qbf r m c n l d λv p=>⟨σ,_,p,i⟩
def qn8(y:PE X e p)(I:Inv X d j H s)(h:p j H λx H1=>∃a C dx fs g,x=.ref a/\H1 a=Y (.ins C dx fs)/\Cls X.K C/\Meth X.K C m g/\fs.lookup m=B/\
   ∀n,Inv X d j H1 n->wpAny ?d X.A (callWith pos (.ref g) [.ref a] (backTo pos (starEach b X.env)) (backToKw pos (keywordEach [] X.env))) Q X.xe n)(w:Qa (.Call (.Attribute e m i) b [] pos) X.env=(do
   let r <- Qa e X.env
   standAt i.atName
   let (f,first) <- holding [r] (Zu r m pl)
   callWith pos f first (backTo pos (starEach b X.env)) (backToKw pos (keywordEach [] X.env)))):
  wpAny ?d X.A (Qa (.Call (.Attribute e m i) b [] pos) X.env) Q X.xe s:=by
 refine Qjg (thn (y d s j H _ I h) λu n ⟨x,H1,t,v,a,C,dx,fs,g,ex,z,c,k,l,q⟩=>?_) w;subst ex;obtain rfl:u=Value.ref a:=v;exact qxn t z c k l (q n t)
end
section
end
structure Room (k:Y0) (A:Qk):Prop where
 hd:A.handled=B
 dp:A.depth+3*k+5<recursionLimit
 un:A.units+16*k+200<cLine
def Room.mono(r:Room k A)(h:j<=k):Room j A:=⟨r.hd,by have:=r.dp; omega,by have:=r.un; omega⟩
theorem Room.deeper(r:Room (k+1) A)(env):Room k (A.deeper env):=
 ⟨r.hd,by have:=r.dp; show A.depth+1+3*k+5<_; omega,by have:=r.un; show A.units+3+16*k+200<_; omega⟩
def qbt{A:Qk}:(A.under (.builtin "type.__call__" ⟨.ref C::us,a⟩)).depth=A.depth+1:=by
 first|rfl|simp[Around.under,Code.weight,Code.isCreation,Code.isGuard,Code.isCaller,Code.frames,Code.isFrame,guardIds]
def qbs{A:Qk}:(A.under (.builtin "type.__call__" ⟨.ref C::us,a⟩)).units=A.units+1:=by
 first|rfl|simp[Around.under,Code.cUnits,Code.frames,Code.isFrame]
def Room.make(r:Room (k+1) A)(C)(us)(a):Room k (A.under (.builtin "type.__call__" ⟨.ref C::us,a⟩)):=
 ⟨r.hd,by have:=r.dp; rw[qbt]; omega,by have:=r.un; rw[qbs]; omega⟩
theorem Room.depth(r:Room k A):A.depth<recursionLimit:=by have:=r.dp; omega
theorem Room.units(r:Room k A):A.units+64<cLine:=by have:=r.un; omega
noncomputable def tNil:TA:=λ_ H Q=>Q [] H
noncomputable def qmf(ta:TE)(tr:TA):TA:=λσ H Q=>ta σ H λx H1=>tr σ H1 λxs H2=>Q (x::xs) H2
section
def pa_nil:PA X [] tNil:=λ_ _ _ _ H Q I h=>Calls.spliced_nil ⟨[],H,I,.nil,h⟩
def qqn(d:PE X e te)(hr:PA X es t)(hs:starEach (e::es) X.env=(Y6,Qa e X.env)::starEach es X.env:=by rfl):PA X (e::es) (qmf te t):=by
 intro pos pins s σ H Q I h;rw[hs];refine Calls.spliced_cons (thn (d pins s σ H _ I h) λu a ⟨x,H1,g,r1,c⟩=>?_);exact thn (hr pos pins a σ H1 _ g c) λi j ⟨xs,H2,f,r2,b⟩=>⟨x::xs,H2,f,.cons r1 r2,b⟩
noncomputable def tTup(t:TA):TE:=λσ H Q=>t σ H λxs H1=>xs.length<=sizeLine/\∀p,H1 p=B->Q (.ref p) (upd H1 p (.tup xs))
noncomputable def tLst(t:TA):TE:=λσ H Q=>t σ H λxs H1=>xs.length<=sizeLine/\∀p,H1 p=B->Q (.ref p) (upd H1 p (.lst xs))
def qlz{d}(h:PA X es t):PE X (.Tuple es d pos) (tTup t):=by
 intro pins s σ H Q I g;refine wpAny_Tuple_spliced (thn (h pos pins s σ H _ I g) λf a ⟨xs,H1,c,r,z,q⟩=>⟨by rw[<- r.length]; exact z,?_⟩);have hf:=c.hok.fresh (Qqv _);refine⟨.ref a.heap.objs.size,upd H1 a.heap.objs.size (.tup xs),c.laid (λb u e=>Qqx _ e) (Qqv _) ?_,rfl,q _ hf⟩;exact⟨z,f,r,⟨_,Qqf _ rfl,rfl,_,rfl⟩⟩
def pe_lst(h:PA X es t):PE X (.List es pos) (tLst t):=by
 intro pins s σ H Q I f;refine wpAny_List_spliced (thn (h pos pins s σ H _ I f) λd a ⟨xs,H1,c,r,z,q⟩=>⟨by rw[<- r.length]; exact z,?_⟩);have hf:=c.hok.fresh (Qqv _);refine⟨.ref a.heap.objs.size,upd H1 a.heap.objs.size (.lst xs),c.laid (λb u e=>Qqx _ e) (Qqv _) ?_,rfl,q _ hf⟩;exact⟨z,d,0,r,Qqf _ rfl⟩
end
abbrev Sp:=L V->Hp->VK->XK->Prop
abbrev CXT:=L Env->Hp->Qz->XK->Y8->Qz->Prop
structure Env0 (P:Program) (w:Qj) (K:Qqq) (mg:Y5->Y3 Y8) (base:Heap) (A:Qk) (outer:L Env) (s:Qz) (H:Hp):Prop where
 frames:A.frames=Y outer
 mod:Mod K mg base
 bs:∀b o,base.get? b=Y o->s.heap.get? b=Y o/\H b=B
 bsz:base.objs.size<=s.heap.objs.size
 funs:s.heap.FunFrames base outer
 frf:∀b∈frs outer,H b=B
 hok:HOk P w H s.heap
 bare:Zm s.gens
def CE(outer:L Env)(P:Program)(w:Qj)(H:Hp)(s:Qz)(Q:VK)(u:Y8)(s':Qz):Prop:=
 ∃v H',s'.os=s.os/\Zm s'.gens/\Un (frs outer) [] H H' s.heap s'.heap/\HOk P w H' s'.heap/\RelV v u/\Q v H'
def CR(CX:CXT)(outer:L Env)(P:Program)(w:Qj)(H:Hp)(s:Qz)(Q:VK)(E:XK)(r:Result)(s':Qz):Prop:=
 match r with
 |.ok (.ret u)=>CE outer P w H s Q u s'
 |.ok _=>False
 |.error e=>CX outer H s E e s'
structure FnOk (P:Program) (w:Qj) (K:Qqq) (mg:Y5->Y3 Y8) (base:Heap) (CX:CXT) (k:Y0) (f:Y7) (fd:Qm) (ps:L Y5) (sp:Sp):Prop where
 len:∀vs H Q E,sp vs H Q E->vs.length=ps.length
 run:∀(A:Qk) (outer:L Env) (s:Qz) (H:Hp) (args:Args) (us:L Y8) (vs:L V) (Q:VK) (E:XK),Room k A->Env0 P w K mg base A outer s H->BindsTo s fd args (ps.zip us)->Vals vs us->sp vs H Q E->
  Zc (model P w) A (.call (.ref f) args) (CR CX outer P w H s Q E) s
def FnOk.imp{K:Qqq}(F:FnOk P w K mg base d k f c ps b)(h:∀vs H Q E,sp' vs H Q E->b vs H Q E):FnOk P w K mg base d k f c ps sp':=
 ⟨λvs H Q E q=>F.len vs H Q E (h _ _ _ _ q),λA outer s H a e vs Q E hr g hb hv hs=>F.run A outer s H a e vs Q E hr g hb hv (h _ _ _ _ hs)⟩
def Env0.make{K:Qqq}(e:Env0 P w K mg base A outer s H)(C)(us)(a):
  Env0 P w K mg base (A.under (.builtin "type.__call__" ⟨.ref C::us,a⟩)) outer s H:=⟨by first|exact e.frames|(simpa[Around.under,Code.envs,Code.isFrame,pushEnvs] using e.frames),e.mod,e.bs,e.bsz,e.funs,e.frf,e.hok,e.bare⟩
section
def Inv.env0(I:Inv X pins σ H s):Env0 X.prog X.w X.K X.mg X.base X.A X.stack s H:=
 ⟨I.ok.frames,I.ok.mod,I.bs,Qzh I.ok.bsz I.sz,I.stack,I.stkFree,I.hok,I.bare⟩
def Inv.after(I:Inv X pins σ H s)(h:CE X.stack X.prog X.w H s Q u s'):EP X pins σ Q u s':=by
 obtain⟨v,H',os,bare,un,hok,r,q⟩:=h;obtain⟨c,g,d,t,a⟩:=s';obtain rfl:a=s.os:=os;exact⟨v,H',I.call un hok bare (λb z=>absurd z (by simp)),r,q⟩
end
noncomputable def tCall(sp:Sp)(dvs:L V)(E:XK)(t:TA):TE:=λσ H Q=>t σ H λvs H1=>sp (vs++dvs) H1 Q E
noncomputable def qmd(C:Y7)(m:Y5)(sp:Sp)(dvs:L V)(E:XK)(ta:TE)(t:TA):TE:=λσ H Q=>ta σ H λx H1=>∃a dx fs,x=.ref a/\H1 a=Y (.ins C dx fs)/\fs.lookup m=B/\
 t σ H1 λvs H2=>sp (x::(vs++dvs)) H2 Q E
noncomputable def tMake(C:Y7)(sp:Sp)(dvs:L V)(E:XK)(t:TA):TE:=λσ H Q=>t σ H λvs H1=>∀x dx,H1 x=B->H1 dx=B->dx≠x->
 sp (.ref x::(vs++dvs)) (upd (upd H1 dx (.own x)) x (.ins C dx [])) (λv H2=>v=.non/\Q (.ref x) H2) E
def Binds(K:Qqq)(fd:Qm)(ps:L Y5)(ds:L Y8):Prop:=
 ∀(s:Qz) (us:L Y8),K.In s.heap->(us++ds).length=ps.length->BindsTo s fd ⟨us,[]⟩ (ps.zip (us++ds))
def Binds.all{K:Qqq}(h:∀a:L Y8,a.length=ps.length->bindArgs b ⟨a,[]⟩=pure (ps.zip a)):Binds K b ps []:=λs a _ hl=>by
 rw[Qzx]at hl ⊢;exact .of_eq (h a hl)
def qkv(CX:CXT)(X:Cx)(E:XK):Prop:=∀(pins:L ?qm) (σ:St) (H:Hp) (s:Qz) (e:Y8) (s':Qz),Inv X pins σ H s->CX X.stack H s E e s'->X.xe e s'
section
def qdc(F:FnOk X.prog X.w X.K X.mg X.base CX k f fd ps sp)(hr:Room k X.A)(hb:Binds X.K fd ps ds)(hd:Vals dvs ds)(d:qkv CX X E)(I:Inv X a c H s)(r:Vals vs us)(h:sp (vs++dvs) H Q E):wpAny ?d X.A (call (.ref f) us) (EP X a c Q) X.xe s:=by
 have r2:=r.append hd;have hl:(us++ds).length=ps.length:=by rw[<- r2.length]; exact F.len _ _ _ _ h
 refine wpAny_call (Q3 (F.run X.A X.stack s H ⟨us,[]⟩ (us++ds) (vs++dvs) Q E hr I.env0 (hb s us I.kIn hl) r2 h) λr s' b=>?_)
 cases r with
 |error e=>exact d a c H s e s' I b
 |ok g=>
  cases g with
  |ret u=>exact I.after b
  |next=>exact False.elim b
  |brk=>exact False.elim b
  |cont=>exact False.elim b
def qnm(F:FnOk X.prog X.w X.K X.mg X.base CX k f fd ps sp)(hr:Room k X.A)(i:Gl X x)(g:X.mg x=Y (.ref f))(hk:Qz2 X.K (.ref f)=O)(hb:Binds X.K fd ps ds)(hd:Vals dvs ds)(d:qkv CX X E)
  (l:PA X (e::es) t) (b:?W=false:=by decide) (j:starEach (e::es) X.env=(Y6,Qa e X.env)::starEach es X.env:=by rfl) (a:(backTo pos (starEach es X.env)).any (·.1)=false:=by rfl) :
  PE X (.Call (.Name x p) (e::es) [] pos) (tCall sp dvs E t):=by
 intro pins s σ H Q I h;refine Zb (qyw I i g ?_ b);refine Qj3 I.ok.mod.kin hk (thn (l pos pins s σ H _ I h) λn u ⟨vs,H1,c,r,q⟩=>⟨c.kIn,?_⟩) j a;exact qdc F hr hb hd d c r q
def qnc(D:PE X o ta)(c:Cls X.K C)(g:Meth X.K C m f)(F:FnOk X.prog X.w X.K X.mg X.base CX k f fd ps sp)(hr:Room k X.A)(hb:Binds X.K fd ps ds)(hd:Vals dvs ds)(z:qkv CX X E)(G:PA X (e::es) t)(hst:starEach (e::es) X.env=(Y6,Qa e X.env)::starEach es X.env:=by rfl)(b:(backTo pos (starEach es X.env)).any (·.1)=false:=by rfl)(A:Qa (.Call (.Attribute o m apos) (e::es) [] pos) X.env=(do
   let d <- Qa o X.env
   standAt apos.atName
   let (f,first) <- holding [d] (Zu d m pl)
   callWith pos f first (backTo pos (starEach (e::es) X.env)) (backToKw pos (keywordEach [] X.env))):=by rfl):
  PE X (.Call (.Attribute o m apos) (e::es) [] pos) (qmd C m sp dvs E ta t):=by
 intro pins s σ H Q I h;refine Qjg (thn (D pins s σ H _ I h) λu v ⟨x,H1,j,w,a,dx,fs,ex,K,l,q⟩=>?_) A;subst ex;obtain rfl:u=Value.ref a:=w;refine qxn j K c g l ?_;refine Qj3 I.ok.mod.kin g.kp (thn (G pos pins v σ H1 _ j q) λn N ⟨vs,H2,i,r,y⟩=>⟨i.kIn,?_⟩) hst b;exact qdc (vs:=.ref a::vs) F hr hb hd z i (.cons rfl r) y
def qhb(r:PE X o ta)(c:Cls X.K C)(g:Meth X.K C m f)(F:FnOk X.prog X.w X.K X.mg X.base CX k f fd ps sp)(hr:Room k X.A)(hb:Binds X.K fd ps ds)(hd:Vals dvs ds)(j:qkv CX X E)(n:Qa (.Call (.Attribute o m apos) [] [] pos) X.env=(do
   let d <- Qa o X.env
   standAt apos.atName
   let (f,first) <- holding [d] (Zu d m pl)
   callWith pos f first (backTo pos (starEach [] X.env)) (backToKw pos (keywordEach [] X.env))):=by rfl):
  PE X (.Call (.Attribute o m apos) [] [] pos) (qmd C m sp dvs E ta tNil):=by
 intro pins s σ H Q I h;refine Qjg (thn (r pins s σ H _ I h) λu w ⟨x,H1,b,i,a,dx,fs,ex,v,l,q⟩=>?_) n;subst ex;obtain rfl:u=Value.ref a:=i;refine qxn b v c g l ?_;exact PySem.W.callWith_K0 b.kIn g.kp (qdc (vs:=[.ref a]) F hr hb hd j b (.cons rfl .nil) q)
structure Mk (K:Qqq) (C f:Y7):Prop where
 makes:PySem.W.makesIn K C=O
 init:PySem.W.findIn K (.ref C) "__init__" = Y (Y (.ref f))
 fn:PySem.W.isFn K (.ref f)=O
 kp:Qz2 K (.ref C)=O
def qg6(M:Mk X.K C f)(F:FnOk X.prog X.w X.K X.mg X.base CX k f fd ps sp)(hr:Room (k+1) X.A)(hb:Binds X.K fd ps ds)(hd:Vals dvs ds)(l:qkv CX X E)(I:Inv X a d H s)(r:Vals vs us)(h:∀x dx,H x=B->H dx=B->dx≠x->sp (.ref x::(vs++dvs)) (upd (upd H dx (.own x)) x (.ins C dx [])) (λv H2=>v=.non/\Q (.ref x) H2) E):
  wpAny ?d X.A (call (.ref C) us) (EP X a d Q) X.xe s:=by
 have g:=h ?K s.heap.objs.size (I.hok.fresh (Qxh _)) (I.hok.fresh (Qqv _)) (Qq6 (Qzo _));have c:=Inv.made (C:=C) I;have r2:Vals (V.ref ?K::(vs++dvs)) (Value.ref ?K::(us++ds)):=.cons rfl (r.append hd);have hl:(Value.ref ?K::us++ds).length=ps.length:=by
  have e:=r2.length;rw[F.len _ _ _ _ g]at e;exact e.symm
 refine wpAny_call (qht I.kIn M.makes M.init (beq_iff_eq.mp M.fn) (Q3 (F.run _ X.stack _ _ ⟨Value.ref ?K::us,[]⟩ (Value.ref ?K::(us++ds)) _ _ E (hr.make C us [])
  (c.env0.make C us []) (hb _ (Value.ref ?K::us) c.kIn hl) r2 g) λr s' b=>?_))
 cases r with
 |error e=>exact l a d _ _ e s' c b
 |ok n=>
  cases n with
  |ret u=>
   obtain⟨v,H',q,i,ev,j⟩:=c.after b;subst ev;exact⟨i,⟨V.ref ?K,H',q,rfl,j⟩⟩
  |next=>exact False.elim b
  |brk=>exact False.elim b
  |cont=>exact False.elim b
def qnd(M:Mk X.K C f)(F:FnOk X.prog X.w X.K X.mg X.base CX k f fd ps sp)(hr:Room (k+1) X.A)(i:Gl X x)(g:X.mg x=Y (.ref C))(hb:Binds X.K fd ps ds)(hd:Vals dvs ds)(d:qkv CX X E)
  (l:PA X (e::es) t) (b:?W=false:=by decide) (j:starEach (e::es) X.env=(Y6,Qa e X.env)::starEach es X.env:=by rfl) (a:(backTo pos (starEach es X.env)).any (·.1)=false:=by rfl) :
  PE X (.Call (.Name x p) (e::es) [] pos) (tMake C sp dvs E t):=by
 intro pins s σ H Q I h;refine Zb (qyw I i g ?_ b);refine Qj3 I.ok.mod.kin M.kp (thn (l pos pins s σ H _ I h) λn u ⟨vs,H1,c,r,q⟩=>⟨c.kIn,?_⟩) j a;exact qg6 M F hr hb hd d c r q
end
section
end
structure FnScope (N P:L Y5) (sc:Scope):Prop where
 kind:sc.kind=.function
 co:sc.isCoroutine=Y6
 gen:sc.isGenerator=Y6
 nd:N.Nodup
 pre:N.take P.length=P
 par:∀x∈P,sc.names.lookup x=Y .local\/sc.names.lookup x=Y .cell
 nofree:∀y∈sc.names,y.2≠.free
theorem qwt:∀{binds}{m},(∀v,(x,v) ∉ binds)->bindL a binds m x=m x
 |[],_,_=>rfl
 |(n,v)::r,m,h=>by
  unfold bindL;rw[qwt λw b=>h w (Qq3 _ b)]
  split
  ·have:x≠n:=by rintro rfl; exact h v Qzk
   simp[this]
  ·rfl
theorem qw0:∀{binds}{m},(∀v,(x,v) ∉ binds)->bindC a binds m x=m x
 |[],_,_=>rfl
 |(n,v)::r,m,h=>by
  unfold bindC;rw[qw0 λw b=>h w (Qq3 _ b)]
  split
  ·rfl
  ·have:x≠n:=by rintro rfl; exact h v Qzk
   simp[this]
theorem qwu:∀{P:L Y5}{vs:L Y8}{i:Y0}{m:Y5->Y3 Y8},P.Nodup->P[i]?=Y x->vs[i]?=Y v->a x=Y .local->
  bindL a (P.zip vs) m x=Y v
 |[],_,_,_,_,h,_,_=>by simp at h
 |_::_,[],_,_,_,_,h,_=>by simp at h
 |p::P,w::vs,0,m,nd,h1,h2,hk=>by
  simp at h1 h2; subst h1; subst h2;show bindL a ((p,w)::P.zip vs) m p=_;unfold bindL;rw[qwt λv hv=>(Qze.mp nd).1 (Qkw hv).1,Z6 hk];simp
 |p::P,w::vs,i+1,m,nd,h1,h2,hk=>by
  unfold bindL;exact qwu (Qze.mp nd).2 (by simpa using h1) (by simpa using h2) hk
theorem qw1:∀{P:L Y5}{vs:L Y8}{i:Y0}{m:Y5->Y3 Y8},P.Nodup->P[i]?=Y x->vs[i]?=Y v->a x≠Y .local->
  bindC a (P.zip vs) m x=Y v
 |[],_,_,_,_,h,_,_=>by simp at h
 |_::_,[],_,_,_,_,h,_=>by simp at h
 |p::P,w::vs,0,m,nd,h1,h2,hk=>by
  simp at h1 h2; subst h1; subst h2;show bindC a ((p,w)::P.zip vs) m p=_;unfold bindC;rw[qw0 λv hv=>(Qze.mp nd).1 (Qkw hv).1,Z5 hk];simp
 |p::P,w::vs,i+1,m,nd,h1,h2,hk=>by
  unfold bindC;exact qw1 (Qze.mp nd).2 (by simpa using h1) (by simpa using h2) hk
noncomputable def start(N:L Y5)(vs:L V):St:=vs.map Y++List.replicate (N.length - vs.length) B
noncomputable def cxOf(CX:CXT)(P:Program)(w:Qj)(K:Qqq)(mg:Y5->Y3 Y8)(base:Heap)(N:L Y5)(qual:Y5)(scope:Scope)(f:Y7)(cd:Y8)(A:Qk)(outer:L Env)(s:Qz)(H:Hp)(E:XK):Cx where
 prog:=P
 w:=w
 K:=K
 mg:=mg
 base:=base
 A:=A.deeper (envOfC qual scope s.heap.objs.size f cd)
 N:=N
 s₀:=s
 H₀:=H
 env:=envOfC qual scope s.heap.objs.size f cd
 outer:=outer
 stack:=envOfC qual scope s.heap.objs.size f cd::outer
 ex:=[]
 calm:=O
 fn:=λ_=>O
 pn:=[]
 xe:=λe s'=>wpAny (model P w) (A.deeper (envOfC qual scope s.heap.objs.size f cd)) (leaving (envOfC qual scope s.heap.objs.size f cd) e) (λ_ s''=>CX outer H s E e s'') (λe' s''=>CX outer H s E e' s'') s'
def qbq{sc:Scope}(h:sc.names.lookup x=Y .cell):∃c,(cellsFrom n sc.names []).lookup x=Y c:=by
 have q:=Qkb sc.names n [] (.inl h);exact Qz6.mp q
def qem{K:Qqq}(S:FnScope N ps d)(hd:A.handled=B)(j:Env0 P w K mg base A outer s H)(hl:vs.length=ps.length)(r:Vals vs us)(x:InCallC s s.heap.objs.size (bindL (envOfC g d s.heap.objs.size f C).kindOf (ps.zip us) λ_=>B) (cellsFrom ?K d.names []) (bindC (envOfC g d s.heap.objs.size f C).kindOf (ps.zip us) λ_=>B) s1):
  Inv (cxOf F P w K mg base N g d f C A outer s H E) [] (start N vs) H s1:=by
 have I:ps.length<=N.length:=by have:=congrArg List.length S.pre; rw[Qq9]at this; omega
 obtain⟨h1,tk,rfl,hk⟩:=x.done;have l:∀b:Y7,b ∉ (cxOf F P w K mg base N g d f C A outer s H E).ex:=λb z=>absurd (show b∈([]:L Y7) from z) (by simp)
 refine⟨⟨j.mod,S.kind,rfl,rfl,Qqv _,λy z c h1 h2=>?_,λy m=>?_,λy c _ h=>?_,λ_=>hd,Around.frames_deeper j.frames,.inr ⟨rfl,rfl⟩,λb z=>absurd z (l b),j.bs,j.bsz,λb _ _=>l b,λb z=>absurd z (l b),j.funs,j.frf⟩,
  rfl,j.bare,Un.kept hk,⟨_,x.toInCall.ns,λi y v h1 h2 R=>?_⟩,λy c h=>⟨_,x.cell y c h⟩,j.hok.fresh (Qqv _),λy c h=>?_,λp t=>absurd (show p∈([]:L ?qm) from t) (by simp),j.hok.kept hk,?_⟩
 ·exact name_of_addr x.apart (PySem.mem_of_lookup h1) (PySem.mem_of_lookup h2)
 ·have m:=m;rcases m with m|m
  ·exact qbq m
  ·exact absurd rfl (S.nofree _ (PySem.mem_of_lookup m))
 ·exact Qjo (x.above y c (PySem.mem_of_lookup h))
 ·have hi:i<vs.length:=by
   unfold start at h2
   by_cases hi:i<vs.length
   ·exact hi
   ·rw[Qzw (by simpa using hi)]at h2;rw[Qkk]at h2
    split at h2<;>cases h2
  have Q:vs[i]?=Y v:=by
   unfold start at h2;rw[Qqs (by simpa using hi),Qqw]at h2
   cases e:vs[i]? with
   |none=>rw[e]at h2; cases h2
   |some a=>rw[e]at h2; cases h2; rfl
  obtain⟨u,D,G⟩:=r.get Q;have t:ps[i]?=Y y:=by
   rw[<- S.pre,Qkq (by omega)]; exact h1
  have o:ps.Nodup:=by rw[<- S.pre]; exact S.nd.sublist (Qxn _ _)
  refine⟨u,G,?_⟩;rcases S.par y (Qqi t) with k|k
  ·exact .inl ⟨k,qwu o t D k⟩
  ·obtain⟨c,e⟩:=qbq k;refine .inr ⟨.inl k,c,e,?_⟩;have q:=x.cell y c e;rw[qw1 o t D (by show d.names.lookup y≠_; rw[k]; decide)]at q;exact q
 ·exact j.hok.fresh (Qjo (x.above y c (PySem.mem_of_lookup h)))
 ·unfold start;show _=N.length;rw[Qql,Qqz,Qjh];omega
def fn_of{K:Qqq}{kV:Y8}(lk:K.lookup f=Y ⟨oc,od,.func (PySem.W.fnOf name c g body a T kV doc R an d ct),F⟩)(G:PySem.W.codeIn K d c=O)(S:FnScope N ps a)(len:∀vs H Q E,sp vs H Q E->vs.length=ps.length)(l:∀(A:Qk) (outer:L Env) (s:Qz) (H:Hp) (vs:L V) (Q:VK) (E:XK),Room k (A.deeper (envOfC c a s.heap.objs.size f d))->sp vs H Q E->
   ∃t,PSs (cxOf C P w K mg base N c a f d A outer s H E) body t/\t { nx:=λ_ H'=>Q .non H',rt:=Q } (start N vs) H):
  FnOk P w K mg base C (k+1) f (PySem.W.fnOf name c g body a T kV doc R an d ct) ps sp:=by
 refine⟨len,λA outer s H U X vs Q E hr z hb r m=>?_⟩;have hl:=len _ _ _ _ m;have W:=z.mod.kin.keeps λb o e=>(z.bs b o e).1;have lim:=z.mod.nolimit.keeps λb o e=>(z.bs b o e).1;have j:∀y∈ps.zip X,a.names.lookup y.1=Y .local\/(a.names.lookup y.1=Y .cell/\((cellsFrom ?K a.names []).lookup y.1).isSome=O):=λ⟨n,v⟩ hy=>by
  rcases S.par n (Qkw hy).1 with q|q
  ·exact .inl q
  ·exact .inr ⟨q,Qkb _ _ _ (.inl q)⟩
 refine codeAny_call_function hr.depth (W _ _ lk) rfl S.co S.gen rfl (PySem.W.codeRec_of W G) (hb _ _ _ _ ?_);refine wpAny_newFunctionEnv_cells S.kind j λenv he s1 x=>?_;subst he;refine⟨lim.keeps x.toInCall.keep,codeAny_func ?_⟩;obtain⟨t,ht,hq⟩:=l A outer s H vs Q E (hr.deeper _) m;have I:Inv (cxOf C P w K mg base N c a f d A outer s H E) [] (start N vs) H s1:=qem S hr.hd z hl r x;refine Qh (ht [] s1 (start N vs) H _ I hq) (λfl s' hs=>?_) λe s' hs=>hs;have p:∀{h:St}{H':Hp}{v:V}{u:Y8},Inv (cxOf C P w K mg base N c a f d A outer s H E) [] h H' s'->RelV v u->Q v H'->CE outer P w H s Q u s':=
  λ{h H' v u} i D q=>⟨v,H',i.os,i.bare,i.base,i.hok,D,q⟩
 cases fl with
 |ret u=>
  obtain⟨v,h,H',i,D,q⟩:=hs;exact p i D q
 |next=>
  obtain⟨h,H',i,q⟩:=hs;exact p (v:=V.non) i rfl q
 |brk=>
  obtain⟨_,_,_,q⟩:=hs;exact False.elim q
 |cont=>
  obtain⟨_,_,_,q⟩:=hs;exact False.elim q
section
variable {X:Cx}{x:Y5}{p pos:Pos}{e:Expr}{es:L Expr}{t:TA}{id:String}{r:L V->Hp->VK->Prop}
noncomputable def tCB(r:L V->Hp->VK->Prop)(t:TA):TE:=λσ H Q=>t σ H λvs H1=>r vs H1 Q
def qz3(hc:qqb X (.builtin id) r)(j:Gl X x)(i:X.mg x=B)(hv:Qc x=Y (.builtin id))(l:PA X (e::es) t)(g:x ≠ "__name__":=by decide)(b:?W=false:=by decide)
  (k:starEach (e::es) X.env=(Y6,Qa e X.env)::starEach es X.env:=by rfl) (a:(backTo pos (starEach es X.env)).any (·.1)=false:=by rfl):PE X (.Call (.Name x p) (e::es) [] pos) (tCB r t):=by
 intro pins s σ H Q I h;refine Zb (qx3 I j i hv ?_ g b);exact PyProof.Rows.callWith_builtin1 (thn (l pos pins s σ H _ I h) λc d ⟨vs,H1,m,r1,f⟩=>hc pins d σ H1 vs c Q m r1 f) k a
def qjo(hc:qqb X (.type T) r)(j:Gl X x)(i:X.mg x=B)(hv:Qc x=Y (.type T))(l:PA X (e::es) t)(g:x ≠ "__name__":=by decide)(b:?W=false:=by decide)
  (k:starEach (e::es) X.env=(Y6,Qa e X.env)::starEach es X.env:=by rfl) (a:(backTo pos (starEach es X.env)).any (·.1)=false:=by rfl):PE X (.Call (.Name x p) (e::es) [] pos) (tCB r t):=by
 intro pins s σ H Q I h;refine Zb (qx3 I j i hv ?_ g b);exact PyProof.Rows.callWith_type1 (thn (l pos pins s σ H _ I h) λc d ⟨vs,H1,m,r1,f⟩=>hc pins d σ H1 vs c Q m r1 f) k a
end
end L2
namespace HT
open PySem PyProof.Rows
section
open PySem.SeqAt
open PySem.AutoSeq1 (wpAny_loadPart')
open PySem.MeetsSeq PySem.MeetsSeq2 PySem.MeetsSeq3
end
section
def cat_tup(o:IsTup s.heap t vs.toArray)(hb:IsTup s.heap b ws.toArray)(hv:vs≠[])(q:ws=[]->Q (.ref t) s)(p:ws≠[]->Q ?qd { s with heap:=s.heap.push { cls:=.type "tuple",data:=.seq (vs++ws).toArray } })(hsz:vs.length+ws.length<=sizeLine):wpAny ?r A (Q2 .Add (.ref t) (.ref b)) Q E s:=by
 obtain⟨⟨cls,l,data,sl⟩,i,hc,n,hd⟩:=id o;obtain⟨⟨m,g,j,c⟩,a,f,k,d⟩:=id hb;simp only at hc hd f d;subst hc hd f d;have e:vs.toArray++ws.toArray=(vs++ws).toArray:=by simp
 by_cases h:ws=[]
 ·exact concat_meets ⟨_,i,rfl⟩ ⟨_,a,rfl⟩ noFill_tuple_add seq_tuple_add PySem.F.slot_tuple_add PySem.F.entry_tuple_add (PySem.F.args_tuple_add_2 _ _)
   (tuple_addW1 t b vs.toArray ws.toArray n k l g sl c (by simpa using hv) (by simp[h])) ⟨i,a,q h⟩
 ·refine concat_meets ⟨_,i,rfl⟩ ⟨_,a,rfl⟩ noFill_tuple_add seq_tuple_add PySem.F.slot_tuple_add PySem.F.entry_tuple_add (PySem.F.args_tuple_add_2 _ _)
   (tuple_addW2 t b vs.toArray ws.toArray n k l g sl c (by simpa using hv) (by simpa using h) (by rw[Qqc,Qqc]; exact hsz)) ⟨i,a,?_⟩
  rw[e];exact p h
noncomputable def sIx(n d:Y0):Y3 J->Y0
 |none=>d
 |some v=>if v<0 then(v+(n:J)).toNat else min v.toNat n
def sIx_le(n d)(hd:d<=n)(o):sIx n d o<=n:=by
 cases o with
 |none=>exact hd
 |some v=>
  show(if v<0 then(v+(n:J)).toNat else min v.toNat n)<=n
  by_cases hv:v<0
  ·rw[Z6 hv]; omega
  ·rw[Z5 hv]; exact Nat.min_le_right _ _
def qfh(v)(n d:Y0):(if v<0 then max (v+(n:J)) 0 else min v (n:J))=((sIx n d (Y v):Y0):J):=by
 show(if v<0 then max (v+(n:J)) 0 else min v (n:J))=(((if v<0 then(v+(n:J)).toNat else min v.toNat n):Y0):J)
 by_cases hv:v<0
 ·simp only[Z6 hv]; omega
 ·simp only[Z5 hv]; omega
def qcx(a b)(n:Y0):Builtin.Slice.sliceAdjust a b 1 (n:J)=(((sIx n 0 a:Y0):J),((sIx n n b:Y0):J)):=by
 have h1:¬ ((1:J)<0):=by omega
 unfold Builtin.Slice.sliceAdjust;simp only[h1,if_false];refine Prod.ext ?_ ?_
 ·cases a with
  |none=>rfl
  |some v=>exact qfh v n 0
 ·cases b with
  |none=>rfl
  |some v=>exact qfh v n n
def qbm(i j:Y0):Builtin.Slice.slicePlaces (i:J) (j:J) 1=j - i:=by
 unfold Builtin.Slice.slicePlaces;have h1:(1:J) > 0:=by omega
 simp only[h1,if_true,Int.ediv_one]
 split<;>omega
def qkh(p:IsPart v o)(h:Q o s):wpAny ?r A (Builtin.Slice.slicePartIndex v) Q E s:=by
 cases p with
 |none=>exact slicePart_none h
 |int i t=>exact slicePart_int h
def sliceApplied_gen{n:Y0}(hs:s.heap.IsSliceOf sl vl e .none)(pl:IsPart vl a)(pu:IsPart e c)(h:Q (((sIx n 0 a:Y0):J),1,sIx n n c - sIx n 0 a) s):wpAny ?r A (Builtin.Slice.sliceApplied (.ref sl) (pure (n:J))) Q E s:=by
 obtain⟨os,b,f,d⟩:=id hs;unfold Builtin.Slice.sliceApplied Builtin.Slice.sliceFields;refine Qq (Qq (Qv b d rfl (Qq (Qv b d rfl (Qq (Qv b d rfl (Qx ?_)))))));refine Qq (slicePart_none ?_);rw[Z5 (by decide)];refine Qq (qkh pl (Qq (qkh pu (Qq (Qx ?_)))));show wpAny _ _ (match Builtin.Slice.sliceAdjust a c 1 (n:J) with|(a,c)=>pure (a,(1:J),Builtin.Slice.slicePlaces a c 1)) _ _ s;rw[qcx a c n];show wpAny _ _ (pure (((sIx n 0 a:Y0):J),(1:J),Builtin.Slice.slicePlaces ((sIx n 0 a:Y0):J) ((sIx n n c:Y0):J) 1)) _ _ s;rw[qbm];exact Qx h
def qhw(xs:Array Y8)(i k:Y0):((List.range k).filterMap λ(m:Y0)=>xs[((i:J)+(m:J)*1).toNat]?).toArray=((xs.toList.drop i).take k).toArray:=by
 have e:(λ(m:Y0)=>xs[((i:J)+(m:J)*1).toNat]?)=λm=>xs[i+m]?:=by
  funext m
  have:((i:J)+(m:J)*1).toNat=i+m:=by omega
  rw[this]
 rw[e];have:=pick_run xs i k;rw[Qxw]at this;have a:((λx=>xs[x]?)∘λx=>i+x)=λm=>xs[i+m]?:=rfl;rw[a]at this;rw[this]
def getItem_tuple_cut(e:IsTup s.heap t a)(hs:s.heap.IsSliceOf sl vl k .none)(pl:IsPart vl c)(pu:IsPart k d)(l:¬ (sIx a.size 0 c=0/\sIx a.size a.size d=a.size))(h:Q ?qd { s with heap:=s.heap.push { cls:=.type "tuple",data:=.seq ((a.toList.drop (sIx a.size 0 c)).take (sIx a.size a.size d - sIx a.size 0 c)).toArray } })(hsz:a.size<=sizeLine):wpAny ?r A (Zx (.ref t) (.ref sl)) Q E s:=by
 have b:sizeOk (.seq ((a.toList.drop (sIx a.size 0 c)).take (sIx a.size a.size d - sIx a.size 0 c)).toArray):=by
  show((a.toList.drop (sIx a.size 0 c)).take (sIx a.size a.size d - sIx a.size 0 c)).toArray.size<=sizeLine;rw[Qqc,Qq9,Qxg,Qz3];omega
 have hj:sIx a.size a.size d<=a.size:=sIx_le _ _ (Qqv _) d;obtain⟨os,f,i,n⟩:=id hs;have j:s.TypeIs (.ref sl) "slice":=⟨os,f,i⟩
 unfold Zx
 try with_reducible refine Q4 ?_
 first|refine Qq (Qx ?_)|skip
 refine Qq (wpAny_sequenceKey e.typeIs (by decide) ?_)
 refine Qq (Qb e.typeIs PyProof.Rows.slot_tuple_getitem
  (Qd PyProof.Rows.slot_tuple_getitem e.typeIs entry_tuple_getitem ?_ (args_tuple_getitem _ _)))
 show wpAny _ _ (Builtin.Tuple.tupleItemsOf (.ref t) >>= _) _ _ s;refine Qq (tupleItemsOf_ e ?_);refine Qq (wpAny_typeOf j ?_);rw[Z6 (by decide)];refine Qq (sliceApplied_gen hs pl pu ?_);have g:¬ ((((sIx a.size 0 c:Y0):J)==0&&(1:J)==1&&(sIx a.size a.size d - sIx a.size 0 c)==a.size)=O):=by
  intro q;rw[Qq2,Qq2]at q;have p:=eq_of_beq q.1.1;have o:=eq_of_beq q.2;exact l ⟨by omega,by omega⟩
 show wpAny _ _ (if (((sIx a.size 0 c:Y0):J)==0&&(1:J)==1&&(sIx a.size a.size d - sIx a.size 0 c)==a.size)=O then _ else _) _ _ s;rw[Z5 g,qhw]
 first
  |exact Qq (Qi (Qx ⟨_,rfl,Qx h⟩) b)
  |exact Qq (Qi (Qq (Qx (Qx ⟨_,rfl,Qx h⟩))) b)
  |exact Qq (Qq (Qi (Qx (Qx ⟨_,rfl,Qx h⟩)) b))
  |exact Qq (Qq (Qi (Qx ⟨_,rfl,Qx h⟩) b))
end
end HT
namespace L2
open PySem PySem.Spec PyProof.Rows
abbrev TO:=St->Hp->(Y3 J->Hp->Prop)->Prop
def PO(X:Cx)(e:Y3 Expr)(t:TO):Prop:=
 ∀(pins:L ?qm) (s:Qz) (σ:St) (H:Hp) (Q:Y3 J->Hp->Prop),Inv X pins σ H s->t σ H Q->
  wpAny ?d X.A (evalPart e X.env) (λu s'=>∃o H',Inv X pins σ H' s'/\IsPart u o/\Q o H') X.xe s
noncomputable def qmc:TO:=λ_ H Q=>Q B H
noncomputable def tPart(t:TE):TO:=λσ H Q=>t σ H λx H1=>∃i,x=.int i/\Q (Y i) H1
def intsAre_of:∀{us},Vals (ns.map V.int) us->Zr us ns:=by
 induction ns with
 |nil=>intro us r; rw[Qx7]at r; cases r; exact .nil
 |cons n ns a=>
  intro us r;rw[Qqg]at r
  cases r with
  |cons r1 r2=>
   obtain⟨t,e⟩:=r1;subst e;exact .cons n t (a r2)
section
variable {X:Cx}{e:Expr}{te:TE}{lo hi:Y3 Expr}{tl th:TO}{pos p2:Pos}
def qnv:PO X B qmc:=by
 intro pins s σ H Q I h;rw[evalPart_none];exact Qx ⟨B,H,I,.none,h⟩
def qnk(h:PE X e te):PO X (Y e) (tPart te):=by
 intro pins s σ H Q I b;rw[evalPart_some];refine thn (h pins s σ H _ I b) λu d ⟨x,H1,c,r1,a⟩=>?_;obtain⟨i,rfl,q⟩:=a;obtain⟨t,rfl⟩:=r1;exact⟨Y i,H1,c,.int i t,q⟩
def SlR(X:Cx)(r:V->Y3 J->Y3 J->Hp->VK->Prop):Prop:=
 ∀(pins:L ?qm) (s:Qz) (σ:St) (H:Hp) (x:V) (v vl vu:Y8) (lo hi:Y3 J) (sl:Y7) (Q:VK),Inv X pins σ H s->RelV x v->s.heap.IsSliceOf sl vl vu .none->IsPart vl lo->IsPart vu hi->r x lo hi H Q->
  ∃T id,typeLookup (.type T) "__getitem__" = pure (Y (.builtin id))/\s.TypeIs v T/\wpAny ?d X.A (Zx v (.ref sl)) (EP X pins σ Q) X.xe s
noncomputable def tSl(r:V->Y3 J->Y3 J->Hp->VK->Prop)(te:TE)(tl th:TO):TE:=λσ H Q=>te σ H λx H1=>tl σ H1 λl H2=>th σ H2 λu H3=>r x l u H3 Q
def qha(hr:SlR X r)(p:PE X e te)(hl:PO X lo tl)(m:PO X hi th):PE X (.Subscript e (.Slice lo hi B p2) pos) (tSl r te tl th):=by
 intro pins s σ H Q I h;refine Subscript_ (thn (p pins s σ H _ I h) λv g ⟨x,H1,A,r1,k⟩=>?_);refine wpAny_Slice (thn (hl pins g σ H1 _ A k) λvl f ⟨l,H2,z,pl,j⟩=>thn (m pins f σ H2 _ z j) λc a ⟨u,d,y,pu,i⟩=>?_);rw[evalPart_none];refine Qx ?_;have w:Inv X pins σ d { a with heap:=a.heap.push { cls:=.type "slice",data:=.fields #[vl,c,.none] } }:=y.kept λb ob q=>Qqx _ q;obtain⟨T,id,t,n,o⟩:=hr pins { a with heap:=a.heap.push { cls:=.type "slice",data:=.fields #[vl,c,.none] } } σ d x v vl c l u a.heap.objs.size Q w r1 (Heap.IsSliceOf.new ..) pl pu i;exact tail_any n t o (by with_unfolding_all rfl)
noncomputable def cutV(xs:L V)(lo hi:Y3 J):L V:=(xs.drop (HT.sIx xs.length 0 lo)).take (HT.sIx xs.length xs.length hi - HT.sIx xs.length 0 lo)
def qkx(xs)(a b):(cutV xs a b).length<=xs.length:=by
 unfold cutV;rw[Qq9,Qxg];omega
def rSlT(K:Qqq):V->Y3 J->Y3 J->Hp->VK->Prop:=λx lo hi H Q=>∃a xs,x=.ref a/\SqT K H a xs/\
 ¬ (HT.sIx xs.length 0 lo=0/\HT.sIx xs.length xs.length hi=xs.length)/\∀p,H p=B->Q (.ref p) (upd H p (.tup (cutV xs lo hi)))
def sl_tup:SlR X (rSlT X.K):=by
 intro pins s σ H x v vl l lo hi sl Q I i hs pl pu h;obtain⟨a,xs,rfl,j,k,q⟩:=h;cases i;obtain⟨d,r,g,f⟩:=I.tuple j;have c:d.toArray.size=xs.length:=by rw[Qqc]; exact r.length.symm
 refine⟨"tuple",_,PyProof.Rows.slot_tuple_getitem.lookup,g.typeIs,?_⟩;refine HT.getItem_tuple_cut g hs pl pu (by rw[c]; exact k) ?_ (by rw[c]; exact f);rw[c];refine⟨.ref s.heap.objs.size,_,I.laid (λb ob q=>Qqx _ q) (Qqv _) ?_,rfl,q _ (I.hok.fresh (Qqv _))⟩;exact⟨Qzh (qkx xs lo hi) f,_,(r.drop (HT.sIx xs.length 0 lo)).take (HT.sIx xs.length xs.length hi - HT.sIx xs.length 0 lo),IsTup.new _ _⟩
noncomputable def rCatT(K:Qqq):R2:=λx y H Q=>∃a b xs ys,x=.ref a/\y=.ref b/\SqT K H a xs/\SqT K H b ys/\xs≠[]/\xs.length+ys.length<=sizeLine/\
 (ys=[]->Q (.ref a) H)/\(ys≠[]->∀p,H p=B->Q (.ref p) (upd H p (.tup (xs++ys))))
def Vals.nil_iff(r:Vals xs us):us=[]↔xs=[]:=by
 cases r with
 |nil=>simp
 |cons _ _=>simp
def qnu:OpR X (Q2 .Add) (rCatT X.K):=by
 intro pins s σ H x y v u Q I g f h;obtain⟨a,b,xs,ys,rfl,rfl,m,hb,l,d,j,i⟩:=h;cases g;cases f;obtain⟨k,r1,p1,_⟩:=I.tuple m;obtain⟨c,r2,p2,_⟩:=I.tuple hb;refine HT.cat_tup p1 p2 (λz=>l (r1.nil_iff.mp z)) (λz=>⟨.ref a,H,I,rfl,j (r2.nil_iff.mp z)⟩) (λz=>?_) (by rw[<- r1.length,<- r2.length]; exact d);refine⟨.ref s.heap.objs.size,_,I.laid (λb ob q=>Qqx _ q) (Qqv _) ?_,rfl,i (λw=>z (r2.nil_iff.mpr w)) _ (I.hok.fresh (Qqv _))⟩;exact⟨by rw[Qql]; exact d,_,r1.append r2,IsTup.new _ _⟩
end
noncomputable def ixN(n:Y0)(i:J):Y3 Nat:=if 0<=i then(if i<n then Y i.toNat else B) else if -(n:J)<=i then Y (i+n).toNat else B
noncomputable def atI{α:Type}(xs:L α)(i:J):Y3 α:=(ixN xs.length i).bind λj=>xs[j]?
def qoc(h:ixN n i=Y j):seqIndex? i n=Y j/\j<n/\-(n:J)<=i/\i<n:=by
 unfold ixN at h
 by_cases a:0<=i
 ·rw[Z6 a]at h
  by_cases h1:i<n
  ·rw[Z6 h1]at h;have e:=Option.some.inj h;exact⟨by rw[seqIndex_of a h1,e],by omega,by omega,h1⟩
  ·rw[Z5 h1]at h; cases h
 ·rw[Z5 a]at h
  by_cases h1:-(n:J)<=i
  ·rw[Z6 h1]at h;have e:=Option.some.inj h;exact⟨by rw[seqIndex_neg (by omega) h1,e],by omega,h1,by omega⟩
  ·rw[Z5 h1]at h; cases h
def qgx(h:atI xs i=Y v):∃j,seqIndex? i xs.length=Y j/\xs[j]?=Y v/\j<xs.length/\-(xs.length:J)<=i/\i<xs.length:=by
 unfold atI at h
 cases e:ixN xs.length i with
 |none=>rw[e]at h; cases h
 |some j=>
  rw[e]at h;obtain⟨h1,h2,b,a⟩:=qoc e;exact⟨j,h1,h,h2,b,a⟩
def qpb(b:Expr):Prop:=∀o i,subscripted b Y6 o i=operate [o,i] (Zx o i)
def IxR(X:Cx)(r:R2):Prop:=
 ∀(value slice:Expr) (pins:L ?qm) (s:Qz) (σ:St) (H:Hp) (x y:V) (v u:Y8) (Q:VK),Inv X pins σ H s->RelV x v->RelV y u->r x y H Q->
  subscripted slice Y6 v u=operate [v,u] (Zx v u)->wpAny ?d X.A (subscriptTail value slice v u) (EP X pins σ Q) X.xe s
def MtR(X:Cx)(id:String)(r:V->L V->Hp->VK->Prop):Prop:=
 ∀(pins:L ?qm) (s:Qz) (σ:St) (H:Hp) (x:V) (xs:L V) (v:Y8) (us:L Y8) (Q:VK),Inv X pins σ H s->RelV x v->Vals xs us->r x xs H Q->
  wpAny ?d X.A (call (.builtin id) (v::us)) (EP X pins σ Q) X.xe s
section
variable {X:Cx}
def pe_ix(hr:IxR X r)(f:PE X a ta)(hb:PE X b tb)(hs:qpb b):PE X (.Subscript a b pos) (tOp r ta tb):=by
 intro pins s σ H Q I h;exact Subscript_ (binT f hb I h λv u c x y H2 g e d q=>hr a b pins c σ H2 x y v u Q g e d q (hs _ _))
noncomputable def rIxL(K:Qqq):R2:=λx y H Q=>∃p xs i v,x=.ref p/\y=.int i/\SqL K H p xs/\atI xs i=Y v/\Q v H
noncomputable def rIxT(K:Qqq):R2:=λx y H Q=>∃p xs i v,x=.ref p/\y=.int i/\SqT K H p xs/\atI xs i=Y v/\Q v H
def qob:IxR X (rIxL X.K):=by
 intro value d pins s σ H x y v u Q I m l h hs;obtain⟨p,xs,i,z,rfl,rfl,n,o,q⟩:=h;cases m;obtain⟨t,rfl⟩:=l;obtain⟨f,r,pl,D⟩:=I.list n;obtain⟨j,h1,h2,E,C,A⟩:=qgx o;obtain⟨w,k,e⟩:=r.get h2;have hl:=r.length;have hn:=qaf;have c:EP X pins σ Q w s:=⟨z,H,I,e,q⟩
 by_cases g:0<=i
 ·have hj:i.toNat=j:=by
   rw[seqIndex_of g A]at h1;exact Option.some.inj h1
  exact item_listR pl.isList g (by omega) (by rw[hj]; simpa using k) c hs
 ·have hj:(i+(f.toArray.size:J)).toNat=j:=by
   rw[seqIndex_neg (by omega) C]at h1;rw[Qqc,<- hl];exact Option.some.inj h1
  exact subscriptTail_builtinR pl.isList.typeIs slot_list_getitem.lookup
   (wpAny_getItem_list_neg pl.isList (by omega) (by rw[Qqc]<;>omega) (by omega) (by rw[hj]; simpa using k) ⟨rfl,c⟩) hs
def ix_tup:IxR X (rIxT X.K):=by
 intro value c pins s σ H x y v u Q I g f h hs;obtain⟨p,xs,i,z,rfl,rfl,l,m,q⟩:=h;cases g;obtain⟨t,rfl⟩:=f;obtain⟨k,r,pl,o⟩:=I.tuple l;obtain⟨j,h1,h2,D,C,A⟩:=qgx m;obtain⟨w,n,d⟩:=r.get h2;have hl:=r.length;have hn:=qaf;have e:EP X pins σ Q w s:=⟨z,H,I,d,q⟩
 exact subscriptTail_builtinR pl.typeIs slot_tuple_getitem.lookup
  (getItem_tuple pl (by omega) (by omega) (by rw[Qqc,<- hl]; exact h1) (by simpa using n) ⟨rfl,e⟩) hs
def qvp(c d)(n):(Zj c d B n).1=((HT.sIx n 0 c:Y0):J)/\(Zj c d B n).2.1=((HT.sIx n n d:Y0):J)/\(Zj c d B n).2.2=1:=by
 refine⟨?_,?_,rfl⟩
 ·cases c with
  |none=>simp[Zj,HT.sIx]
  |some i=>
   simp only[Zj,HT.sIx,Option.getD_none,show(1:J) > 0 by decide,if_true]
   by_cases h:i<0
   ·simp only[h,if_true]<;>omega
   ·simp only[h,if_false]<;>omega
 ·cases d with
  |none=>simp[Zj,HT.sIx]
  |some i=>
   simp only[Zj,HT.sIx,Option.getD_none,show(1:J) > 0 by decide,if_true]
   by_cases h:i<0
   ·simp only[h,if_true]<;>omega
   ·simp only[h,if_false]<;>omega
def qk9(c:L Y8)(d e):slicePick c.toArray d e B=((c.drop (HT.sIx c.length 0 d)).take (HT.sIx c.length c.length e - HT.sIx c.length 0 d)).toArray:=by
 obtain⟨h1,h2,f⟩:=qvp d e c.toArray.size;unfold slicePick;rw[h1,h2,f];simp only[sliceRange_one,pick_run,Qqc]<;>rfl
def rSlL(K:Qqq):V->Y3 J->Y3 J->Hp->VK->Prop:=λx lo hi H Q=>∃a xs,x=.ref a/\SqL K H a xs/\∀p,H p=B->Q (.ref p) (upd H p (.lst (cutV xs lo hi)))
def qmo:SlR X (rSlL X.K):=by
 intro pins s σ H x v vl j lo hi sl Q I e hs pl pu h;obtain⟨a,xs,rfl,i,q⟩:=h;cases e;obtain⟨f,r,d,g⟩:=I.list i;have c:=r.length;refine⟨"list",_,slot_list_getitem.lookup,d.isList.typeIs,?_⟩;refine wpAny_getItem_list_slice d.isList hs pl pu .none (by simp) ?_ (by rw[Qqc]<;>omega);rw[qk9,<- c];refine⟨.ref s.heap.objs.size,_,I.laid (λb ob q=>Qqx _ q) (Qqv _) ?_,rfl,q _ (I.hok.fresh (Qqv _))⟩;exact⟨Qzh (qkx xs lo hi) g,_,0,(r.drop (HT.sIx xs.length 0 lo)).take (HT.sIx xs.length xs.length hi - HT.sIx xs.length 0 lo),Qqf _ rfl⟩
def qx6:qqb X (.builtin "len") (λxs H Q=>∃p ys,xs=[.ref p]/\(SqL X.K H p ys\/SqT X.K H p ys)/\Q (.int ys.length) H):=by
 intro pins s σ H xs i Q I r h;obtain⟨p,ys,rfl,d,q⟩:=h;obtain⟨u,rfl,f⟩:=vals1 r;cases f;have hn:=qaf;rcases d with d|d
 ·obtain⟨e,r',pl,g⟩:=I.list d;have c:=r'.length;exact Calls.call_len_list pl.isList (by simp only[Qqc]<;>omega) ⟨.int ys.length,H,I.tok _,⟨s.toks+1,by rw[Qqc,c]⟩,q⟩
 ·obtain⟨e,r',pl,g⟩:=I.tuple d;have c:=r'.length;exact len_tuple pl (by simp only[Qqc]<;>omega) ⟨.int ys.length,H,I.tok _,⟨s.toks+1,by rw[Qqc,c]⟩,q⟩
def qx5:qqb X (.type "list") (λxs H Q=>∃p ys,xs=[.ref p]/\(SqL X.K H p ys\/SqT X.K H p ys)/\∀l,H l=B->Q (.ref l) (upd H l (.lst ys))):=by
 intro pins s σ H xs t Q I r h;obtain⟨p,ys,rfl,g,q⟩:=h;obtain⟨u,rfl,m⟩:=vals1 r;cases m;have j:∀(c:L Y8),Vals ys c->ys.length<=sizeLine->∀(h':Heap) (d:Y0),(∀b o',s.heap.get? b=Y o'->h'.get? b=Y o')->
   h'.get? s.heap.objs.size=Y { cls:=.type "list",dict:=B,data:=.seq c.toArray d,slots:=#[] }->EP X pins σ Q ?qd { s with heap:=h' }:=λc r' f h' d kp e=>
  ⟨.ref s.heap.objs.size,_,I.laid kp (Qqv _) (show ObjOk X.prog X.w _ h' _ (.lst ys) from⟨f,c,d,r',e⟩),rfl,q _ (I.hok.fresh (Qqv _))⟩
 rcases g with g|g
 ·obtain⟨c,r',pl,f⟩:=I.list g;have i:=r'.length;obtain⟨o,k,hc,n,hd⟩:=pl.isList;exact call_list_seq p ?qp k hc hd (λh' d kp e=>j c r' f h' d kp e) (by simp only[Qqc]<;>omega)
 ·obtain⟨c,r',pl,f⟩:=I.tuple g;have i:=r'.length;obtain⟨o,k,hc,n,hd⟩:=pl;exact call_list_seq p (.inr rfl) k hc hd (λh' d kp e=>j c r' f h' d kp e) (by simp only[Qqc]<;>omega)
def qxh:qqb X (.type "tuple") (λxs H Q=>∃p ys,xs=[.ref p]/\((SqL X.K H p ys/\∀l,H l=B->Q (.ref l) (upd H l (.tup ys)))\/(SqT X.K H p ys/\Q (.ref p) H))):=by
 intro pins s σ H xs m Q I r h;obtain⟨p,ys,rfl,h⟩:=h;obtain⟨u,rfl,j⟩:=vals1 r;cases j;rcases h with⟨d,q⟩|⟨d,q⟩
 ·obtain⟨c,r',pl,f⟩:=I.list d;have g:=r'.length;refine call_tuple_list pl.isList (λh' kp=>?_) (by simp only[Qqc]<;>omega);have i:=I.kept (t':=s.toks) kp;have k:=
   i.laid (t':=s.toks) (λb o e=>Qqx _ e) (Qqv _) (show ObjOk X.prog X.w _ _ _ (.tup ys) from⟨f,c,r',IsTup.new _ _⟩)
  exact⟨.ref h'.objs.size,_,k,rfl,q _ (i.hok.fresh (Qqv _))⟩
 ·obtain⟨c,r',pl,f⟩:=I.tuple d;exact call_tuple_same pl ⟨.ref p,H,I,rfl,q⟩
def tyV(K:Qqq)(T:String)(x:V)(H:Hp):Prop:=match x with
 |.str _=>T = "str"
 |.int _=>T = "int"
 |.ref p=>(T = "list"/\∃xs,SqL K H p xs)\/(T = "tuple"/\∃o,K.lookup p=Y o/\o.cls=.type "tuple"/\o.dict=B)\/
   (T = "dict"/\((∃kvs,H p=Y (.dK kvs))\/∃kvs,H p=Y (.dT kvs)))\/(T = "set"/\∃S n,H p=Y (.set S n))
 |_=>False
def tyV_is(I:Inv X d g H s)(r:RelV x v)(ty:tyV X.K T x H):
  s.TypeIs v T/\∀a,v=.ref a->∃ob,s.heap.get? a=Y ob/\ob.dict=none:=by
 cases x with
 |str z=>
  obtain⟨t,rfl⟩:=r;cases (ty);exact⟨typeIs_str s z t,λ_ e=>nomatch e⟩
 |int i=>
  obtain⟨t,rfl⟩:=r;cases (ty);exact⟨typeIs_int s i t,λ_ e=>nomatch e⟩
 |ref p=>
  cases r;rcases ty with⟨rfl,xs,j⟩|⟨rfl,o,hk,hc,hd⟩|⟨rfl,hk⟩|⟨rfl,S,n,hk⟩
  ·obtain⟨h,_,pl,_⟩:=I.list j;refine⟨pl.isList.typeIs,λa e=>?_⟩;cases e;obtain⟨o,n,e,c,hd,_⟩:=pl;exact⟨o,e,hd⟩
  ·refine⟨⟨o,I.kIn p o hk,hc⟩,λa e=>?_⟩;cases e;exact⟨o,I.kIn _ o hk,hd⟩
  ·have z:∃o,s.heap.get? p=Y o/\o.ExactDict:=by
    rcases hk with⟨kvs,hk⟩|⟨kvs,hk⟩
    ·obtain⟨_,_,_,_,o,_,_,e,ex,_⟩:=I.hok p _ hk;exact⟨o,e,ex⟩
    ·obtain⟨_,_,_,_,o,_,_,e,ex,_⟩:=I.hok p _ hk;exact⟨o,e,ex⟩
   obtain⟨o,e,ex⟩:=z;refine⟨⟨o,e,ex.1⟩,λa f=>?_⟩;cases f;exact⟨o,e,ex.2.1⟩
  ·obtain⟨o,_,_,_,e,ex,_⟩:=I.hok p _ hk;refine⟨⟨o,e,ex.1⟩,λa f=>?_⟩;cases f;exact⟨o,e,ex.2.1⟩
 |_=>exact False.elim ty
noncomputable def tBM(K:Qqq)(T:String)(r:V->L V->Hp->VK->Prop)(to:TE)(t:TA):TE:=λσ H Q=>to σ H λx H1=>tyV K T x H1/\t σ H1 λxs H2=>r x xs H2 Q
variable {o e:Expr}{es:L Expr}{to:TE}{t:TA}{name:Y5}{apos cpos:Pos}{T id:String}{r:V->L V->Hp->VK->Prop}
def qdp(q:PlainAttrs T)(slot:Slot T name id)(i:typeOf (.builtin id)=pure (.type "method_descriptor"))(w:MtR X id r)(u:PE X o to)(y:PA X (e::es) t)
  (f:Zz o name X.env (Qa o X.env)=Qa o X.env:=by rfl)
  (g:((backTo cpos (starEach (e::es) X.env)).all (λx=>!x.1)&&(backToKw cpos (keywordEach [] X.env)).all (λx=>x.1.isSome)
   && decide ((e::es).length+([]:L Zp).length+(if ([]:L Zp).isEmpty then 0 else 1)<30))=true:=by rfl)
  (d:(apos.endLine==cpos.line)=true:=by rfl) (hs:starEach (e::es) X.env=(Y6,Qa e X.env)::starEach es X.env:=by rfl) (c:(backTo cpos (starEach es X.env)).any (·.1)=false:=by rfl) :
  PE X (.Call (.Attribute o name apos) (e::es) [] cpos) (tBM X.K T r to t):=by
 intro pins s σ H Q I h;refine wpAny_Call_method_late f g d rfl (thn (u pins s σ H _ I h) λv m ⟨x,H1,j,r1,ty,p⟩=>?_);obtain⟨h1,h2⟩:=tyV_is j r1 ty;refine⟨T,id,q,slot,i,h1,h2,?_⟩;have hA:=y cpos pins m σ H1 _ j p;rw[hs]at hA ⊢;refine Calls.callWith_builtin (by show(Y6||(backTo cpos (starEach es X.env)).any (·.1))=Y6; rw[c]<;>rfl) (Calls.evalArgs_plain ?_);exact thn hA λk l ⟨vs,H2,z,r2,n⟩=>w pins l σ H2 x vs v k Q z r1 r2 n
end
def MtM(X:Cx)(id:String)(r:V->L V->Hp->VK->Prop):Prop:=
 ∀(pins:L ?qm) (s:Qz) (σ:St) (H:Hp) (x:V) (xs:L V) (v:Y8) (us:L Y8) (Q:VK),Inv X pins σ H s->RelV x v->Vals xs us->r x xs H Q->
  wpAny ?d X.A (call (.builtin id) (v::us)) (EP X pins σ Q) X.xe s
def Vals.one(r:Vals [x] us):∃u,us=[u]/\RelV x u:=vals1 r
def Vals.two(r:Vals [x,y] us):∃u v,us=[u,v]/\RelV x u/\RelV y v:=vals2 r
theorem Vals.eraseIdx:∀{xs:L V}{us:L Y8}(i:Y0),Vals xs us->Vals (xs.eraseIdx i) (us.eraseIdx i)
 |_,_,_,.nil=>.nil
 |_,_,0,.cons _ t=>t
 |_,_,i+1,.cons r t=>.cons r (Vals.eraseIdx i t)
theorem Vals.rep(h:Vals xs us):∀k:Y0,Vals (List.replicate k xs).flatten (List.replicate k us).flatten
 |0=>.nil
 |k+1=>by
  rw[Qz4,Qz4,Qxd,Qxd];exact Vals.append h (Vals.rep h k)
theorem qwj{α:Type}:∀(l:L α) (i:Y0),(l.eraseIdx i).length<=l.length
 |[],_=>Qqv _
 |_::_,0=>Qxh _
 |_::r,i+1=>Nat.succ_le_succ (qwj r i)
theorem foldl_rep(its):∀(k:Y0) (a:L Y8),
  List.foldl (λb x2=>b++x2) a.toArray (List.replicate k its.toArray)=(a++(List.replicate k its).flatten).toArray
 |0,a=>by simp
 |k+1,a=>by
  have e:a.toArray++its.toArray=(a++its).toArray:=by simp
  have c:(a++its)++(List.replicate k its).flatten=a++(List.replicate (k+1) its).flatten:=by
   rw[Qz4,Qxd,Qzz]
  rw[<- c,<- foldl_rep its k (a++its),<- e,Qz4,Qjp]
section
def Inv.lset{a:L Y8}(I:Inv X pins σ H s)(g:H l=Y (.lst xs))(e:s.heap.get? l=Y { cls:=.type "list",data:=.seq a.toArray n })(hf:f a.toArray=its'.toArray)(hv:Vals ys its')(c:ys.length<=sizeLine):
  Inv X pins σ (upd H l (.lst ys)) { s with heap:=s.heap.update l (Obj.mapSeq f),toks:=t' }:=by
 have q:=PySem.IsL.update e f;rw[hf]at q;refine I.write (by rw[g]; exact trivial) ?qp (λb' u hb d=>(Qjb s.heap (Obj.mapSeq f) (Ne.symm hb)).trans d) ⟨_,q⟩ ?_;exact⟨c,its',_,hv,q⟩
def Inv.lnew(I:Inv X pins σ H s)(hv:Vals ys a)(c:ys.length<=sizeLine):
  Inv X pins σ (upd H s.heap.objs.size (.lst ys)) { s with heap:=s.heap.push { cls:=.type "list",data:=.seq a.toArray },toks:=t' }:=
 I.laid (λ_ _ q=>Qqx _ q) (Qqv _) ⟨c,a,0,hv,Qqf _ rfl⟩
theorem Inv.fresh(I:Inv X pins σ H s):H s.heap.objs.size=none:=I.hok.fresh (Qqv _)
def Inv.lstM(I:Inv X pins σ H s)(c:H l=Y (.lst xs)):xs.length<=sizeLine/\∃(a:L Y8) (n:Y0),Vals xs a/\xs.length=a.length/\s.heap.get? l=Y { cls:=.type "list",data:=.seq a.toArray n }:=by
 obtain⟨z,a,n,r,e⟩:=I.hok l _ c;exact⟨z,a,n,r,r.length,e⟩
def qav(h:n<=sizeLine):Builtin.List.listTooLong n=false:=by
 unfold Builtin.List.listTooLong;exact Z4 (by omega)
end
section
def qm7:V->L V->Hp->VK->Prop:=λx vs H Q=>∃l xs y,x=.ref l/\vs=[y]/\H l=Y (.lst xs)/\xs.length<sizeLine/\Q .non (upd H l (.lst (xs++[y])))
def qd9:MtM X "list.append" qm7:=by
 intro pins s σ H x vs v g Q I c d h;obtain⟨l,xs,y,rfl,rfl,b,i,q⟩:=h;cases c;obtain⟨u,rfl,f⟩:=d.one;obtain⟨z,a,n,r,hl,e⟩:=I.lstM b;refine Qr F.slot_list_append ⟨_,e,rfl⟩ F.entry_list_append (F.args_list_append_2 _ _) (PySem.list_append l a.toArray n u (by rw[Qqc]; omega)) ⟨e,?_⟩;refine⟨.non,_,I.lset b e (by simp) (r.append (.cons f .nil)) ?_,rfl,q⟩;rw[Qql,Qxy];omega
def rPopAt:V->L V->Hp->VK->Prop:=λx vs H Q=>∃l xs i k y,x=.ref l/\vs=[.int i]/\H l=Y (.lst xs)/\-(2 ^ 63)<=i/\i<2 ^ 63/\seqIndex? i xs.length=Y k/\xs[k]?=Y y/\Q y (upd H l (.lst (xs.eraseIdx k)))
def qhp:MtM X "list.pop" rPopAt:=by
 intro pins s σ H x vs v o Q I d f h;obtain⟨l,xs,i,k,y,rfl,rfl,c,h1,h2,hk,j,q⟩:=h;cases d;obtain⟨u,rfl,g⟩:=f.one;obtain⟨t,rfl⟩:=g;obtain⟨z,a,n,r,hl,e⟩:=I.lstM c;obtain⟨w,m,b⟩:=r.get j;refine Qr F.slot_list_pop ⟨_,e,rfl⟩ F.entry_list_pop (F.args_list_pop_2 _ _)
  (MeetsSeq.list_pop_at l a.toArray n i t k w (fitsIndex_both h1 h2) (by rw[Qqc,<- hl]; exact hk) (by rw[<- Qq1]; exact m) (by rw[Qqc]; omega)) ⟨e,?_⟩
 refine⟨y,_,I.lset c e ?_ (r.eraseIdx k) ?_,b,q⟩
 ·rw[List.eraseIdxIfInBounds_toArray]
 ·have:=qwj xs k;omega
def len_rep{α:Type}(xs:L α)(k):(List.replicate k xs).flatten.length=k*xs.length:=by
 induction k with
 |zero=>simp
 |succ k a=>rw[Qz4,Qxd,Qql,a,Nat.succ_mul,Nat.add_comm]
end
section
end
section
end
end L2
namespace Att
open PySem PySem.W PySem.Calls PyProof.Rows
def qj6:∀(ns:L J) (vs:L Y8),WellAll P h vs (ns.map WData.int)->Zr vs ns:=by
 intro ns
 induction ns with
 |nil=>
  intro vs w;rw[Qx7]at w;cases w;exact .nil
 |cons n ns c=>
  intro vs w;rw[Qqg]at w
  cases w with
  |cons a b=>
   cases a;exact .cons _ _ (c _ b)
def qdv{l:OpenLaw}(p:l.most=Y n)(c:l.row.toRowW.claim.pre args=O)(j:WellAll P h b args):
  ∃a vs ns,b=[Value.ref a]/\args=[WData.list (ns.map WData.int)]/\h.get? a=Y { cls:=.type "list",data:=.seq vs.toArray }/\Zr vs ns/\ns.length<=n:=by
 have k:=(pre_splitW c).1;have hc:l.pre.holds [] { args:=args }=true:=(pre_splitW c).2;obtain⟨d,r,rfl,h1,h2⟩:=hasAllW_cons k;obtain rfl:=hasAllW_nil h2;obtain⟨xs,rfl,s⟩:=hasW_list h1;obtain⟨ns,rfl⟩:=items_int s;have e:ns.length<=n:=by
  unfold OpenLaw.pre at hc;have i:(WTm.not (.lt (.lit (.int (n:J))) (.len (.arg 0)))).holds [] { args:=[.list (ns.map .int)] }=true:=by
   have i:=(holds_andW hc).1;rw[p]at i;exact i
  have g:=condW_of i (w_not (w_lt w_lit (w_len_list (w_arg rfl))));rw[Qqz]at g;refine Nat.le_of_not_lt λq=>?_;have m:(n:J)<((ns.length:Y0):J):=by omega
  first
   |(rw[Z3 m]at g; exact absurd g (by decide))
   |(simp at g; omega)
 cases j with
 |cons w1 w2=>
  cases w2
  cases w1 with
  |list o f=>exact⟨_,_,ns,rfl,rfl,o,qj6 ns _ f,e⟩
def qdi(l:OpenLaw)(args):l.row.toRowW.claim.post args (.bool O) args=true:=
 postW_of
  (by first|rfl|decide|simp[WShape.has,WShape.arms,WShape.armsAll])
  (show(WTm.eq .res (.lit (.bool O))).value [] { args:=args,res:=Y (.bool O),after:=args }=Y (.bool (O==O)) from w_eq_bool (w_res rfl) w_lit) rfl
def attach_call{l:OpenLaw}(E:l.most=Y n)(t:d.params.defaults=[])(call:∀(w:Qj) (s₀ b:Qz) (mg m:Y5->Y3 Y8) (i:Y7) (o:Obj) (k j doc:Y8) (a:Y7) (vs:L Y8) (ns:L J),
   Ground q loose [] XP w s₀ mg m b.heap->YP w b.heap->
   b.heap.get? i=Y o->o.data=.func (docDef d.name d.params d.body d.scope k j doc)->b.heap.CodeRec j d.name->mg d.name=Y (.ref i)->
   b.heap.get? a=Y { cls:=.type "list",data:=.seq vs.toArray }->Zr vs ns->ns.length<=n->b.gens=#[]->
   Zc (model l.prog w) Zs (.call (.ref i) ⟨[.ref a],[]⟩) (λr s'=>r=.ok (.ret (.bool O))/\OldK b.heap s'.heap/\s'.os=b.os/\Zm s'.gens) b):
  WalkO q loose XP YP l.row.toRowW d [] (λf vs=>PySem.call f vs):=by
 intro w s₀ b mg m G Q i o k j doc P kV D hd u y s I z v R e x A p H;obtain rfl:P=.none:=Dflts.none y t;obtain rfl:kV=.none:=Dflts.noKw y;obtain⟨a,vs,ns,rfl,rfl,g,c,h⟩:=qdv E e p;refine enter_call (Q3 (call w s₀ b mg m i o k j doc a vs ns G Q D (fd_plain hd) u s g c h I) λr s' C=>?_);obtain⟨rfl,h2,N,K⟩:=C;exact⟨.inl ⟨.bool O,.bool O,[],rfl,λ_=>rfl,.bool O,qdi l _,λ_=>⟨List.Pairwise.nil,λ_ F=>(nomatch F)⟩⟩,h2,N,K⟩
section
end
end Att
namespace L2
open PySem PySem.Spec PyProof.Rows
theorem qxz:∀{vs}{ns},Zr vs ns->Vals (ns.map V.int) vs
 |_,_,.nil=>.nil
 |_,_,.cons n t h=>.cons ⟨t,rfl⟩ (qxz h)
def Only(H:Hp):Prop:=∀b,H b=B\/∃o xs,H b=Y (.frz o (.lst xs))
def qh0{K:Qqq}(KX:K.In s₁.heap)(t:s₁.heap.Ns mainGlobals mg)(hb:s₁.heap.Ns builtinsNs E)(I:∀x:Y5,x ≠ "__name__"->E x=Qc x)(y:s₁.heap.NoLimit)(hg:s₁.gens=#[])(C:s₁.heap.get? a=Y { cls:=.type "list",data:=.seq vs.toArray })(U:Zr vs ns)(hl:ns.length<=sizeLine)(hr:Room k Zs)(F:∀base:Heap,K.In base->base.Ns mainGlobals mg->FnOk P w K mg base CX k Q X [x] S)(i:∀(s:Qz) (u:Y8),BindsTo s X ⟨[u],[]⟩ [(x,u)])(G:∀H:Hp,Only H->SqL K H a (ns.map V.int)->S [.ref a] H (λv _=>v=.bl O) λ_ _ _=>False)(N:∀H e s',CX [] H s₁ (λ_ _ _=>False) e s'->False):
  Zc (model P w) Zs (.call (.ref Q) ⟨[.ref a],[]⟩) (λr s'=>r=.ok (.ret (.bool O))/\OldK s₁.heap s'.heap/\s'.os=s₁.os/\Zm s'.gens) s₁:=by
 have T:=qxz U;have l:=U.length;have g:∀H:Hp,Only H->SqL K H a (ns.map V.int)->HOk P w H s₁.heap->(∀b,H b≠B->b=a)->(H a≠B->K.lookup a=B)->
   Zc (model P w) Zs (.call (.ref Q) ⟨[.ref a],[]⟩) (λr s'=>r=.ok (.ret (.bool O))/\OldK s₁.heap s'.heap/\s'.os=s₁.os/\Zm s'.gens) s₁:=by
  intro H W hS hok hA hK;have c:∀{b:Y7}{o:Obj},s₁.heap.get? b=Y o->H b=B->(hidT s₁.heap H).get? b=Y o:=λe n=>qh8 e n;have D:∀{b:Y7}{o:Obj}{es:Array Q1}{ep:Y0},s₁.heap.get? b=Y o->o.data=.dict es ep->H b=none:=λ{b o es ep} e d=>by
   cases q:H b with
   |none=>rfl
   |some u=>
    have R:=hA b (by rw[q]; simp);subst R;rw[C]at e; cases e;have d':=d;cases d'
  have f:∀{b:Y7}{m:Y5->Y3 Y8},s₁.heap.Ns b m->(hidT s₁.heap H).Ns b m:=λ{b m} ⟨o,es,ep,e,d,r⟩=>⟨o,es,ep,c e (D e d),d,r⟩
  have A:=λb o e=>c (KX b o e) (by
   cases q:H b with
   |none=>rfl
   |some u=>
    have R:=hA b (by rw[q]; simp);subst R
    rw[hK (by rw[q]; simp)]at e; cases e)
  have hM:Mod K mg (hidT s₁.heap H):=⟨A,f t,⟨E,f hb,I⟩,let ⟨mc,h1,h2⟩:=y; ⟨mc,f h1,h2⟩⟩
  have e0:Env0 P w K mg (hidT s₁.heap H) Zs [] s₁ H:=⟨rfl,hM,λb o e=>qn3 e,Nat.le_of_eq (qer _ _),trivial,λb hb=>absurd (show b∈([]:L Y7) from hb) (by simp),hok,.of_eq hg⟩
  refine Q3 ((F _ A (f t)).run Zs [] s₁ H ⟨[.ref a],[]⟩ [.ref a] [.ref a] _ _ hr e0 (i s₁ (.ref a)) (.cons rfl .nil) (G H W hS)) λr s' h=>?_
  cases r with
  |error e=>exact(N H e s' h).elim
  |ok fl=>
   cases fl with
   |next=>exact False.elim h
   |brk=>exact False.elim h
   |cont=>exact False.elim h
   |ret u=>
    obtain⟨v,H',os,bare,un,p,r',q⟩:=h;have q':=q;subst q';obtain rfl:u=Value.bool true:=r';refine⟨rfl,OldK.of_keep λb o e=>?_,os,bare⟩
    cases q:H b with
    |none=>exact un.keep b o e q (by intro z; exact absurd (show b∈([]:L Y7) from z) (by simp)) (by simp)
    |some u=>
     rcases W b with z|⟨ob,xs,z⟩
     ·rw[q]at z; cases z
     ·have z2:=un.frzs b ob _ z;obtain⟨e1,_⟩:=hok b _ z;obtain⟨e2,_⟩:=p b _ z2;rw[e]at e1; cases e1;exact e2
 cases hk:K.lookup a with
 |some o=>
  have e:=KX a o hk;rw[C]at e;cases e;refine g (λ_=>B) (λ_=>.inl rfl) (.inr ⟨_,vs.toArray,_,hk,rfl,rfl,rfl,by rw[Qqc,l]; exact hl,by simpa using T⟩) (λb u z=>by have j:=z; cases j) (λb z=>absurd rfl z) λz=>absurd rfl z
 |none=>
  refine g (λb=>if b=a then Y (.frz { cls:=.type "list",data:=.seq vs.toArray } (.lst (ns.map V.int))) else B) (λb=>?_) (.inl (.inr ⟨{ cls:=.type "list",data:=.seq vs.toArray },Z6 rfl⟩)) (λb u z=>?_) (λb z=>?_) λ_=>hk
  ·by_cases hb:b=a
   ·exact .inr ⟨_,_,Z6 hb⟩
   ·exact .inl (Z5 hb)
  ·by_cases hb:b=a
   ·have j:=(Z6 hb).symm.trans z;cases j;subst hb;exact⟨C,by rw[Qqz]; exact hl,vs,_,T,C⟩
   ·have j:=(Z5 hb).symm.trans z;cases j
  ·by_cases hb:b=a
   ·exact hb
   ·exact absurd (Z5 hb) z
def walk_of{l:PySem.W.OpenLaw}{K:Qp->Qqq}{D:Qj->CXT}{A:Qj->Sp}(E:l.most=Y n)(r:n<=sizeLine)(y:d.params.defaults=[])(hr:Room k Zs)(P:∀(w:Qj) (h:Heap),YP w h->(K w.params).In h)(F:∀(w:Qj) (mg:Y5->Y3 Y8) (j:Y7) (h:Heap),(K w.params).In h->h.Ns mainGlobals mg->mg d.name=Y (.ref j)->
   ∃fd:Qm,(∀(s:Qz) (u:Y8),BindsTo s fd ⟨[u],[]⟩ [(x,u)])/\
    ∀base:Heap,(K w.params).In base->base.Ns mainGlobals mg->FnOk l.prog w (K w.params) mg base (D w) k j fd [x] (A w))(p:∀(w:Qj) (H:Hp) (a:Y7) (ns:L J),ns.length<=n->Only H->SqL (K w.params) H a (ns.map V.int)->A w [.ref a] H (λv _=>v=.bl O) λ_ _ _=>False)(z:∀(w:Qj) (H:Hp) (s:Qz) (e:Y8) (m:Qz),D w [] H s (λ_ _ _=>False) e m->False):
  PySem.W.WalkO q loose XP YP l.row.toRowW d [] (λf vs=>PySem.call f vs):=by
 refine Att.attach_call E y λw s₀ g mg U j o T X doc a vs ns G S W hd N t i c b I=>?_;have C:=P w _ S;obtain⟨fd,hb,R⟩:=F w mg j _ C G.T.g t;exact qh0 C G.T.g G.T.b G.T.builtins G.T.nolimit I i c (Qzh b r) hr R hb (λH Q hS=>p w H a ns b Q hS) λH e m=>z w H g e m
noncomputable abbrev CX0:CXT:=λ_ _ _ _ _ _=>False
noncomputable abbrev E0:XK:=λ_ _ _=>False
def qhl:qkv CX0 X E0:=λ_ _ _ _ _ _ _ h=>h.elim
structure Fun (K:Qqq) (x qual:Y5) (st:Stmt) (f:Y7) (fd:Qm):Prop where
 ex:∃(oc:Y8) (od:Y3 Y7) (kV doc pm:Y8) (an:Y3 Y7) (cdv ct:Y8) (osl:Array (Y3 Y8)),
  fd=PySem.W.fnOf x qual (qqd st) (qzu st) (qza st) .none kV doc pm an cdv ct/\K.lookup f=Y ⟨oc,od,.func fd,osl⟩/\PySem.W.codeIn K cdv qual=O
 kp:Qz2 K (.ref f)=O
section
variable {P:Program}{w:Qj}{K:Qqq}{mg:Y5->Y3 Y8}{base:Heap}
def Fun.ok{st:Stmt}(F:Fun K x a st f g)(S:FnScope N ps (qza st))(len:∀vs H Q E,sp vs H Q E->vs.length=ps.length)(c:∀(b:Y8) (A:Qk) (outer:L Env) (s:Qz) (H:Hp) (vs:L V) (Q:VK) (E:XK),Room k (A.deeper (envOfC a (qza st) s.heap.objs.size f b))->sp vs H Q E->
   ∃t,PSs (cxOf CX0 P w K mg base N a (qza st) f b A outer s H E).nox (qzu st) t/\t { nx:=λ_ H'=>Q .non H',rt:=Q } (start N vs) H):FnOk P w K mg base CX0 (k+1) f g ps sp:=by
 obtain⟨m,l,kV,doc,j,an,b,ct,i,rfl,lk,e⟩:=F.ex;refine fn_of lk e S len λA outer s H vs Q E hr d=>?_;obtain⟨t,h,q⟩:=c b A outer s H vs Q E hr d;exact⟨t,h.nox,q⟩
def Fun.binds{st:Stmt}(F:Fun K x a st f d)(h:∀(kV doc c:Y8) (an:Y3 Y7) (b ct:Y8) (us:L Y8),us.length=ps.length->bindArgs (PySem.W.fnOf x a (qqd st) (qzu st) (qza st) .none kV doc c an b ct) ⟨us,[]⟩=pure (ps.zip us)):Binds K d ps []:=by
 obtain⟨j,i,kV,doc,c,an,b,ct,e,rfl,lk,g⟩:=F.ex;exact .all (h kV doc c an b ct)
def qwc{st:Stmt}{kV:Y8}(l:K.lookup f=Y ⟨h,g,.func (PySem.W.fnOf x a (qqd st) (qzu st) (qza st) .none kV doc e an b ct),d⟩)(c:PySem.W.codeIn K b a=O)(k:Qz2 K (.ref f)=O):Fun K x a st f (PySem.W.fnOf x a (qqd st) (qzu st) (qza st) .none kV doc e an b ct):=⟨⟨h,g,kV,doc,e,an,b,ct,d,rfl,l,c⟩,k⟩
end
def qdx(h:n<=1000):n<sizeLine:=Qxu h (by decide)
section
end
def Same(H H':Hp):Prop:=∀b o,H b=Y o->H' b=Y o
end L2
end
section
namespace L2
open PySem PySem.Spec PyProof.Rows
section
variable [DecidableEq κ]
noncomputable def valV(kvs:L (κ×V))(k:κ):Y3 V:=(kvs.find? λkv=>decide (kv.1=k)).map (·.2)
noncomputable def putK(kvs:L (κ×V))(k:κ)(v:V):L (κ×V):=
 if (kvs.any λkv=>decide (kv.1=k))=O then kvs.map (λkv=>if kv.1=k then(kv.1,v) else kv) else kvs++[(k,v)]
noncomputable def qwf(kvs:L (κ×V))(k:κ):L (κ×V):=kvs.filter λkv=>decide (kv.1≠k)
def qjq{r:L (κ×V)}(e:p.1=k):valV (p::r) k=Y p.2:=by simp[valV,Qzq,e]
def qjx{r:L (κ×V)}(e:¬ p.1=k):valV (p::r) k=valV r k:=by simp[valV,Qzq,e]
theorem qyp(k):∀kvs:L (κ×V),(kvs.any λkv=>decide (kv.1=k))=(valV kvs k).isSome
 |[]=>rfl
 |p::r=>by
  rw[Qxf]
  by_cases e:p.1=k
  ·simp only[qjq e,Z3 e,Bool.true_or,Option.isSome_some]
  ·rw[qjx e,Z4 e,Bool.false_or]; exact qyp k r
def qq5(kvs:L (κ×V))(k)(v):(putK kvs k v).length<=kvs.length+1:=by
 unfold putK
 split
 ·rw[Qqz]; omega
 ·rw[Qql,Qqh,Qky]; omega
def RelO.isSome_eq(r:RelO o u):o.isSome=u.isSome:=by
 cases o with
 |none=>cases u with
  |none=>rfl
  |some _=>exact(r).elim
 |some _=>cases u with
  |none=>exact(r).elim
  |some _=>rfl
theorem RelO.getD(r:RelO o u)(rd:RelV d d'):RelV (o.getD d) (u.getD d'):=by
 cases o with
 |none=>cases u with
  |none=>exact rd
  |some _=>exact(r).elim
 |some _=>cases u with
  |none=>exact(r).elim
  |some _=>exact r
def KV.val(r:KV kvs vs)(k:κ):RelO (valV kvs k) (valueAt vs k):=by
 unfold KV at r
 induction r with
 |nil=>exact True.intro
 |@cons p q ps a h t d=>
  obtain⟨h1,h2⟩:=h
  by_cases e:p.1=k
  ·have c:=h1.symm.trans e;have b:valueAt (q::a) k=Y q.2:=by simp[valueAt,Qzq,c]
   rw[qjq e,b]; exact h2
  ·have c:¬ q.1=k:=λz=>e (h1.trans z);have b:valueAt (q::a) k=valueAt a k:=by simp[valueAt,Qzq,c]
   rw[qjx e,b]; exact d
theorem KV.any(r:KV kvs vs)(k:κ):(kvs.any λkv=>decide (kv.1=k))=vs.any λkv=>decide (kv.1=k):=by
 unfold KV at r
 induction r with
 |nil=>rfl
 |cons h t a=>rw[Qxf,Qxf,a,h.1]
def KV.repl{vs:L (κ×Y8)}(r:KV kvs vs)(k)(a:RelV y u):
  KV (kvs.map λkv=>if kv.1=k then(kv.1,y) else kv) (vs.map λkv=>if kv.1=k then(kv.1,u) else kv):=by
 unfold KV at r ⊢
 induction r with
 |nil=>exact .nil
 |@cons p q ps c h t b=>
  rw[Qqg,Qqg];refine .cons ?_ b;obtain⟨h1,h2⟩:=h
  by_cases e:p.1=k
  ·rw[Z6 e,Z6 (h1.symm.trans e)]; exact⟨h1,a⟩
  ·rw[Z5 e,Z5 (λz=>e (h1.trans z))]; exact⟨h1,h2⟩
def KV.put{vs:L (κ×Y8)}(r:KV kvs vs)(k)(a:RelV y u):KV (putK kvs k y) (stored vs k u):=by
 unfold putK stored;rw[r.any k]
 by_cases e:(vs.any λkv=>decide (kv.1=k))=O
 ·rw[Z6 e,Z6 e]; exact r.repl k a
 ·rw[Z5 e,Z5 e]; exact Paired.snoc r ⟨rfl,a⟩
def KV.drop(r:KV kvs vs)(k:κ):KV (qwf kvs k) (without vs k):=by
 unfold KV at r ⊢;unfold qwf without
 induction r with
 |nil=>exact .nil
 |@cons p q ps f h t c=>
  obtain⟨h1,h2⟩:=h;rw[Qqo,Qqo]
  by_cases e:p.1=k
  ·have a:¬ decide (p.1≠k)=true:=by simp[e]
   have b:¬ decide (q.1≠k)=true:=by simp[h1.symm.trans e]
   rw[Z5 a,Z5 b]; exact c
  ·have d:¬ q.1=k:=λz=>e (h1.trans z);have a:decide (p.1≠k)=true:=by simp[e]
   have b:decide (q.1≠k)=true:=by simp[d]
   rw[Z6 a,Z6 b]; exact .cons ⟨h1,h2⟩ c
def KV.keys{vs:L (κ×Y8)}(r:KV kvs vs):kvs.map (·.1)=vs.map (·.1):=by
 unfold KV at r
 induction r with
 |nil=>rfl
 |cons h t a=>rw[Qqg,Qqg,a,h.1]
theorem KV.length{vs:L (κ×Y8)}(r:KV kvs vs):kvs.length=vs.length:=Paired.length r
def dropK_le(kvs:L (κ×V))(k):(qwf kvs k).length<=kvs.length:=Qzd _ _
end
def qjz(r:RelV (kV k) u):(mixKind P w).is k u=true:=by
 cases k with
 |inl i=>obtain⟨t,e⟩:=(r); subst e; exact qyx P w i t
 |inr x=>obtain⟨t,e⟩:=(r); subst e; exact qq4 P w x t
theorem qwk:∀{ks}{us},Vals (ks.map kV) us->ItemsAre (mixKind P w) ks us
 |[],_,r=>by rw[Qx7]at r; cases r; exact .nil
 |k::ks,_,r=>by
  rw[Qqg]at r
  cases r with
  |cons h t=>exact .cons (qjz h) (qwk t)
abbrev KT(H:Hp):L (L Key×V)->L (L Key×Y7×Y8)->Prop:=Paired λp q=>p.1=q.1/\H q.2.1=Y (.tup (p.1.map kV))/\RelV p.2 q.2.2
def KT.val(r:KT H kvs xs)(k):RelO (valV kvs k) ((atKey xs k).map (·.2)):=by
 induction r with
 |nil=>exact True.intro
 |@cons p q ps a h t d=>
  obtain⟨h1,_,h2⟩:=h
  by_cases e:p.1=k
  ·have c:=h1.symm.trans e;have b:atKey (q::a) k=Y q.2:=by simp[atKey,Qzq,c]
   rw[qjq e,b]; exact h2
  ·have c:¬ q.1=k:=λz=>e (h1.trans z);have b:atKey (q::a) k=atKey a k:=by simp[atKey,Qzq,c]
   rw[qjx e,b]; exact d
def KT.repl(r:KT H kvs xs)(k)(a:RelV y u):
  KT H (kvs.map λkv=>if kv.1=k then(kv.1,y) else kv) (xs.map (putAt k u)):=by
 induction r with
 |nil=>exact .nil
 |@cons p q ps d h t b=>
  rw[Qqg,Qqg];refine .cons ?_ b;obtain⟨h1,h2,c⟩:=h;unfold putAt
  by_cases e:p.1=k
  ·rw[Z6 e,Z6 (h1.symm.trans e)]; exact⟨h1,h2,a⟩
  ·rw[Z5 e,Z5 (λz=>e (h1.trans z))]; exact⟨h1,h2,c⟩
def KT.put(r:KT H kvs xs)(k)(hb:H b=Y (.tup (k.map kV)))(a:RelV y u):
  KT H (putK kvs k y) (storedH xs k b u):=by
 have e:(kvs.any λkv=>decide (kv.1=k))=(atKey xs k).isSome:=by
  rw[qyp,(r.val k).isSome_eq,Qj8]
 unfold putK storedH;rw[e]
 by_cases q:(atKey xs k).isSome=O
 ·rw[Z6 q,Z6 q]; exact r.repl k a
 ·rw[Z5 q,Z5 q]; exact Paired.snoc r ⟨rfl,hb,a⟩
def KT.keeps(r:KT H kvs xs)(a:∀b ys,H b=Y (.tup ys)->H' b=Y (.tup ys)):KT H' kvs xs:=
 Paired.mapP r λ_ _ z=>⟨z.1,a _ _ z.2.1,z.2.2⟩
section
def rd_of(ok:HOk P w H h)(e:Rd H a u):ObjOk P w H h a u:=e.ok ok
def qwg(ok:HOk P w H h)(e:Rd H a (.dK kvs)):kvs.length<=sizeLine/\(a==Qn)=Y6/\∃vs,KV kvs vs/\h.DictOf (mixKind P w) a vs:=
 show ObjOk P w H h a (.dK kvs) from rd_of ok e
def qiw(ok:HOk P w H h)(e:H a=Y (.dK kvs)):kvs.length<=sizeLine/\(a==Qn)=Y6/\∃vs,KV kvs vs/\h.DictOf (mixKind P w) a vs:=qwg ok (.inl e)
def qqo(ok:HOk P w H h)(e:H a=Y (.tup (ks.map kV))):(tupleKind (mixKind P w)).is h ks a:=by
 obtain⟨_,b,r,o,h1,h2,n,c⟩:=(ok a _ e)
 exact⟨o,b.toArray,n,h1,h2,c,by simpa using qwk r⟩
def qyf(ok:HOk P w H h)(e:Rd H a (.dT kvs)):kvs.length<=sizeLine/\(a==Qn)=Y6/\
  ∃xs,KT H kvs xs/\h.DictOfH (tupleKind (mixKind P w)) a xs:=by
 obtain⟨z,y,xs,r,o,es,j,h1,h2,i,g,f⟩:=(rd_of ok e)
 refine⟨z,y,xs,r,o,es,j,h1,h2,i,g,λx b=>?_,f⟩;have all:∀{l:L (L Key×V)}{m:L (L Key×Y7×Y8)},KT H l m->∀x∈m,(tupleKind (mixKind P w)).is h x.1 x.2.1:=by
  intro l m q
  induction q with
  |nil=>intro x b; exact nomatch b
  |@cons p q ps k c t d=>
   intro x b;rcases Qqb.mp b with e|b
   ·subst e;exact qqo ok (by rw[<- c.1]; exact c.2.1)
   ·exact d x b
 exact all r x b
def dt_of(ok:HOk P w H h)(e:H a=Y (.dT kvs)):kvs.length<=sizeLine/\(a==Qn)=Y6/\
  ∃xs,KT H kvs xs/\h.DictOfH (tupleKind (mixKind P w)) a xs:=qyf ok (.inl e)
end
def DGet(H:Hp)(a:Y7)(y:V)(r:Y3 V):Prop:=
 (∃kvs k,Rd H a (.dK kvs)/\y=kV k/\r=valV kvs k)\/∃kvs k b,Rd H a (.dT kvs)/\y=.ref b/\H b=Y (.tup (k.map kV))/\r=valV kvs k
def DPut(H:Hp)(a:Y7)(y v:V)(H':Hp):Prop:=
 (∃kvs k,H a=Y (.dK kvs)/\y=kV k/\kvs.length<sizeLine/\H'=upd H a (.dK (putK kvs k v)))\/
 ∃kvs k b,H a=Y (.dT kvs)/\y=.ref b/\H b=Y (.tup (k.map kV))/\kvs.length<sizeLine/\H'=upd H a (.dT (putK kvs k v))
theorem DPut.k{H:Hp}{a:Y7}{kvs:L (Key×V)}{k:Key}{v:V}(e:H a=Y (.dK kvs))(hl:kvs.length<sizeLine):DPut H a (kV k) v (upd H a (.dK (putK kvs k v))):=.inl ⟨kvs,k,e,rfl,hl,rfl⟩
section
def Inv.big(I:Inv X pins σ H s):Qn<s.heap.objs.size:=by
 have h:=(I.mod.glob.keeps I.bk).lt;exact Nat.lt_trans (by decide) h
def qfe(t:A.units+1<cLine)(I:Inv X pins σ H s)(g:DGet H a y (Y v))(q:RelV y u)(h:∀f s',Inv X pins σ H s'->RelV v f->Q f s'):
  wpAny ?d A (Zx (.ref a) u) Q E s:=by
 rcases g with⟨kvs,k,e,m,l⟩|⟨kvs,k,b,e,m,x,l⟩
 ·subst m;obtain⟨z,hd,vs,d,n⟩:=qwg I.hok e;obtain⟨f,i,c⟩:=RelO.some_of (by rw[l]; exact d.val k);exact wpAny_getItem_of (qjz q) n.mapOf i (h f _ (I.tok _) c)
 ·subst m;cases (q);obtain⟨z,hd,xs,d,n⟩:=qyf I.hok e;obtain⟨f,i,c⟩:=RelO.some_of (by rw[l]; exact d.val k);obtain⟨p,w,j⟩:=Qqa.mp i;refine wpAny_getItem_heap (Q7 t) (qqo I.hok x) n w ?_;rw[j];exact h f _ (I.tok _) c
def d_in(j:A.units+1<cLine)(I:Inv X pins σ H s)(g:DGet H a y o)(i:RelV y u)(h:∀s',Inv X pins σ H s'->Q (.bool o.isSome) s'):
  wpAny ?d A (Qg .In u (.ref a)) Q E s:=by
 rcases g with⟨kvs,k,e,d,l⟩|⟨kvs,k,b,e,d,m,l⟩
 ·subst d;obtain⟨z,hd,vs,c,f⟩:=qwg I.hok e;refine wpAny_in_of (qjz i) hd f.mapOf ?_;rw[<- (c.val k).isSome_eq,<- l];exact h _ (I.tok _)
 ·subst d;cases (i);obtain⟨z,hd,xs,c,f⟩:=qyf I.hok e;refine wpAny_in_heap (Q7 j) (qqo I.hok m) hd f ?_;have q:=(c.val k).isSome_eq;rw[Qj8]at q;rw[<- q,<- l];exact h _ (I.tok _)
def qpz(j:A.units+1<cLine)(I:Inv X pins σ H s)(g:DGet H a y o)(i:RelV y u)(h:∀s',Inv X pins σ H s'->Q (.bool (!o.isSome)) s'):
  wpAny ?d A (Qg .NotIn u (.ref a)) Q E s:=by
 rcases g with⟨kvs,k,e,d,l⟩|⟨kvs,k,b,e,d,m,l⟩
 ·subst d;obtain⟨z,hd,vs,c,f⟩:=qwg I.hok e;refine wpAny_notIn_of (qjz i) hd f.mapOf ?_;rw[<- (c.val k).isSome_eq,<- l];exact h _ (I.tok _)
 ·subst d;cases (i);obtain⟨z,hd,xs,c,f⟩:=qyf I.hok e;refine wpAny_notIn_heap (Q7 j) (qqo I.hok m) hd f ?_;have q:=(c.val k).isSome_eq;rw[Qj8]at q;rw[<- q,<- l];exact h _ (I.tok _)
def qkq(I:Inv X pins σ H s)(c:Mut (H a))(hs:Heap.SameBut a s.heap h')(d:∃q,h'.get? a=Y q)(new:ObjOk X.prog X.w (upd H a ob) h' a ob):
  Inv X pins σ (upd H a ob) { s with heap:=h',toks:=t' }:=
 I.write c ?qp (λb q hb z=>(hs.2 b hb).trans z) d new
def dk_new(z:kvs.length<=sizeLine)(hd:(a==Qn)=Y6)(b:KV kvs vs)(c:h'.DictOf (mixKind P w) a vs):
  ObjOk P w H' h' a (.dK kvs):=⟨z,hd,vs,b,c⟩
def qfd(D:A.units+1<cLine)(I:Inv X pins σ H s)(g:DPut H a y v H')(t:RelV y u)(w:RelV v r)(h:∀s',Inv X pins σ H' s'->Q () s'):
  wpAny ?d A (setItem (.ref a) u r) Q E s:=by
 rcases g with⟨kvs,k,e,m,l,n⟩|⟨kvs,k,b,e,m,C,l,n⟩
 ·subst m n;obtain⟨z,hd,vs,d,p⟩:=qiw I.hok e;have j:vs.length<=sizeLine:=by rw[<- d.length]; exact z
  have hl:(putK kvs k v).length<=sizeLine:=by have:=qq5 kvs k v; omega
  refine wpAny_setItem_pairs (qjz t) p λh' f hs=>h _ ?_;have F:∃q,h'.get? a=Y q:=let ⟨q,_,_,i,_⟩:=f; ⟨q,i⟩;exact qkq I (by rw[e]; exact True.intro) hs F (dk_new hl hd (d.put k w) f)
 ·subst m n;cases (t);obtain⟨z,hd,xs,d,p⟩:=dt_of I.hok e;have j:xs.length<=sizeLine:=by rw[<- Paired.length d]; exact z
  have hl:(putK kvs k v).length<=sizeLine:=by have:=qq5 kvs k v; omega
  refine wpAny_setItem_heap (Q7 D) (qqo I.hok C) p λh' f hs=>h _ ?_;obtain⟨q,es,P,i,h2,N,K,_,G⟩:=f;refine qkq I (by rw[e]; exact True.intro) hs ⟨q,i⟩ ⟨hl,hd,_,(d.put k C w).keeps λc ys x=>?_,q,es,P,i,h2,N,K,G⟩;rw[qzq (qzt x e (λz=>nomatch z))];exact x
end
section
def d_delItem(I:Inv X pins σ H s)(e:H a=Y (.dK kvs))(f:RelV (kV k) u)(l:(valV kvs k).isSome=O)(h:∀s',Inv X pins σ (upd H a (.dK (qwf kvs k))) s'->Q () s'):
  wpAny ?d A (delItem (.ref a) u) Q E s:=by
 obtain⟨z,hd,vs,b,d⟩:=qiw I.hok e;refine wpAny_delItem_slot d.typeIs (by decide) PySem.F.slot_dict_delitem
  (call_meetsIn PySem.F.slot_dict_delitem d.typeIs PySem.F.entry_dict_delitem (PySem.F.args_dict_delitem_2 _ _) (meets_dict_delitem_pairs (mixKind X.prog X.w) a (qjz f)) ⟨vs,d,by rw[<- b.length]; exact z,by rw[<- (b.val k).isSome_eq]; exact l,λh' c hs=>h _ ?_⟩)
 have i:∃q,h'.get? a=Y q:=let ⟨q,_,_,g,_⟩:=c; ⟨q,g⟩;exact qkq I (by rw[e]; exact True.intro) hs i (dk_new (Qzh (dropK_le kvs k) z) hd (b.drop k) c)
def d_pop(I:Inv X pins σ H s)(e:H a=Y (.dK kvs))(f:RelV (kV k) u)(l:valV kvs k=Y v)(j:more=[]\/∃x,more=[x])(h:∀c s',Inv X pins σ (upd H a (.dK (qwf kvs k))) s'->RelV v c->Q c s'):wpAny ?d A (call (.builtin "dict.pop") (.ref a::u::more)) Q E s:=by
 obtain⟨z,hd,vs,b,m⟩:=qiw I.hok e;obtain⟨c,n,g⟩:=RelO.some_of (by rw[<- l]; exact b.val k);have r:(keyPart u).isSome=true:=by
  cases k with
  |inl i=>obtain⟨t,q⟩:=(f); subst q; rfl
  |inr x=>obtain⟨t,q⟩:=(f); subst q; rfl
 have y:argsOk "dict.pop" ⟨.ref a::u::more,[]⟩:=by
  rcases j with q|⟨x,q⟩
  ·subst q; exact PySem.F.args_dict_pop_2 _ _
  ·subst q; exact PySem.F.args_dict_pop_3 _ _ _
 refine call_meetsIn PySem.F.slot_dict_pop m.typeIs PySem.F.entry_dict_pop y (meets_dict_pop_there (mixKind X.prog X.w) a (qjz f) more j r)
  ⟨vs,c,m,by rw[<- b.length]; exact z,n,λh' d hs=>h c _ ?_ g⟩
 have w:∃q,h'.get? a=Y q:=let ⟨q,_,_,p,_⟩:=d; ⟨q,p⟩;exact qkq I (by rw[e]; exact True.intro) hs w (dk_new (Qzh (dropK_le kvs k) z) hd (b.drop k) d)
end
def NoSl(i:Expr):Prop:=∀ov iv,subscripted i Y6 ov iv=operate [ov,iv] (Zx ov iv)
def qcu(hl:typeLookup (.type T) "__getitem__" = pure (Y (.builtin l)))(hs:NoSl a)(h:wpAny ?r A (Qa b env) (λo e=>wpAny ?r A (Qa a env) (λi s₂=>s₂.TypeIs o T/\wpAny ?r A (Zx o i) Q E s₂) E e) E s):
  wpAny ?r A (Qa (.Subscript b a pos) env) Q E s:=by
 refine Subscript_ (Qh h (λo e j=>Qh j (λi s₂ c=>?_) λ_ _ x=>x) λ_ _ x=>x);obtain⟨k,c⟩:=c;unfold subscriptTail;refine Qq ?_;rw[getitemInPython_of_ne k.not_modules];refine Qq (Zy k hl ?_);have f:wpAny ?r A (subscripted a Y6 o i) (λr d=>wpAny ?r A (letTemporaryGo b o r >>= λ_=>pure r) Q E d) E s₂:=by
  rw[hs o i];exact wpAny_operating (Qh c (λr d g=>Qq (wpAny_letTemporaryGo (Qx g))) λ_ _ x=>x)
 first
  |exact Qx (Qq f)
  |exact Qq (Qx (Qq f))
  |exact Qq f
def qyg(I:Inv X c f H s)(g:DGet H a y o):s.TypeIs (.ref a) "dict":=by
 rcases g with⟨kvs,k,e,_,_⟩|⟨kvs,k,b,e,_,_,_⟩
 ·obtain⟨_,_,vs,_,d⟩:=qwg I.hok e;exact d.typeIs
 ·obtain⟨_,_,xs,_,d⟩:=qyf I.hok e;exact d.typeIs
noncomputable def tDGet(td ty:TE):TE:=λσ H Q=>td σ H λx H1=>ty σ H1 λy H2=>∃a v,x=.ref a/\DGet H2 a y (Y v)/\Q v H2
noncomputable def tDIn(ty td:TE):TE:=λσ H Q=>ty σ H λy H1=>td σ H1 λx H2=>∃a o,x=.ref a/\DGet H2 a y o/\Q (.bl o.isSome) H2
noncomputable def qcs(ty td:TE):TE:=λσ H Q=>ty σ H λy H1=>td σ H1 λx H2=>∃a o,x=.ref a/\DGet H2 a y o/\Q (.bl (!o.isSome)) H2
noncomputable def sDPut(td ty tv:TE):TS:=λD σ H=>tv σ H λv H1=>td σ H1 λx H2=>ty σ H2 λy H3=>∃a H4,x=.ref a/\DPut H3 a y v H4/\D.nx σ H4
section
def qnh(m:X.A.units+1<cLine)(n:PE X o td)(p:PE X i ty)(hs:NoSl i):PE X (.Subscript o i pos) (tDGet td ty):=by
 intro pins s σ H Q I h;refine qcu PySem.F.slot_dict_getitem.lookup hs (thn (n pins s σ H _ I h) λu d ⟨x,H1,r,j,l⟩=>thn (p pins d σ H1 _ r l) λA z ⟨y,H2,c,f,a,v,ex,g,k⟩=>?_);subst ex;obtain rfl:u=Value.ref a:=j;exact⟨qyg c g,qfe m c g f λt w q b=>⟨v,H2,q,b,k⟩⟩
def pc_din(l:X.A.units+1<cLine)(n:PE X i ty)(m:PE X o td):PC X .In i o (tDIn ty td):=by
 intro pins s σ H Q I h;refine thn (n pins s σ H _ I h) λw b ⟨y,H1,r,c,j⟩=>thn (m pins b σ H1 _ r j) λu v ⟨x,H2,q,d,a,k,ex,g,f⟩=>?_;subst ex;obtain rfl:u=Value.ref a:=d;exact d_in l q g c λt p=>⟨.bl k.isSome,H2,p,rfl,f⟩
def qds(l:X.A.units+1<cLine)(n:PE X i ty)(m:PE X o td):PC X .NotIn i o (qcs ty td):=by
 intro pins s σ H Q I h;refine thn (n pins s σ H _ I h) λw b ⟨y,H1,r,c,j⟩=>thn (m pins b σ H1 _ r j) λu v ⟨x,H2,q,d,a,k,ex,g,f⟩=>?_;subst ex;obtain rfl:u=Value.ref a:=d;exact qpz l q g c λt p=>⟨.bl (!k.isSome),H2,p,rfl,f⟩
def qnx(n:X.A.units+1<cLine)(p:PE X o td)(q:PE X i ty)(hv:PE X value tv)(hs:swapsWith value (Y (.Subscript o i pos')) pos.line X.env=pure Y6):
  PS X (.Assign [.Subscript o i pos'] value pos) (sDPut td ty tv):=by
 intro pins s σ H D I h;refine wpAny_Assign_Subscript (thn (hv pins s σ H _ I h) λr c ⟨v,H1,A,j,m⟩=>thn (p pins c σ H1 _ A m) λu b ⟨x,H2,z,f,l⟩=>thn (q pins b σ H2 _ z l) λG F ⟨y,K,w,d,a,C,ex,g,k⟩=>?_) hs;subst ex;obtain rfl:u=Value.ref a:=f;exact qfd n w g d j λE t=>⟨σ,C,t,k⟩
end
def qa6(h:Heap)(hb:Qn<h.objs.size):ObjOk P w H (h.push { cls:=.type "dict",data:=.dict #[] }) h.objs.size (.dK []):=
 ⟨Qzl _,beq_eq_false_iff_ne.mpr (Ne.symm (Qq6 hb)),[],.nil,Heap.DictOf.new h⟩
noncomputable def tDNewK:TE:=λ_ H Q=>∀p,H p=B->Q (.ref p) (upd H p (.dK []))
section
def pe_dnewK:PE X (.Dict [] [] pos) tDNewK:=λpins s σ H Q I h=>
 wpAny_Dict_empty ⟨.ref s.heap.objs.size,_,I.laid (λ_ _ q=>Qqx _ q) (Qqv _) (qa6 s.heap I.big),rfl,h _ (I.hok.fresh (Qqv _))⟩
end
noncomputable def qyu:L (TE×TE)->St->Hp->(L (V×V)->Hp->Prop)->Prop
 |[],_,H,Q=>Q [] H
 |(tk,tv)::r,σ,H,Q=>tk σ H λx H1=>tv σ H1 λy H2=>qyu r σ H2 λps H3=>Q ((x,y)::ps) H3
abbrev VV:L (V×V)->L (Y8×Y8)->Prop:=Paired λp q=>RelV p.1 q.1/\RelV p.2 q.2
def PPs(X:Cx)(pos:Pos)(keys:L (Y3 Expr))(values:L Expr)(trs:L (TE×TE)):Prop:=
 ∀(pins:L ?qm) (s:Qz) (σ:St) (H:Hp) (Q:L (V×V)->Hp->Prop),Inv X pins σ H s->qyu trs σ H Q->
  wpAny ?d X.A (evalPairs (pairTrees keys values X.env pos)) (λvs s'=>∃ps H',Inv X pins σ H' s'/\VV ps vs/\Q ps H') X.xe s
def qnj:PPs X pos [] [] []:=λpins s σ H Q I h=>pairTrees_nil_walk ⟨[],H,I,.nil,h⟩
def qhj(hk:PE X k d)(hv:PE X v c)(hr:PPs X pos ks vs a):
  PPs X pos (Y k::ks) (v::vs) ((d,c)::a):=λpins s σ H Q I h=>
 pairTrees_cons_walk (thn (hk pins s σ H _ I h) λu f ⟨x,H1,p,i,m⟩=>thn (hv pins f σ H1 _ p m) λw2 e ⟨y,H2,o,g,l⟩=>
  thn (hr pins e σ H2 _ o l) λr t ⟨ps,q,n,b,j⟩=>⟨(x,y)::ps,q,n,.cons ⟨i,g⟩ b,j⟩)
noncomputable def qkm(kvs more:L (Key×V)):L (Key×V):=more.foldl (λacc kv=>putK acc kv.1 kv.2) kvs
def KV.merge:∀{more}{a}{kvs}{vs},KV more a->KV kvs vs->KV (qkm kvs more) (merged vs a):=by
 intro more a kvs vs r;unfold KV at r
 induction r generalizing kvs vs with
 |nil=>intro q; exact q
 |@cons p q ps d h t c=>
  intro b;have e:KV (putK kvs p.1 p.2) (stored vs q.1 q.2):=by
   have:=b.put p.1 h.2;rw[<- h.1]; exact this
  exact c e
theorem qxj:∀(more kvs:L (Key×V)),(qkm kvs more).length<=kvs.length+more.length
 |[],kvs=>by show kvs.length<=kvs.length+0; omega
 |p::r,kvs=>by
  have h1:=qxj r (putK kvs p.1 p.2);have h2:=qq5 kvs p.1 p.2;show(qkm (putK kvs p.1 p.2) r).length<=_;rw[Qqh]; omega
theorem qku:∀{kvs}{e},VV (kvs.map λkv=>(kV kv.1,kv.2)) e->∃d,Carries (mixKind P w) e d/\KV kvs d
 |[],_,r=>by rw[Qx7]at r; cases r; exact⟨[],True.intro,.nil⟩
 |p::kvs,_,r=>by
  rw[Qqg]at r
  cases r with
  |@cons a b f bs h t=>
   obtain⟨d,c,q⟩:=qku t;obtain⟨b1,b2⟩:=b;exact⟨(p.1,b2)::d,⟨qjz h.1,rfl,c⟩,.cons ⟨rfl,h.2⟩ q⟩
noncomputable def tDisp(trs:L (TE×TE)):TE:=λσ H Q=>∀p,H p=B->qyu trs σ (upd H p (.dK [])) λps H2=>H2 p=Y (.dK [])/\∃kvs:L (Key×V),ps=kvs.map (λkv=>(kV kv.1,kv.2))/\kvs.length<=15/\Q (.ref p) (upd H2 p (.dK (qkm [] kvs)))
def qnf(h:PPs X pos keys b d)(f:keys.all (·.isSome)=O)(hl:keys.length=b.length)(x:keys≠[])(j:keys.length<=15):PE X (.Dict keys b pos) (tDisp d):=by
 intro pins s σ H Q I q;have hn:=I.hok.fresh (Qqv s.heap.objs.size);have C:=I.laid (t':=s.toks) (λ_ _ q=>Qqx _ q) (Qqv _) (qa6 s.heap I.big);refine wpAny_Dict_walk (knd:=mixKind X.prog X.w) f hl x j (thn (h pins _ σ _ _ C (q _ hn)) λD E ⟨ps,H2,k,i,e,kvs,y,lk,r⟩=>?_);subst y;obtain⟨m,c,n⟩:=qku i;obtain⟨z,hd,l,p,A⟩:=qiw k.hok e;cases p;refine⟨m,c,A,λh' g hs=>⟨.ref s.heap.objs.size,_,?_,rfl,r⟩⟩;have t:(qkm [] kvs).length<=sizeLine:=by
  have h1:=qxj kvs [];rw[Qky]at h1;rw[Q0]; omega
 have v:∃q,h'.get? s.heap.objs.size=Y q:=let ⟨q,_,_,u,_⟩:=g; ⟨q,u⟩;exact qkq k (by rw[e]; exact True.intro) hs v (dk_new t hd (n.merge .nil) g)
structure M1 (X:Cx) (o:Expr) (m:Y5) (apos:Pos) (e:Expr) (cpos:Pos):Prop where
 base:Zz o m X.env (Qa o X.env)=Qa o X.env
 few:((backTo cpos (starEach [e] X.env)).all (λx=>!x.1)&&(backToKw cpos (keywordEach [] X.env)).all (λx=>x.1.isSome)
  && decide (([e]:L Expr).length+([]:L Zp).length+(if ([]:L Zp).isEmpty then 0 else 1)<30))=O
 line:(apos.endLine==cpos.line)=O
 trees:backTo cpos (starEach [e] X.env)=[(Y6,Qa e X.env)]
def IsD(H:Hp)(a:Y7):Prop:=(∃kvs,Rd H a (.dK kvs))\/∃kvs,Rd H a (.dT kvs)
def qle(I:Inv X c g H s)(d:IsD H a):
  s.TypeIs (.ref a) "dict"/\(∀b,Value.ref a=.ref b->∃ob,s.heap.get? b=Y ob/\ob.dict=B)/\(a==Qn)=false:=by
 rcases d with⟨kvs,e⟩|⟨kvs,e⟩
 ·obtain⟨_,hd,vs,_,f⟩:=qwg I.hok e;refine⟨f.typeIs,λb q=>?_,hd⟩;cases q;obtain⟨ob,_,_,h1,h2,_⟩:=f;exact⟨ob,h1,h2.2.1⟩
 ·obtain⟨_,hd,xs,_,f⟩:=qyf I.hok e;refine⟨f.typeIs,λb q=>?_,hd⟩;cases q;obtain⟨ob,_,_,h1,h2,_⟩:=f;exact⟨ob,h1,h2.2.1⟩
section
def d_get1(n:A.units+1<cLine)(I:Inv X pins σ H s)(g:DGet H a y o)(m:RelV y u)(h:∀j s',Inv X pins σ H s'->RelV (o.getD .non) j->Q j s'):
  wpAny ?d A (call (.builtin "dict.get") [.ref a,u]) Q E s:=by
 rcases g with⟨kvs,k,e,i,l⟩|⟨kvs,k,b,e,i,p,l⟩
 ·subst i;obtain⟨z,hd,vs,c,f⟩:=qwg I.hok e;refine call_meetsIn PySem.F.slot_dict_get f.typeIs PySem.F.entry_dict_get (PySem.F.args_dict_get_2 _ _) (meets_dict_get (mixKind X.prog X.w) a (qjz m) hd) ⟨_,f.mapOf,h _ _ (I.tok _) ?_⟩;rw[l];exact(c.val k).getD rfl
 ·subst i;cases (m);obtain⟨z,hd,xs,c,f⟩:=qyf I.hok e;refine call_meetsIn PySem.F.slot_dict_get f.typeIs PySem.F.entry_dict_get (PySem.F.args_dict_get_2 _ _) (meetsH_dict_get (tupleKind (mixKind X.prog X.w)) a b hd) ⟨Q7 n,k,xs,qqo I.hok p,f,h _ _ (I.tok _) ?_⟩;rw[l];exact(c.val k).getD rfl
end
noncomputable def tDGet1(td ty:TE):TE:=λσ H Q=>td σ H λx H1=>∃a,x=.ref a/\IsD H1 a/\ty σ H1 λy H2=>∃o,DGet H2 a y o/\Q (o.getD .non) H2
noncomputable def tDPop1(td ty:TE):TE:=λσ H Q=>td σ H λx H1=>∃a,x=.ref a/\IsD H1 a/\ty σ H1 λy H2=>∃kvs k v,H2 a=Y (.dK kvs)/\y=kV k/\valV kvs k=Y v/\Q v (upd H2 a (.dK (qwf kvs k)))
section
def qhh(r:X.A.units+1<cLine)(t:PE X o td)(v:PE X e ty)(m:M1 X o "get" apos e cpos):PE X (.Call (.Attribute o "get" apos) [e] [] cpos) (tDGet1 td ty):=by
 intro pins s σ H Q I h;refine wpAny_Call_method m.base m.few m.line PySem.F.plainAttrs_dict PySem.F.slot_dict_get PySem.F.type_dict_get (thn (t pins s σ H _ I h) λu k ⟨x,H1,c,n,a,ex,d,q⟩=>?_);subst ex;obtain rfl:u=Value.ref a:=n;obtain⟨j,i,_⟩:=qle c d;refine⟨j,i,?_⟩;rw[m.trees];refine Calls.callWith_builtin rfl (Calls.evalArgs_plain (Calls.spliced_cons (thn (v pins k σ H1 _ c q) λF D ⟨y,H2,z,l,E,g,p⟩=>Calls.spliced_nil ?_)));exact d_get1 r z g l λA C w b=>⟨_,H2,w,b,p⟩
def qhf(t:PE X o td)(w:PE X e ty)(m:M1 X o "pop" apos e cpos):PE X (.Call (.Attribute o "pop" apos) [e] [] cpos) (tDPop1 td ty):=by
 intro pins s σ H Q I h;refine wpAny_Call_method m.base m.few m.line PySem.F.plainAttrs_dict PySem.F.slot_dict_pop PySem.F.type_dict_pop (thn (t pins s σ H _ I h) λu j ⟨x,H1,c,p,a,ex,d,r⟩=>?_);subst ex;obtain rfl:u=Value.ref a:=p;obtain⟨i,g,_⟩:=qle c d;refine⟨i,g,?_⟩;rw[m.trees];refine Calls.callWith_builtin rfl (Calls.evalArgs_plain (Calls.spliced_cons (thn (w pins j σ H1 _ c r) λK G ⟨y,H2,D,n,kvs,k,v,A,z,l,q⟩=>Calls.spliced_nil ?_)));subst z;exact d_pop D A n l ?qp λE F C b=>⟨v,_,C,b,q⟩
end
section
end
section
end
end L2
end
section
namespace M
open PySem (Str Operator CmpOp)
inductive D where
 |non|bl (b:Yb)|int (i:J)|str (s:Y5)|tup (ds:L D)|lst (ds:L D)|loc (l:Y0)
 deriving Inhabited
inductive Ya where
 |lst (w:Yb) (ds:L D)
 |dic (w:Yb) (kvs:L (D×D))
 |obj (C:Y0) (fs:L (Y5×D))
 deriving Inhabited
abbrev Y2:=L Ya
abbrev Sl:=L (Y3 D)
noncomputable def lim:Nat:=16777216
inductive Ty where
 |non|bl|int|str|tup|lst
 deriving DecidableEq
noncomputable def Ty.name:Ty->String
 |.non=>"NoneType"
 |.bl=>"bool"
 |.int=>"int"
 |.str=>"str"
 |.tup=>"tuple"
 |.lst=>"list"
inductive Bq where
 |len|min|tuple|list|all|sorted|any|max
inductive Mt where
 |append|extend|index|insert|pop
inductive T where
 |var (i:Y0)
 |tup (is:L Y0)
noncomputable def T.slots:T->L Y0
 |.var i=>[i]
 |.tup is=>is
inductive E where
 |var (i:Y0)
 |lit (d:D)
 |glo (x:Y5) (d:D)
 |bin (op:Zi) (a b:E)
 |neg (a:E)
 |not (a:E)
 |cmp (op:CmpOp) (a b:E)
 |cmp2 (op op':CmpOp) (a b c:E)
 |and (a b:E)
 |or (a b:E)
 |ite (c a b:E)
 |tup (es:L E)
 |lst (es:L E)
 |idx (a b:E)
 |sli (a:E) (lo hi:Y3 E)
 |call (f:Y0) (es:L E)
 |bcall (f:Bq) (es:L E)
 |isi (a:E) (ts:L Ty) (many:Yb)
 |meth (a:E) (m:Mt) (es:L E)
 |gc (a:E)
 |rng1 (a:E)
 |rng2 (a b:E)
 |zip (a b:E)
 |enu (a:E)
 |rev (a:E)
 |dic (es:L E)
 |didx (a b:E)
 |din (neg:Yb) (a b:E)
 |dgt (a b:E)
 |dpop (a b:E)
 |gidx (x:Y5) (ks:L Y5) (ds:L D) (b:E)
 |gin (neg:Yb) (x:Y5) (ks:L Y5) (b:E)
 |lenset (a:E)
 |comp (t:T) (it:E) (test:Y3 E) (elt:E) (src:L (Y3 Y0))
 |attr (C:Y0) (a:E) (f:Y5)
 |mcall (C f:Y0) (m:Y5) (a:E) (es:L E)
 |new (C f:Y0) (es:L E)
inductive S where
 |set (t:T) (e:E)
 |dset (a i e:E)
 |setA (C:Y0) (a:E) (f:Y5) (e:E)
 |ford (t:T) (a:E) (body:L S)
 |bad
 |expr (e:E)
 |ret (e:E)
 |ite (c:E) (a b:L S)
 |forr (t:T) (it:E) (body:L S)
structure Fn where
 np:Y0
 nl:Y0
 body:L S
 iso:Yb
mutual
noncomputable def eqT:D->D->Yb
 |.non,.non=>O
 |.bl a,.bl b=>a==b
 |.bl a,.int j=>(if a then 1 else 0)==j
 |.int i,.bl b=>i==(if b then 1 else 0)
 |.int i,.int j=>i==j
 |.str a,.str b=>a==b
 |.tup a,.tup b=>eqTs a b
 |_,_=>Y6
noncomputable def eqTs:L D->L D->Yb
 |[],[]=>O
 |a::as,b::bs=>eqT a b&&eqTs as bs
 |_,_=>Y6
end
noncomputable def isI:D->Yb
 |.int _=>O
 |_=>Y6
noncomputable def flat(_:Y0):D->Yb
 |.int _=>O
 |.str _=>O
 |.tup ds=>ds.all isI
 |_=>Y6
noncomputable abbrev flats(n:Y0)(ds:L D):Bool:=ds.all (flat n)
noncomputable def mulOk(i j:J):Bool:=(decide (-(2 ^ 64)<i)&&decide (i<2 ^ 64))||(decide (-(2 ^ 64)<j)&&decide (j<2 ^ 64))
noncomputable def listAt(st:Y2)(l:Y0):Y3 (L D):=match st[l]? with|some (.lst _ ds)=>Y ds|_=>B
noncomputable def wlistAt(st:Y2)(l:Y0):Y3 (L D):=match st[l]? with|some (.lst O ds)=>Y ds|_=>B
noncomputable def seqAt(st:Y2):D->Y3 (L D)
 |.loc l=>listAt st l
 |.lst ds=>Y ds
 |_=>B
mutual
/-- no place of the store within -/
noncomputable def noLoc:D->Yb
 |.loc _=>Y6
 |.tup ds=>noLocs ds
 |.lst ds=>noLocs ds
 |_=>O
noncomputable def noLocs:L D->Yb
 |[]=>O
 |d::ds=>noLoc d&&noLocs ds
end
mutual
/-- every place of the store within is one of the first n -/
noncomputable def lt(n:Y0):D->Yb
 |.loc l=>Nat.blt l n
 |.tup ds=>lts n ds
 |.lst ds=>lts n ds
 |_=>O
noncomputable def lts(n:Y0):L D->Yb
 |[]=>O
 |d::ds=>lt n d&&lts n ds
end
noncomputable def ltC(n:Y0):Ya->Yb
 |.lst _ ds=>lts n ds
 |.dic _ kvs=>kvs.all λp=>lt n p.2
 |.obj _ fs=>fs.all λp=>lt n p.2
noncomputable def gcX(n:Y0)(p:D×Y2):D×Y2:=
 if noLoc p.1 then(p.1,p.2.take n) else match p.1 with
  |.loc l=>if n<=l then(match p.2[l]? with
   |some (.lst O ds)=>if noLocs ds then(.lst ds,p.2.take n) else p
   |_=>p) else p
  |_=>p
open Classical in
noncomputable def gcD(st:Y2)(p:D×Y2):D×Y2:=
 if (p.2.take st.length).all (ltC st.length)=O then gcX st.length p else if p.2.take st.length=st then gcX st.length p else p
noncomputable def dicAt(st:Y2)(l:Y0):Y3 (L (D×D)):=match st[l]? with|some (.dic _ kvs)=>Y kvs|_=>B
noncomputable def wdicAt(st:Y2)(l:Y0):Y3 (L (D×D)):=match st[l]? with|some (.dic O kvs)=>Y kvs|_=>B
noncomputable def objAt(st:Y2)(C:Y0):D->Y3 (L (Y5×D))
 |.loc l=>match st[l]? with|some (.obj C' fs)=>if C'=C then Y fs else B|_=>B
 |_=>B
noncomputable def putA(f:Y5)(v:D):L (Y5×D)->L (Y5×D)
 |[]=>[(f,v)]
 |(g,x)::r=>if g=f then(g,v)::r else(g,x)::putA f v r
noncomputable def keysOf(kvs:L (D×D)):L D:=kvs.map (·.1)
noncomputable def dkeys(st:Y2):D->Y3 (L D)
 |.loc l=>(dicAt st l).map keysOf
 |_=>B
noncomputable def isKey:D->Yb
 |.int _=>O
 |.str _=>O
 |_=>Y6
noncomputable def dget(kvs:L (D×D))(k:D):Y3 D:=(kvs.find? λp=>eqT p.1 k).map (·.2)
noncomputable def dput(kvs:L (D×D))(k v:D):L (D×D):=if kvs.any λp=>eqT p.1 k then kvs.map (λp=>if eqT p.1 k then(p.1,v) else p) else kvs++[(k,v)]
noncomputable def ddrop(kvs:L (D×D))(k:D):L (D×D):=kvs.filter λp=>!eqT p.1 k
noncomputable def pairUp:L D->Y3 (L (D×D))
 |[]=>Y []
 |k::v::r=>if isKey k then(pairUp r).map ((k,v)::·) else B
 |_=>B
noncomputable def dall(kvs:L (D×D)):L (D×D):=kvs.foldl (λacc p=>dput acc p.1 p.2) []
noncomputable def alloc(st:Y2)(c:Ya):D×Y2:=(.loc st.length,st++[c])
noncomputable def binop(st:Y2):Zi->D->D->Y3 (D×Y2)
 |.Add,.int i,.int j=>Y (.int (i+j),st)
 |.Add,.tup a,.tup b=>if a.isEmpty||decide (lim<a.length+b.length) then B else Y (.tup (a++b),st)
 |.Add,a,b=>(seqAt st a).bind λx=>(seqAt st b).bind λy=>if lim<x.length+y.length then B else Y (alloc st (.lst O (x++y)))
 |.Sub,.int i,.int j=>Y (.int (i - j),st)
 |.Mult,.int i,.int j=>if mulOk i j then Y (.int (i*j),st) else B
 |.Mult,.tup a,.int k=>if decide (k < -(2 ^ 62))||decide (2 ^ 62<=k)||decide (lim<a.length*k.toNat) then B else Y (.tup (List.replicate k.toNat a).flatten,st)
 |.FloorDiv,.int i,.int j=>if 0<j/\j<2 ^ 64 then Y (.int (i / j),st) else B
 |.Mod,.int i,.int j=>if 0<j then Y (.int (i % j),st) else B
 |.Pow,.int i,.int j=>if 0<=j/\j<=1000/\i.natAbs<2 ^ 64 then Y (.int (i ^ j.toNat),st) else B
 |_,_,_=>B
noncomputable def addK(S:L (L J))(k:L J):L (L J):=if k∈S then S else S++[k]
noncomputable def distinct(ks:L (L J)):L (L J):=ks.foldl addK []
noncomputable def keyD:D->Y3 (L J)
 |.tup ds=>ds.mapM λd=>match d with|.int i=>Y i|_=>B
 |_=>B
noncomputable def qvv:D->Y3 D
 |.tup ds=>(ds.mapM keyD).bind λks=>if ds.length<=16 then Y (.int (distinct ks).length) else B
 |_=>B
noncomputable def ixN(n:Y0)(i:J):Y3 Nat:=if 0<=i then(if i<n then Y i.toNat else B) else if -(n:J)<=i then Y (i+n).toNat else B
noncomputable def atI{α:Type}(xs:L α)(i:J):Y3 α:=(ixN xs.length i).bind λj=>xs[j]?
noncomputable def idxD(st:Y2):D->D->Y3 D
 |.tup ds,.int i=>atI ds i
 |d,.int i=>(seqAt st d).bind λds=>atI ds i
 |_,_=>B
noncomputable def cutIx(n d:Y0):Y3 J->Y0
 |none=>d
 |some v=>if v<0 then(v+(n:J)).toNat else min v.toNat n
noncomputable def cut{α:Type}(xs:L α)(lo hi:Y3 J):L α:=(xs.drop (cutIx xs.length 0 lo)).take (cutIx xs.length xs.length hi - cutIx xs.length 0 lo)
noncomputable def sliD(st:Y2):D->Y3 J->Y3 J->Y3 (D×Y2)
 |.tup ds,lo,hi=>Y (.tup (cut ds lo hi),st)
 |d,lo,hi=>(seqAt st d).map λds=>alloc st (.lst O (cut ds lo hi))
noncomputable def inD(st:Y2)(x:D):D->Y3 Yb
 |.tup ds=>if flat 9 x&&flats 9 ds then Y (ds.any λy=>eqT y x) else B
 |d=>(seqAt st d).bind λds=>if flat 9 x&&flats 9 ds then Y (ds.any λy=>eqT y x) else B
noncomputable def isNon:D->Yb
 |.non=>O
 |_=>Y6
noncomputable def eqD(_:Y2)(x y:D):Y3 Bool:=match x,y with
 |.bl a,.bl b=>Y (a==b)
 |.non,.non=>Y O
 |x,y=>if flat 9 x&&(flat 9 y||isNon y) then Y (eqT x y) else B
noncomputable def neD(_:Y2):D->D->Y3 Yb
 |.int i,.int j=>Y (!(i==j))
 |.str i,.str j=>Y (!(i==j))
 |_,_=>B
noncomputable def cmpD(st:Y2):CmpOp->D->D->Y3 Yb
 |.Lt,.int i,.int j=>Y (decide (i<j))
 |.LtE,.int i,.int j=>Y (decide (i<=j))
 |.Gt,.int i,.int j=>Y (decide (j<i))
 |.GtE,.int i,.int j=>Y (decide (j<=i))
 |.Eq,x,y=>eqD st x y
 |.NotEq,x,y=>neD st x y
 |.Is,x,.non=>Y (isNon x)
 |.IsNot,x,.non=>Y (!isNon x)
 |.In,x,y=>inD st x y
 |.NotIn,x,y=>(inD st x y).map (!·)
 |_,_,_=>B
noncomputable def tyName(st:Y2):D->Y3 Ty
 |.non=>Y .non
 |.bl _=>Y .bl
 |.int _=>Y .int
 |.str _=>Y .str
 |.tup _=>Y .tup
 |d=>(seqAt st d).map λ_=>.lst
noncomputable def tyIs(t n:Ty):Bool:=t==n||(t==.int&&n==.bl)
noncomputable def truth(st:Y2):D->Y3 Yb
 |.non=>Y Y6
 |.bl b=>Y b
 |.int i=>Y (i != 0)
 |.tup ds=>Y (!ds.isEmpty)
 |d=>(seqAt st d).map λds=>!ds.isEmpty
noncomputable def insInt(x:J):L J->L J
 |[]=>[x]
 |y::r=>if x<=y then x::y::r else y::insInt x r
noncomputable def sortInt:L J->L J
 |[]=>[]
 |x::r=>insInt x (sortInt r)
noncomputable def asInts:L D->Y3 (L J)
 |[]=>Y []
 |.int i::r=>(asInts r).map (i::·)
 |_=>B
noncomputable def asBools:L D->Y3 (L Yb)
 |[]=>Y []
 |.bl i::r=>(asBools r).map (i::·)
 |_=>B
noncomputable def bLen(st:Y2):L D->Y3 (D×Y2)
 |[.tup ds]=>Y (.int ds.length,st)
 |[d]=>(seqAt st d).map λds=>(.int ds.length,st)
 |_=>B
noncomputable def bMin(st:Y2):L D->Y3 (D×Y2)
 |[.int i,.int j]=>Y (.int (if j<i then j else i),st)
 |_=>B
noncomputable def bMax(st:Y2):L D->Y3 (D×Y2)
 |[.int i,.int j]=>Y (.int (if j > i then j else i),st)
 |_=>B
noncomputable def bTuple(st:Y2):L D->Y3 (D×Y2)
 |[.tup ds]=>Y (.tup ds,st)
 |[d]=>(seqAt st d).map λds=>(.tup ds,st)
 |_=>B
noncomputable def bList(st:Y2):L D->Y3 (D×Y2)
 |[.tup ds]=>Y (alloc st (.lst O ds))
 |[d]=>((seqAt st d).or (dkeys st d)).map λds=>alloc st (.lst O ds)
 |_=>B
noncomputable def bAll(st:Y2):L D->Y3 (D×Y2)
 |[d]=>(seqAt st d).bind λds=>(asBools ds).map λbs=>(.bl (bs.all id),st)
 |_=>B
noncomputable def bAny(st:Y2):L D->Y3 (D×Y2)
 |[d]=>(seqAt st d).bind λds=>(asBools ds).map λbs=>(.bl (bs.any id),st)
 |_=>B
noncomputable def bSorted(st:Y2):L D->Y3 (D×Y2)
 |[d]=>((seqAt st d).or (dkeys st d)).bind λds=>(if 64<=ds.length then B else asInts ds).map λns=>alloc st (.lst O ((sortInt ns).map .int))
 |_=>B
noncomputable def bfun(st:Y2):Bq->L D->Y3 (D×Y2)
 |.len=>bLen st
 |.min=>bMin st
 |.tuple=>bTuple st
 |.list=>bList st
 |.all=>bAll st
 |.sorted=>bSorted st
 |.any=>bAny st
 |.max=>bMax st
noncomputable def mAppend(st:Y2):D->L D->Y3 (D×Y2)
 |.loc l,[d]=>(wlistAt st l).bind λds=>if ds.length<lim then Y (.non,st.set l (.lst O (ds++[d]))) else B
 |_,_=>B
noncomputable def mExtend(st:Y2):D->L D->Y3 (D×Y2)
 |.loc l,[d]=>(wlistAt st l).bind λds=>(match d with|.tup es=>Y es|d=>seqAt st d).bind λes=>if ds.length+es.length<=lim then Y (.non,st.set l (.lst O (ds++es))) else B
 |_,_=>B
noncomputable def mIndex(st:Y2):D->L D->Y3 (D×Y2)
 |d,[x]=>(seqAt st d).bind λds=>if flat 9 x&&flats 9 ds then(ds.findIdx? λy=>eqT y x).map λ(j:Y0)=>(.int (j:J),st) else B
 |_,_=>B
noncomputable def mInsert(st:Y2):D->L D->Y3 (D×Y2)
 |.loc l,[.int i,d]=>(wlistAt st l).bind λds=>if 0<=i/\i<=ds.length/\ds.length<lim then Y (.non,st.set l (.lst O (ds.take i.toNat++d::ds.drop i.toNat))) else B
 |_,_=>B
noncomputable def mPop(st:Y2):D->L D->Y3 (D×Y2)
 |.loc l,[.int i]=>(wlistAt st l).bind λds=>if 0<=i/\i<ds.length/\ds.length<lim then(ds[i.toNat]?).map λd=>(d,st.set l (.lst O (ds.eraseIdx i.toNat))) else B
 |_,_=>B
noncomputable def mfun(st:Y2):Mt->D->L D->Y3 (D×Y2)
 |.append=>mAppend st
 |.extend=>mExtend st
 |.index=>mIndex st
 |.insert=>mInsert st
 |.pop=>mPop st
noncomputable def Mt.ofList(_:Mt):Bool:=O
noncomputable def mty(st:Y2)(m:Mt):D->Yb
 |.str _=>!m.ofList
 |d=>m.ofList&&(seqAt st d).isSome
inductive Out where
 |nx (τ:Sl)
 |rt (d:D)
structure R where
 ev:Sl->Y2->E->Y3 (D×Y2)
 tst:Sl->Y2->E->Y3 (Yb×Y2)
 ex:Sl->Y2->L S->Y3 (Out×Y2)
 call:Y0->L D->Y2->Y3 (D×Y2)
noncomputable def evs(f:Y2->E->Y3 (D×Y2)):L E->Y2->Y3 (L D×Y2)
 |[],st=>Y ([],st)
 |e::es,st=>(f st e).bind λp=>(evs f es p.2).bind λq=>Y (p.1::q.1,q.2)
noncomputable def setIs:L Y0->L D->Sl->Y3 Sl
 |[],[],τ=>Y τ
 |i::is,d::ds,τ=>if i<τ.length then setIs is ds (τ.set i (Y d)) else B
 |_,_,_=>B
noncomputable def setT:T->D->Sl->Y3 Sl
 |.var i,d,τ=>if i<τ.length then Y (τ.set i (Y d)) else B
 |.tup is,.tup ds,τ=>setIs is ds τ
 |_,_,_=>B
inductive Src where
 |tup (ds:L D)
 |lst (d:D)
 |rng (lo:J) (n:Y0)
 |zip (a b:D)
 |enu (a:D)
 |rev (ds:L D)
noncomputable def rowAt(st:Y2):D->Y3 (L D)
 |.tup ds=>Y ds
 |d=>seqAt st d
noncomputable def pairAt(xs ys:L D)(i:Y0):Y3 D:=match xs[i]?,ys[i]? with
 |some x,Y y=>Y (.tup [x,y])
 |_,_=>B
noncomputable def Src.at(st:Y2)(i:Y0):Src->Y3 (Y3 D)
 |.tup ds=>Y ds[i]?
 |.lst d=>(seqAt st d).map λds=>ds[i]?
 |.rng lo n=>Y (if i<n then Y (.int (lo+i)) else B)
 |.zip a b=>(rowAt st a).bind λxs=>(rowAt st b).map λys=>pairAt xs ys i
 |.enu a=>(rowAt st a).map λxs=>xs[i]?.map λx=>.tup [.int i,x]
 |.rev ds=>Y (if i<ds.length then ds[ds.length - 1 - i]? else B)
noncomputable def Src.size(st:Y2):Src->Y0
 |.tup ds=>ds.length
 |.lst d=>((seqAt st d).getD []).length
 |.rng _ n=>n
 |.zip a b=>min ((rowAt st a).getD []).length ((rowAt st b).getD []).length
 |.enu a=>((rowAt st a).getD []).length
 |.rev ds=>ds.length
noncomputable def big(i:J):Bool:=decide (i < -(2 ^ 62))||decide (2 ^ 62<=i)
noncomputable def src(r:R)(τ:Sl)(st:Y2):E->Y3 (Src×Y2)
 |.rng1 a=>(?l).bind λp=>match p.1 with
  |.int n=>if big n then B else Y (.rng 0 n.toNat,p.2)
  |_=>B
 |.rng2 a b=>(?l).bind λp=>(?N).bind λq=>match p.1,q.1 with
  |.int i,.int j=>if big i||big j then B else Y (.rng i (j - i).toNat,q.2)
  |_,_=>B
 |.zip a b=>(?l).bind λp=>(?N).bind λq=>(rowAt q.2 p.1).bind λ_=>(rowAt q.2 q.1).map λ_=>(.zip p.1 q.1,q.2)
 |.enu a=>(?l).bind λp=>(rowAt p.2 p.1).map λ_=>(.enu p.1,p.2)
 |.rev a=>(?l).bind λp=>match p.1 with
  |.tup ds=>Y (.rev ds,p.2)
  |_=>B
 |e=>(?qj).bind λp=>match p.1 with
  |.tup ds=>Y (.tup ds,p.2)
  |d=>(seqAt p.2 d).map λ_=>(.lst d,p.2)
noncomputable def loop(it:Src)(f:Sl->Y2->D->Y3 (Out×Y2)):Y0->Y0->Sl->Y2->Y3 (Out×Y2)
 |0,_,_,_=>B
 |k+1,i,τ,st=>(it.at st i).bind λo=>match o with
  |none=>Y (.nx τ,st)
  |some d=>(f τ st d).bind λp=>match p.1 with
   |.nx τ'=>loop it f k (i+1) τ' p.2
   |.rt v=>Y (.rt v,p.2)
noncomputable def turnC(r:R)(t:T)(test:Y3 E)(elt:E)(τ:Sl)(st:Y2)(d:D):Y3 (Y3 D×Sl×Y2):=
 (setT t d τ).bind λτ'=>match test with
  |none=>(r.ev τ' st elt).map λp=>(Y p.1,τ',p.2)
  |some c=>(r.tst τ' st c).bind λb=>if b.1 then(r.ev τ' b.2 elt).map λp=>(Y p.1,τ',p.2) else Y (B,τ',b.2)
noncomputable def loopC(it:Src)(f:Sl->Y2->D->Y3 (Y3 D×Sl×Y2)):Y0->Y0->L D->Sl->Y2->Y3 (L D×Y2)
 |0,_,_,_,_=>B
 |k+1,i,acc,τ,st=>(it.at st i).bind λo=>match o with
  |none=>if lim<acc.length then B else Y (acc,st)
  |some d=>if lim<=acc.length then B else(f τ st d).bind λp=>loopC it f k (i+1) (match p.1 with|some x=>acc++[x]|none=>acc) p.2.1 p.2.2
noncomputable def inner(src:L (Y3 Y0))(τ:Sl):Sl:=src.map λo=>o.bind λi=>(τ[i]?).bind id
noncomputable def part(r:R)(τ:Sl)(st:Y2):Y3 E->Y3 (Y3 J×Y2)
 |none=>Y (B,st)
 |some e=>(?qj).bind λp=>match p.1 with
  |.int i=>Y (Y i,p.2)
  |_=>B
noncomputable def dinR(r:R)(τ:Sl)(st:Y2)(neg:Yb)(a b:E):Y3 (D×Y2):=
 (?l).bind λp=>(?N).bind λq=>match q.1 with
  |.loc l=>(dicAt q.2 l).bind λkvs=>if isKey p.1 then Y (.bl ((dget kvs p.1).isSome != neg),q.2) else B
  |_=>B
noncomputable def ginR(r:R)(τ:Sl)(st:Y2)(neg:Yb)(ks:L Y5)(b:E):Y3 (D×Y2):=
 (r.ev τ st b).bind λp=>match p.1 with
  |.str z=>Y (.bl (ks.contains z != neg),p.2)
  |_=>B
noncomputable def stepEv(r:R)(τ:Sl)(st:Y2):E->Y3 (D×Y2)
 |.var i=>match τ[i]? with
  |some (Y d)=>Y (d,st)
  |_=>B
 |.lit d=>Y (d,st)
 |.glo _ d=>Y (d,st)
 |.bin op a b=>(?l).bind λp=>(?N).bind λq=>binop q.2 op p.1 q.1
 |.neg a=>(?l).bind λp=>match p.1 with
  |.int i=>Y (.int (-i),p.2)
  |_=>B
 |.not a=>(?l).bind λp=>match p.1 with
  |.bl b=>Y (.bl (!b),p.2)
  |_=>B
 |.cmp op a b=>(?l).bind λp=>(?N).bind λq=>(cmpD q.2 op p.1 q.1).map λk=>(.bl k,q.2)
 |.cmp2 op op' a b c=>(?l).bind λp=>(?N).bind λq=>(cmpD q.2 op p.1 q.1).bind λk=>
   if k then(r.ev τ q.2 c).bind λu=>(cmpD u.2 op' q.1 u.1).map λk'=>(.bl k',u.2) else Y (.bl Y6,q.2)
 |.and a b=>(?l).bind λp=>match p.1 with
  |.bl O=>r.ev τ p.2 b
  |.bl Y6=>Y (.bl Y6,p.2)
  |_=>B
 |.or a b=>(?l).bind λp=>match p.1 with
  |.bl Y6=>r.ev τ p.2 b
  |.bl O=>Y (.bl O,p.2)
  |_=>B
 |.ite c a b=>(r.tst τ st c).bind λp=>if p.1 then r.ev τ p.2 a else r.ev τ p.2 b
 |.tup es=>(evs (r.ev τ) es st).bind λp=>if lim<p.1.length then B else Y (.tup p.1,p.2)
 |.lst es=>(evs (r.ev τ) es st).bind λp=>if lim<p.1.length then B else Y (alloc p.2 (.lst O p.1))
 |.idx a b=>(?l).bind λp=>(?N).bind λq=>(idxD q.2 p.1 q.1).map λd=>(d,q.2)
 |.sli a lo hi=>(?l).bind λp=>(part r τ p.2 lo).bind λl=>(part r τ l.2 hi).bind λh=>sliD h.2 p.1 l.1 h.1
 |.call f es=>(evs (r.ev τ) es st).bind λp=>r.call f p.1 p.2
 |.bcall f es=>(evs (r.ev τ) es st).bind λp=>bfun p.2 f p.1
 |.isi a ts _=>(?l).bind λp=>(tyName p.2 p.1).map λn=>(.bl (ts.any λt=>tyIs t n),p.2)
 |.meth a m es=>(?l).bind λp=>if mty p.2 m p.1 then(evs (r.ev τ) es p.2).bind λq=>mfun q.2 m p.1 q.1 else B
 |.gc a=>(?l).map λp=>gcD st p
 |.rng1 _=>B
 |.rng2 _ _=>B
 |.zip _ _=>B
 |.enu _=>B
 |.rev _=>B
 |.dic es=>(evs (r.ev τ) es (st++[.dic O []])).bind λp=>match wdicAt p.2 st.length with
  |some []=>(pairUp p.1).bind λkvs=>if kvs.length<=15 then Y (.loc st.length,p.2.set st.length (.dic O (dall kvs))) else B
  |_=>B
 |.didx a b=>(?l).bind λp=>(?N).bind λq=>match p.1 with
  |.loc l=>(dicAt q.2 l).bind λkvs=>if isKey q.1 then(dget kvs q.1).map λd=>(d,q.2) else B
  |_=>B
 |.din neg a b=>dinR r τ st neg a b
 |.dgt a b=>(?l).bind λp=>match p.1 with
  |.loc l=>(dicAt p.2 l).bind λ_=>(?N).bind λq=>(dicAt q.2 l).bind λkvs=>if isKey q.1 then Y ((dget kvs q.1).getD .non,q.2) else B
  |_=>B
 |.dpop a b=>(?l).bind λp=>match p.1 with
  |.loc l=>(dicAt p.2 l).bind λ_=>(?N).bind λq=>(wdicAt q.2 l).bind λkvs=>if isKey q.1 then(dget kvs q.1).map λd=>(d,q.2.set l (.dic O (ddrop kvs q.1))) else B
  |_=>B
 |.gidx _ ks ds b=>(r.ev τ st b).bind λp=>match p.1 with
  |.str z=>((ks.zip ds).find? λq=>q.1==z).map λq=>(q.2,p.2)
  |_=>B
 |.gin neg _ ks b=>ginR r τ st neg ks b
 |.lenset a=>(?l).bind λp=>(qvv p.1).map λd=>(d,p.2)
 |.comp t it test elt sr=>(src r τ st it).bind λp=>
   (loopC p.1 (turnC r t test elt) (p.1.size p.2+1) 0 [] (inner sr τ) p.2).map λq=>alloc q.2 (.lst O q.1)
 |.attr C a f=>(?l).bind λp=>(objAt p.2 C p.1).bind λfs=>(fs.lookup f).map λd=>(d,p.2)
 |.mcall C f m a es=>(?l).bind λp=>(objAt p.2 C p.1).bind λfs=>if (fs.lookup m).isSome then B else(evs (r.ev τ) es p.2).bind λq=>r.call f (p.1::q.1) q.2
 |.new C f es=>(evs (r.ev τ) es st).bind λp=>(r.call f (.loc p.2.length::p.1) (p.2++[.obj C []])).bind λq=>if isNon q.1 then Y (.loc p.2.length,q.2) else B
noncomputable def stepTst(r:R)(τ:Sl)(st:Y2):E->Y3 (Yb×Y2)
 |.not a=>(r.tst τ st a).map λp=>(!p.1,p.2)
 |.and a b=>(r.tst τ st a).bind λp=>if p.1 then r.tst τ p.2 b else Y (Y6,p.2)
 |.or a b=>(r.tst τ st a).bind λp=>if p.1 then Y (O,p.2) else r.tst τ p.2 b
 |.ite _ _ _=>B
 |.din neg a b=>(dinR r τ st neg a b).bind λp=>(truth p.2 p.1).map λk=>(k,p.2)
 |.gin neg _ ks b=>(ginR r τ st neg ks b).bind λp=>(truth p.2 p.1).map λk=>(k,p.2)
 |.cmp op a b=>(?l).bind λp=>(?N).bind λq=>(cmpD q.2 op p.1 q.1).map λk=>(k,q.2)
 |.cmp2 op op' a b c=>(?l).bind λp=>(?N).bind λq=>(cmpD q.2 op p.1 q.1).bind λk=>
   if k then(r.ev τ q.2 c).bind λu=>(cmpD u.2 op' q.1 u.1).map λk'=>(k',u.2) else Y (Y6,q.2)
 |e=>(?qj).bind λp=>(truth p.2 p.1).map λk=>(k,p.2)
noncomputable def stepEx(r:R)(τ:Sl)(st:Y2):S->Y3 (Out×Y2)
 |.set t e=>(?qj).bind λp=>(setT t p.1 τ).map λτ'=>(.nx τ',p.2)
 |.dset a i e=>(?qj).bind λp=>(r.ev τ p.2 a).bind λq=>(r.ev τ q.2 i).bind λu=>match q.1 with
  |.loc l=>(wdicAt u.2 l).bind λkvs=>if isKey u.1&&decide (kvs.length<lim) then Y (.nx τ,u.2.set l (.dic O (dput kvs u.1 p.1))) else B
  |_=>B
 |.setA C a f e=>(?qj).bind λp=>(r.ev τ p.2 a).bind λq=>(objAt q.2 C q.1).bind λfs=>match q.1 with
  |.loc l=>if fs.length<900 then Y (.nx τ,q.2.set l (.obj C (putA f p.1 fs))) else B
  |_=>B
 |.ford t a body=>(?l).bind λp=>match p.1 with
  |.loc l=>(wdicAt p.2 l).bind λkvs=>(loop (.tup (keysOf kvs)) (λτ st d=>(setT t d τ).bind λτ'=>r.ex τ' st body) (kvs.length+1) 0 τ (p.2.set l (.dic Y6 kvs))).bind λq=>
   match q.2[l]? with
   |some (.dic Y6 kvs')=>Y (q.1,q.2.set l (.dic O kvs'))
   |_=>B
  |_=>B
 |.bad=>B
 |.expr e=>(?qj).map λp=>(.nx τ,p.2)
 |.ret e=>(?qj).map λp=>(.rt p.1,p.2)
 |.ite c a b=>(r.tst τ st c).bind λp=>if p.1 then r.ex τ p.2 a else r.ex τ p.2 b
 |.forr t it body=>(src r τ st it).bind λp=>
   loop p.1 (λτ st d=>(setT t d τ).bind λτ'=>r.ex τ' st body) (p.1.size p.2+1) 0 τ p.2
noncomputable def exs(f:Sl->Y2->S->Y3 (Out×Y2)):L S->Sl->Y2->Y3 (Out×Y2)
 |[],τ,st=>Y (.nx τ,st)
 |s::ss,τ,st=>(f τ st s).bind λp=>match p.1 with
  |.nx τ'=>exs f ss τ' p.2
  |o=>Y (o,p.2)
mutual
noncomputable def mp(f:Y0->Y0):D->D
 |.loc l=>.loc (f l)
 |.tup ds=>.tup (mps f ds)
 |.lst ds=>.lst (mps f ds)
 |.non=>.non
 |.bl b=>.bl b
 |.int i=>.int i
 |.str s=>.str s
noncomputable def mps(f:Y0->Y0):L D->L D
 |[]=>[]
 |d::r=>mp f d::mps f r
end
noncomputable def mpC(f:Y0->Y0):Ya->Ya
 |.lst w ds=>.lst w (mps f ds)
 |.dic w kvs=>.dic w (kvs.map λp=>(p.1,mp f p.2))
 |.obj C fs=>.obj C (fs.map λp=>(p.1,mp f p.2))
noncomputable abbrev up(N:Y0)(st:Y2):Y2:=st.map (mpC (· + N))
noncomputable def callB(F:Fn)(r:R)(ds:L D)(st:Y2):Y3 (D×Y2):=
 if ds.length=F.np then(r.ex (ds.map Y++List.replicate (F.nl - ds.length) B) st F.body).bind λp=>match p.1 with
   |.rt d=>Y (d,p.2)
   |.nx _=>Y (.non,p.2)
  else B
def isoOk(N:Y0)(ds es:L D)(st S:Y2):Prop:=mps (· + N) es=ds/\up N S=st.drop N/\N<=st.length
open Classical in
noncomputable def isoR(g:L D->Y2->Y3 (D×Y2))(ds:L D)(st:Y2):Y3 (D×Y2):=match ds with
 |.loc 0::_=>g ds st
 |.loc (N+1)::_=>if isoOk (N+1) ds (mps (· - (N+1)) ds) st ((st.drop (N+1)).map (mpC (· - (N+1)))) then
   (g (mps (· - (N+1)) ds) ((st.drop (N+1)).map (mpC (· - (N+1))))).map λp=>(mp (· + (N+1)) p.1,st.take (N+1)++up (N+1) p.2) else B
 |_=>B
noncomputable def stepCall(fns:L Fn)(r:R)(f:Y0)(ds:L D)(st:Y2):Y3 (D×Y2):=
 match fns[f]? with
 |some F=>if F.iso then isoR (callB F r) ds st else callB F r ds st
 |none=>B
noncomputable def at0:L D->Yb
 |.loc 0::_=>O
 |_=>Y6
def at0_of(h:at0 ds=O):∃r,ds=.loc 0::r:=by
 cases ds with
 |nil=>cases h
 |cons d r=>
  cases d with
  |loc l=>
   cases l with
   |zero=>exact⟨r,rfl⟩
   |succ l=>cases h
  |_=>cases h
def qw4(hf:fns[f]?=Y F)(a:(!F.iso||at0 ds)=O):stepCall fns r f ds st=callB F r ds st:=by
 unfold stepCall;rw[hf];dsimp only
 cases b:F.iso with
 |false=>exact Z5 nofun
 |true=>
  rw[b]at a;obtain⟨s,rfl⟩:=at0_of a
  rfl
mutual
theorem qn7(f g:Y0->Y0):∀d:D,mp f (mp g d)=mp (λl=>f (g l)) d
 |.loc l=>rfl
 |.tup ds=>congrArg D.tup (qjr f g ds)
 |.lst ds=>congrArg D.lst (qjr f g ds)
 |.non=>rfl
 |.bl _=>rfl
 |.int _=>rfl
 |.str _=>rfl
theorem qjr(f g:Y0->Y0):∀ds:L D,mps f (mps g ds)=mps (λl=>f (g l)) ds
 |[]=>rfl
 |d::r=>by rw[mps,mps,mps,qn7 f g d,qjr f g r]
end
mutual
theorem qhr(h:∀l,f l=l):∀d:D,mp f d=d
 |.loc l=>congrArg D.loc (h l)
 |.tup ds=>congrArg D.tup (qkl h ds)
 |.lst ds=>congrArg D.lst (qkl h ds)
 |.non=>rfl
 |.bl _=>rfl
 |.int _=>rfl
 |.str _=>rfl
theorem qkl(h:∀l,f l=l):∀ds:L D,mps f ds=ds
 |[]=>rfl
 |d::r=>by rw[mps,qhr h d,qkl h r]
end
def qez(f g:Y0->Y0)(c):mpC f (mpC g c)=mpC (λl=>f (g l)) c:=by
 cases c with
 |lst w ds=>exact congrArg (Ya.lst w) (qjr f g ds)
 |dic w kvs=>exact congrArg (Ya.dic w) (by rw[Qqp]; exact congrArg (λg=>kvs.map g) (funext λp=>by show(_,_)=_; rw[qn7]))
 |obj C fs=>exact congrArg (Ya.obj C) (by rw[Qqp]; exact congrArg (λg=>fs.map g) (funext λp=>by show(_,_)=_; rw[qn7]))
def qlv(h:∀l,f l=l)(c):mpC f c=c:=by
 cases c with
 |lst w ds=>exact congrArg (Ya.lst w) (qkl h ds)
 |dic w kvs=>exact congrArg (Ya.dic w) ((congrArg (λg=>kvs.map g) (funext λp=>by show(_,_)=p; rw[qhr h])).trans (Qx3 kvs))
 |obj C fs=>exact congrArg (Ya.obj C) ((congrArg (λg=>fs.map g) (funext λp=>by show(_,_)=p; rw[qhr h])).trans (Qx3 fs))
def up_dn(N)(S):(up N S).map (mpC (· - N))=S:=by
 rw[Qqp];refine Eq.trans (congrArg (λg=>S.map g) (funext λc=>?_)) (Qx3 S);show mpC _ (mpC _ c)=c;rw[qez];exact qlv (λl=>Qj4 l N) c
def qod{S:Y2}(b:pre.length=N)(h:g (.loc 0::es) S=Y (d,S')):
  isoR g (mps (· + N) (.loc 0::es)) (pre++up N S)=Y (mp (· + N) d,pre++up N S'):=by
 cases N with
 |zero=>
  have e:pre=[]:=Qzs.mp b;subst e;have a:∀S:Y2,up 0 S=S:=λS=>(congrArg (λg=>S.map g) (funext λc=>qlv (λ_=>rfl) c)).trans (Qx3 S);have m:∀ds:L D,mps (· + 0) ds=ds:=qkl λ_=>rfl;have k:mp (· + 0) d=d:=qhr (λ_=>rfl) d;rw[a,a,m,k];exact h
 |succ N=>
  have i:(pre++up (N+1) S).drop (N+1)=up (N+1) S:=by rw[<- b]; exact List.drop_left
  have a:mps (· - (N+1)) (mps (· + (N+1)) (.loc 0::es))=.loc 0::es:=by
   rw[qjr];exact qkl (λl=>Qj4 l (N+1)) _
  have f:mps (· + (N+1)) (.loc 0::es)=.loc (N+1)::mps (· + (N+1)) es:=by
   show D.loc (0+(N+1))::_=_;rw[Qzp]
  have j:=f▸a;rw[f];unfold isoR;dsimp only;rw[i,j,up_dn,Z6 ⟨f,i.symm,by rw[Qql]; omega⟩,h];show Y (_,_++_)=_;rw[show(pre++up (N+1) S).take (N+1)=pre by rw[<- b]; exact List.take_left]
def iso_is(h:isoR g ds st=Y p):
  g ds st=Y p\/∃N es S d b,isoOk N ds es st S/\g es S=Y (d,b)/\p=(mp (· + N) d,st.take N++up N b):=by
 unfold isoR at h
 split at h
 ·exact .inl h
 ·split at h
  ·rename_i hk
   cases a:g (mps _ _) (((st.drop _)).map _) with
   |none=>rw[a]at h; cases h
   |some q=>rw[a]at h; cases h; exact .inr ⟨_,_,_,q.1,q.2,hk,a,rfl⟩
  ·cases h
 ·cases h
noncomputable def step(c:Y0->L D->Y2->Y3 (D×Y2))(r:R):R:=⟨stepEv r,stepTst r,λτ st ss=>exs (stepEx r) ss τ st,c⟩
noncomputable def runK(c:Y0->L D->Y2->Y3 (D×Y2)):Y0->R
 |0=>⟨λ_ _ _=>B,λ_ _ _=>B,λ_ _ _=>B,c⟩
 |k+1=>step c (runK c k)
open Classical in
noncomputable def lim1{α:Type}(f:Y0->Y3 α):Y3 α:=if h:∃x,∃n,f n=Y x then Y h.choose else B
noncomputable def RL(c:Y0->L D->Y2->Y3 (D×Y2)):R:=⟨λτ st e=>lim1 λn=>(runK c n).ev τ st e,λτ st e=>lim1 λn=>(runK c n).tst τ st e,λτ st e=>lim1 λn=>(runK c n).ex τ st e,c⟩
noncomputable def callD(fns:L Fn):Y0->Y0->L D->Y2->Y3 (D×Y2)
 |0=>λ_ _ _=>B
 |d+1=>stepCall fns (RL (callD fns d))
noncomputable abbrev rn(fns:L Fn)(d n:Y0):R:=runK (callD fns d) n
noncomputable abbrev Lv(fns:L Fn)(d:Y0):R:=RL (callD fns d)
def lim1_is(h:lim1 f=Y x):∃n,f n=Y x:=by
 unfold lim1 at h
 split at h
 ·rename_i a;obtain⟨n,hn⟩:=a.choose_spec;exact⟨n,by rw[hn]; exact h⟩
 ·cases h
def runK_call(c:Y0->L D->Y2->Y3 (D×Y2)):∀n,(runK c n).call=c
 |0=>rfl
 |_+1=>rfl
end M
end
section
namespace M
open PySem (Str)
def Co{α:Type}(a:Y3 α)(b:Y0->Y3 α):Prop:=∀x,a=Y x->∃n,∀m,n<=m->b m=Y x
def Co.refl(a:Y3 α):Co a λ_=>a:=λ_ h=>⟨0,λ_ _=>h⟩
theorem Co.none(b:Y0->Y3 α):Co Option.none b:=λ_ h=>by cases h
theorem Co.bind{f:Y3 α}{c:Y0->Y3 α}{g:α->Y3 b}{g':Y0->α->Y3 b}(hf:Co f c)(d:∀a,Co (g a) λm=>g' m a):Co (f.bind g) λm=>(c m).bind (g' m):=λx h=>by
 cases e:f with
 |none=>rw[e]at h; cases h
 |some a=>
  rw[e]at h;obtain⟨n,hn⟩:=hf a e;obtain⟨k,hk⟩:=d a x h;refine⟨max n k,λm i=>?_⟩;simp only;rw[hn m (by lia)];exact hk m (by lia)
theorem Co.map{f:Y3 α}{b:Y0->Y3 α}(g:α->c)(hf:Co f b):Co (f.map g) λm=>(b m).map g:=λx h=>by
 cases e:f with
 |none=>rw[e]at h; cases h
 |some a=>
  rw[e]at h;obtain⟨n,hn⟩:=hf a e;refine⟨n,λm d=>?_⟩;simp only;rw[hn m d];exact h
def Co.ite[Decidable c]{a b:Y3 α}{d b':Y0->Y3 α}(e:Co a d)(hb:Co b b'):Co (if c then a else b) λm=>if c then d m else b' m:=by
 by_cases h:c
 ·simp only[Z6 h]; exact e
 ·simp only[Z5 h]; exact hb
structure Le (r:R) (r':Y0->R):Prop where
 ev:∀τ st e,Co (r.ev τ st e) λm=>(r' m).ev τ st e
 tst:∀τ st e,Co (r.tst τ st e) λm=>(r' m).tst τ st e
 ex:∀τ st e,Co (r.ex τ st e) λm=>(r' m).ex τ st e
 call:∀f ds st,Co (r.call f ds st) λm=>(r' m).call f ds st
theorem qz4{a:Y0->Y2->E->Y3 (D×Y2)}(h:∀st e,Co (f st e) λm=>a m st e):∀(es:L E) (st:Y2),Co (evs f es st) λm=>evs (a m) es st
 |[],st=>.refl _
 |e::es,st=>(h st e).bind λp=>(qz4 h es p.2).bind λq=>.refl _
theorem qjs{a:Y0->Sl->Y2->D->Y3 (Out×Y2)}(h:∀τ st d,Co (f τ st d) λm=>a m τ st d):∀(k i:Y0) (τ:Sl) (st:Y2),Co (loop it f k i τ st) λm=>loop it (a m) k i τ st
 |0,_,_,_=>.refl _
 |k+1,i,τ,st=>by
  unfold loop;refine(Co.refl _).bind λo=>?_
  cases o with
  |none=>exact .refl _
  |some d=>
   refine(h τ st d).bind λp=>?_
   cases b:p.1 with
   |nx τ'=>exact qjs h k _ _ _
   |rt v=>exact .refl _
theorem qkn{b:Y0->Sl->Y2->D->Y3 (Y3 D×Sl×Y2)}(h:∀τ st d,Co (f τ st d) λm=>b m τ st d):∀(k i:Y0) (a:L D) (τ:Sl) (st:Y2),Co (loopC it f k i a τ st) λm=>loopC it (b m) k i a τ st
 |0,_,_,_,_=>.refl _
 |k+1,i,a,τ,st=>by
  unfold loopC;refine(Co.refl _).bind λo=>?_
  cases o with
  |none=>exact .refl _
  |some d=>exact Co.ite (.refl _) ((h τ st d).bind λp=>qkn h k _ _ _ _)
theorem qva{b:Y0->Sl->Y2->S->Y3 (Out×Y2)}(h:∀τ st s,Co (f τ st s) λm=>b m τ st s):∀(a:L S) (τ:Sl) (st:Y2),Co (exs f a τ st) λm=>exs (b m) a τ st
 |[],_,_=>.refl _
 |s::a,τ,st=>by
  unfold exs;refine(h τ st s).bind λp=>?_
  cases c:p.1 with
  |nx τ'=>exact qva h a _ _
  |_=>exact .refl _
section
variable (h:Le r r')
include h
theorem qy2(τ)(st)(e):Co (src r τ st e) λm=>src (r' m) τ st e:=by
 cases e with
 |rng1 a=>exact (?q).bind λp=>.refl _
 |rng2 a b=>exact (?q).bind λp=>(h.ev τ _ b).bind λq=>.refl _
 |zip a b=>exact (?q).bind λp=>(h.ev τ _ b).bind λq=>.refl _
 |enu a=>exact (?q).bind λp=>.refl _
 |rev a=>exact (?q).bind λp=>.refl _
 |_=>exact(h.ev τ st _).bind λp=>.refl _
theorem qv1(τ)(st)(e):Co (part r τ st e) λm=>part (r' m) τ st e:=by
 cases e with
 |none=>exact .refl _
 |some e=>exact(h.ev τ st e).bind λp=>.refl _
theorem qbw(t)(test)(elt)(τ)(st)(d):Co (turnC r t test elt τ st d) λm=>turnC (r' m) t test elt τ st d:=by
 unfold turnC;refine(Co.refl _).bind λτ'=>?_
 cases test with
 |none=>exact(h.ev _ _ _).map _
 |some c=>exact(h.tst _ _ _).bind λb=>Co.ite ((h.ev _ _ _).map _) (.refl _)
theorem qwh(τ)(st)(neg)(a b):Co (dinR r τ st neg a b) λm=>dinR (r' m) τ st neg a b:=(?q).bind λp=>(h.ev τ _ b).bind λq=>.refl _
theorem qwb(τ)(st)(neg)(ks)(b):Co (ginR r τ st neg ks b) λm=>ginR (r' m) τ st neg ks b:=(h.ev τ st b).bind λp=>.refl _
theorem qjh(τ)(st)(e):Co (stepEv r τ st e) λm=>stepEv (r' m) τ st e:=by
 cases e with
 |var i=>exact .refl _
 |lit d=>exact .refl _
 |glo x d=>exact .refl _
 |bin j a b=>exact (?q).bind λp=>(h.ev τ _ b).bind λq=>.refl _
 |neg a=>exact (?q).bind λp=>.refl _
 |not a=>exact (?q).bind λp=>.refl _
 |cmp j a b=>exact (?q).bind λp=>(h.ev τ _ b).bind λq=>.refl _
 |cmp2 j n a b c=>exact (?q).bind λp=>(h.ev τ _ b).bind λq=>(Co.refl _).bind λk=>Co.ite ((h.ev τ _ c).bind λu=>.refl _) (.refl _)
 |and a b=>
  refine (?q).bind λp=>?_;obtain⟨d,s⟩:=p
  cases d with
  |bl k=>cases k with
   |true=>exact h.ev τ _ b
   |false=>exact .refl _
  |_=>exact .refl _
 |or a b=>
  refine (?q).bind λp=>?_;obtain⟨d,s⟩:=p
  cases d with
  |bl k=>cases k with
   |false=>exact h.ev τ _ b
   |true=>exact .refl _
  |_=>exact .refl _
 |ite c a b=>exact(h.tst τ st c).bind λp=>Co.ite (h.ev τ _ a) (h.ev τ _ b)
 |tup es=>exact(qz4 (h.ev τ) es st).bind λp=>.refl _
 |lst es=>exact(qz4 (h.ev τ) es st).bind λp=>.refl _
 |idx a b=>exact (?q).bind λp=>(h.ev τ _ b).bind λq=>.refl _
 |sli a lo hi=>exact (?q).bind λp=>(qv1 h τ _ lo).bind λl=>(qv1 h τ _ hi).bind λu=>.refl _
 |call f es=>exact(qz4 (h.ev τ) es st).bind λp=>h.call f _ _
 |bcall f es=>exact(qz4 (h.ev τ) es st).bind λp=>.refl _
 |isi a ts m=>exact (?q).bind λp=>.refl _
 |lenset a=>exact (?q).bind λp=>.refl _
 |gc a=>exact (?q).map _
 |meth a m es=>exact (?q).bind λp=>Co.ite ((qz4 (h.ev τ) es _).bind λq=>.refl _) (.refl _)
 |rng1 a=>exact .refl _
 |rng2 a b=>exact .refl _
 |zip a b=>exact .refl _
 |enu a=>exact .refl _
 |rev a=>exact .refl _
 |dic es=>exact(qz4 (h.ev τ) es _).bind λp=>.refl _
 |didx a b=>exact (?q).bind λp=>(h.ev τ _ b).bind λq=>.refl _
 |din neg a b=>exact qwh h τ st neg a b
 |dgt a b=>
  refine (?q).bind λp=>?_;obtain⟨d,s⟩:=p
  cases d with
  |loc l=>exact(Co.refl _).bind λ_=>(h.ev τ _ b).bind λq=>.refl _
  |_=>exact .refl _
 |dpop a b=>
  refine (?q).bind λp=>?_;obtain⟨d,s⟩:=p
  cases d with
  |loc l=>exact(Co.refl _).bind λ_=>(h.ev τ _ b).bind λq=>.refl _
  |_=>exact .refl _
 |gidx x ks ds b=>exact(h.ev τ st b).bind λp=>.refl _
 |gin neg x ks b=>exact qwb h τ st neg ks b
 |comp t it g elt sr=>exact(qy2 h τ st it).bind λp=>(qkn (qbw h t g elt) _ _ _ _ _).map _
 |attr C a f=>exact (?q).bind λp=>.refl _
 |mcall C f m a es=>exact (?q).bind λp=>(Co.refl _).bind λfs=>Co.ite (.refl _) ((qz4 (h.ev τ) es _).bind λq=>h.call f _ _)
 |new C f es=>exact(qz4 (h.ev τ) es st).bind λp=>(h.call f _ _).bind λq=>.refl _
theorem qxu(τ)(st)(e):Co (stepTst r τ st e) λm=>stepTst (r' m) τ st e:=by
 cases e with
 |not a=>exact(h.tst τ st a).map _
 |and a b=>exact(h.tst τ st a).bind λp=>Co.ite (h.tst τ _ b) (.refl _)
 |or a b=>exact(h.tst τ st a).bind λp=>Co.ite (.refl _) (h.tst τ _ b)
 |ite _ _ _=>exact .refl _
 |din neg a b=>exact(qwh h τ st neg a b).bind λp=>.refl _
 |gin neg x ks b=>exact(qwb h τ st neg ks b).bind λp=>.refl _
 |cmp f a b=>exact (?q).bind λp=>(h.ev τ _ b).bind λq=>.refl _
 |cmp2 f d a b c=>exact (?q).bind λp=>(h.ev τ _ b).bind λq=>(Co.refl _).bind λk=>Co.ite ((h.ev τ _ c).bind λu=>.refl _) (.refl _)
 |_=>exact(h.ev τ st _).bind λp=>.refl _
theorem qjg(τ)(st)(s):Co (stepEx r τ st s) λm=>stepEx (r' m) τ st s:=by
 cases s with
 |set t e=>exact(h.ev τ st e).bind λp=>.refl _
 |dset a i e=>exact(h.ev τ st e).bind λp=>(h.ev τ _ a).bind λq=>(h.ev τ _ i).bind λu=>.refl _
 |bad=>exact .refl _
 |setA C a f e=>exact(h.ev τ st e).bind λp=>(h.ev τ _ a).bind λq=>.refl _
 |ford t a body=>
  refine (?q).bind λp=>?_;obtain⟨d,s⟩:=p
  cases d with
  |loc l=>exact(Co.refl _).bind λkvs=>(qjs (λτ st d=>(Co.refl _).bind λτ'=>h.ex τ' st body) _ _ _ _).bind λq=>.refl _
  |_=>exact .refl _
 |expr e=>exact(h.ev τ st e).map _
 |ret e=>exact(h.ev τ st e).map _
 |ite c a b=>exact(h.tst τ st c).bind λp=>Co.ite (h.ex τ _ a) (h.ex τ _ b)
 |forr t it body=>exact(qy2 h τ st it).bind λp=>qjs (λτ st d=>(Co.refl _).bind λτ'=>h.ex τ' st body) _ _ _ _
theorem qc2(c:Y0->L D->Y2->Y3 (D×Y2)):Le (step c r) λm=>step c (r' m):=
 ⟨qjh h,qxu h,λτ st a=>qva (qjg h) a τ st,λf ds st=>.refl _⟩
end
theorem qjk(c:Y0->L D->Y2->Y3 (D×Y2)):∀n,Le (runK c n) λ_=>runK c (n+1)
 |0=>⟨λ_ _ _=>.none _,λ_ _ _=>.none _,λ_ _ _=>.none _,λ_ _ _=>.refl _⟩
 |n+1=>qc2 (qjk c n) c
section
def ev_up(h:(runK c n).ev τ st e=Y x)(b:n<=N):(runK c N).ev τ st e=Y x:=by
 induction b with
 |refl=>exact h
 |step _ a=>obtain⟨k,hk⟩:=(qjk c _).ev τ st e x a; exact hk k (Qqv _)
def qir(h:(runK c n).tst τ st e=Y x)(b:n<=N):(runK c N).tst τ st e=Y x:=by
 induction b with
 |refl=>exact h
 |step _ a=>obtain⟨k,hk⟩:=(qjk c _).tst τ st e x a; exact hk k (Qqv _)
def ex_up(h:(runK c n).ex τ st e=Y x)(b:n<=N):(runK c N).ex τ st e=Y x:=by
 induction b with
 |refl=>exact h
 |step _ a=>obtain⟨k,hk⟩:=(qjk c _).ex τ st e x a; exact hk k (Qqv _)
end
def qyv(up:∀n N x,f n=Y x->n<=N->f N=Y x)(h:f n=Y x):lim1 f=Y x:=by
 have a:∃x,∃n,f n=Y x:=⟨x,n,h⟩
 unfold lim1;rw[dif_pos a];obtain⟨k,hk⟩:=a.choose_spec;have c:=up _ (max n k) _ h (by lia);have b:=up _ (max n k) _ hk (by lia);rw[c]at b;exact b.symm
section
end
section
variable {r:R}{s:Src}{S:Y2}{rest:Sl}{elt:E}{ds:L D}
theorem qv8(a:∀i,s.at S i=Y ds[i]?)(c:es.length=ds.length)(b:ds.length<lim)(f:∀(i:Y0) (d e:D),ds[i]?=Y d->es[i]?=Y e->r.ev (Y d::rest) S elt=Y (e,S)):
  ∀(k i:Y0) (o:Y3 D),i+k=ds.length->loopC s (turnC r ?L B elt) (k+1) i (es.take i) (o::rest) S=Y (es,S)
 |0,i,o,h=>by
  have e:i=ds.length:=by lia
  subst e;have h1:es.take ds.length=es:=Qx4 (by lia);rw[loopC,a,h1];simp only[oBs,Qz1 (Qqv _)];rw[Z5 (by lia)]
 |k+1,i,o,h=>by
  have hi:i<ds.length:=by lia
  have h1:ds[i]?=Y ds[i]:=by simp
  have h2:es[i]?=Y (es[i]'(by lia)):=by simp
  have g:=f i _ _ h1 h2;rw[loopC,a,h1];simp only[oBs];rw[Z5 (by rw[Qq9]; lia)];have j:turnC r ?L B elt (o::rest) S ds[i]=Y (Y (es[i]'(by lia)),Y ds[i]::rest,S):=by
   unfold turnC;simp only[setT,Qqh,Qkz,if_true,Qj5,oBs,g,oMs]
  rw[j];simp only[oBs];rw[show es.take i++[es[i]'(by lia)]=es.take (i+1) by rw[Qzy (by lia)]];exact qv8 a c b f k (i+1) _ (by lia)
theorem qx2(a:∀i,s.at S i=Y ds[i]?)(g:ds.length<lim)(hc:∀(i:Y0) (d:D),ds[i]?=Y d->r.tst (Y d::rest) S c=Y (p d,S))(f:D->D)(m:∀(i:Y0) (d:D),ds[i]?=Y d->p d=O->r.ev (Y d::rest) S elt=Y (f d,S)):
  ∀(k i:Y0) (o:Y3 D),i+k=ds.length->loopC s (turnC r ?L (Y c) elt) (k+1) i (((ds.take i).filter p).map f) (o::rest) S=Y ((ds.filter p).map f,S)
 |0,i,o,h=>by
  have e:i=ds.length:=by lia
  subst e;rw[loopC,a,Qx4 (Qqv _)];simp only[oBs,Qz1 (Qqv _)];have:=Qzd p ds;rw[Z5 (by rw[Qqz]; lia)]
 |k+1,i,o,h=>by
  have hi:i<ds.length:=by lia
  have h1:ds[i]?=Y ds[i]:=by simp
  rw[loopC,a,h1];simp only[oBs];have t:=Qzd p (ds.take i);have q:(ds.take i).length<=ds.length:=by rw[Qq9]; lia
  rw[Z5 (by rw[Qqz]; lia)];have n:=Qzy (by omega);have j:=qx2 a g hc f m k (i+1) (Y ds[i]) (by lia)
  cases b:p ds[i] with
  |true=>
   have l:turnC r ?L (Y c) elt (o::rest) S ds[i]=Y (Y (f ds[i]),Y ds[i]::rest,S):=by
    unfold turnC;simp only[setT,Qqh,Qkz,if_true,Qj5,oBs,hc i _ h1,b,m i _ h1 b,oMs]
   rw[l];simp only[oBs];rw[n,Qza,Qqm]at j;simpa[b] using j
  |false=>
   have l:turnC r ?L (Y c) elt (o::rest) S ds[i]=Y (B,Y ds[i]::rest,S):=by
    unfold turnC;simp only[setT,Qqh,Qkz,if_true,Qj5,oBs,hc i _ h1,b,Qzm,if_false]
   rw[l];simp only[oBs];rw[n,Qza,Qqm]at j;simpa[b] using j
end
def qxf{S:Y2}{ds:L D}(a:src r τ S it=Y (s,S'))(g:∀i,s.at S' i=Y ds[i]?)(hsz:s.size S'=ds.length)(f:inner sr τ=B::rest)(c:es.length=ds.length)(b:ds.length<lim)(j:∀(i:Y0) (d e:D),ds[i]?=Y d->es[i]?=Y e->r.ev (Y d::rest) S' elt=Y (e,S')):stepEv r τ S (.comp ?L it B elt sr)=Y (.loc S'.length,S'++[.lst O es]):=by
 have h:=qv8 g c b j ds.length 0 B (by lia);show((src r τ S it).bind λp=>(loopC p.1 (turnC r ?L B elt) (p.1.size p.2+1) 0 [] (inner sr τ) p.2).map λq=>alloc q.2 (.lst O q.1))=_;rw[a];simp only[oBs,hsz,f];rw[show([]:L D)=es.take 0 by simp,h]
 rfl
def qkj{S:Y2}{ds:L D}(f:D->D)(a:src r τ S it=Y (s,S'))(g:∀i,s.at S' i=Y ds[i]?)(hsz:s.size S'=ds.length)(e:inner sr τ=B::rest)(b:ds.length<lim)(hc:∀(i:Y0) (d:D),ds[i]?=Y d->r.tst (Y d::rest) S' c=Y (p d,S'))(j:∀(i:Y0) (d:D),ds[i]?=Y d->p d=O->r.ev (Y d::rest) S' elt=Y (f d,S')):stepEv r τ S (.comp ?L it (Y c) elt sr)=Y (.loc S'.length,S'++[.lst O ((ds.filter p).map f)]):=by
 have h:=qx2 g b hc f j ds.length 0 B (by lia);show((src r τ S it).bind λp=>(loopC p.1 (turnC r ?L (Y c) elt) (p.1.size p.2+1) 0 [] (inner sr τ) p.2).map λq=>alloc q.2 (.lst O q.1))=_;rw[a];simp only[oBs,hsz,e];simp only[Qke,Qx0,Qx7]at h;rw[h]
 rfl
def qqq{S:Y2}(h:seqAt S q=Y ds)(i):(Src.lst q).at S i=Y ds[i]?:=by simp[Src.at,h]
def qzn{S:Y2}(h:seqAt S q=Y ds):(Src.lst q).size S=ds.length:=by simp[Src.size,h]
def qx7{S:Y2}(a)(n)(i):(Src.rng a n).at S i=Y ((List.range n).map λ(j:Y0)=>D.int (a+j))[i]?:=by
 simp only[Src.at,Qqw]
 by_cases h:i<n
 ·rw[Z6 h,Qjz h]; rfl
 ·rw[Z5 h,Qz1 (by simpa using h)]; rfl
theorem qv7{ds:L D}(P:Y0->Sl->Y2->Prop)(a:∀i τ st,P i τ st->s.at st i=Y ds[i]?)(hs:∀i τ st d,ds[i]?=Y d->P i τ st->∃τ' st',f τ st d=Y (.nx τ',st')/\P (i+1) τ' st'):
  ∀(k i:Y0) (τ:Sl) (st:Y2),i+k=ds.length->P i τ st->∃τ' st',loop s f (k+1) i τ st=Y (.nx τ',st')/\P ds.length τ' st'
 |0,i,τ,st,h,p=>by
  have e:i=ds.length:=h;subst e;refine⟨τ,st,?_,p⟩;rw[loop,a _ _ _ p,Qz1 (Qqv _)]
  rfl
 |k+1,i,τ,st,h,p=>by
  have h1:=Qqd (l:=ds) (i:=i) (by lia);rw[loop,a _ _ _ p,h1];simp only[oBs];obtain⟨τ',st',e,q⟩:=hs i τ st _ h1 p;rw[e];exact qv7 P a hs k (i+1) τ' st' (by lia) q
def qab{ds:L D}(P:Y0->Sl->Y2->Prop)(b:P 0 τ st)(hsz:s.size st=ds.length)(a:∀i τ st,P i τ st->s.at st i=Y ds[i]?)(hs:∀i τ st d,ds[i]?=Y d->P i τ st->∃τ' st',f τ st d=Y (.nx τ',st')/\P (i+1) τ' st'):
  ∃τ' st',loop s f (s.size st+1) 0 τ st=Y (.nx τ',st')/\P ds.length τ' st':=by
 rw[hsz];exact qv7 P a hs ds.length 0 τ st (Qzp _) b
section
def gc_x(h:p.2.take st.length=st):gcD st p=gcX st.length p:=by
 unfold gcD;rw[Z6 h,ite_self]
def qv4:noLoc (.tup ds)=noLocs ds:=by rw[noLoc]
def qyz:noLocs (d::ds)=(noLoc d&&noLocs ds):=rfl
theorem qqs:∀{ds},noLocs ds=ds.all noLoc
 |[]=>rfl
 |d::ds=>by rw[qyz,Qz7,qqs]
def qd7(h:∀d∈ds,noLoc d=O):noLocs ds=true:=by rw[qqs,Qzc]; exact h
def qzy{α:Type}{xs:L α}{g:α->D}(h:∀x∈xs,noLoc (g x)=O):noLocs (xs.map g)=true:=qd7 λd hd=>by
 obtain⟨x,a,rfl⟩:=Qqj.mp hd;exact h x a
def qzv(h:noLocs ds=O):gcD st (.loc st.length,st++[.lst O ds])=(.lst ds,st):=by
 rw[gc_x (by simp)];unfold gcX;rw[Z5 (by simp[noLoc])];simp[h]
end
def qz5(d:-(2 ^ 64)<b)(c:b<2 ^ 64):mulOk a b=true:=by unfold mulOk; simp; lia
section
end
def bMo(S)(a)(h:0<b):binop S .Mod (.int a) (.int b)=Y (.int (a % b),S):=by
 simp only[binop];rw[Z6 h]
def bDi(S)(a)(h:0<b)(c:b<2 ^ 64):binop S .FloorDiv (.int a) (.int b)=Y (.int (a / b),S):=by
 simp only[binop];rw[Z6 ⟨h,c⟩]
abbrev CF:=Y0->L D->Y2->Y3 (D×Y2)
section
end
section
end
section
end
end M
end
section
namespace M
open PySem (Str CmpOp Operator)
inductive It where
 /-- a test comes out so -/
 |b (k:Yb)
 /-- a call answers so -/
 |c (a:D×Y2)
 /-- seen by the kernel -/
 |k
 /-- what lies in a cell -/
 |r (c:Ya)
 /-- what a dict has at a key -/
 |q (o:Y3 D)
 /-- what lies at an index -/
 |i (d:D)
 |n
 /-- a part leaves nothing behind -/
 |g
 /-- a part leaves a list -/
 |l (ds:L D)
 /-- a loop ends so -/
 |s (o:Out×Y2)
 /-- slots and store stand so -/
 |e (p:Sl×Y2)
 /-- an if ends so -/
 |t (o:Out×Y2)
abbrev Tp:=L It
noncomputable def TM(α:Type):=Tp->(α->Tp->Prop)->Prop
noncomputable def TM.bind{α β:Type}(x:TM α)(f:α->TM β):TM β:=λt K=>x t λa t'=>f a t' K
noncomputable def TM.map{α β:Type}(x:TM α)(f:α->β):TM β:=λt K=>x t λa t'=>K (f a) t'
noncomputable def no{α:Type}:TM α:=λ_ _=>False
noncomputable def lf{α:Type}:Y3 α->TM α
 |some a=>λt K=>K a t
 |none=>no
noncomputable def ys{α:Type}(a:α):TM α:=λt K=>K a t
noncomputable def askB(p:Yb):TM Bool:=λt K=>match t with
 |.b k::t'=>p=k/\K k t'
 |.k::t'=>K p t'
 |_=>False
noncomputable def askC(o:Y3 (D×Y2)):TM (D×Y2):=λt K=>match t with
 |.c a::t'=>o=Y a/\K a t'
 |_=>False
noncomputable def askD(o:Y3 (D×Y2)):TM (D×Y2):=λt K=>match t with
 |.c a::t'=>o=Y a/\K a t'
 |t=>lf o t K
noncomputable def askE(o:Y3 (D×Y2))(x:TM (D×Y2)):TM (D×Y2):=λt K=>match t with
 |.c a::t'=>o=Y a/\K a t'
 |t=>x t K
noncomputable def askS(o:Y3 (Out×Y2))(x:TM (Out×Y2)):TM (Out×Y2):=λt K=>match t with
 |.s a::t'=>o=Y a/\K a t'
 |t=>x t K
noncomputable def askT(o:Y3 (Out×Y2))(x:TM (Out×Y2)):TM (Out×Y2):=λt K=>match t with
 |.t a::t'=>o=Y a/\K a t'
 |t=>x t K
noncomputable def askQ(o:Y3 D):TM (Y3 D):=λt K=>match t with
 |.q a::t'=>o=a/\K a t'
 |.k::t'=>K o t'
 |_=>False
noncomputable def askI(o:Y3 D):TM D:=λt K=>match t with
 |.i a::t'=>o=Y a/\K a t'
 |.n::t'=>lf o t' K
 |t=>lf o t K
noncomputable def askR(o:Y3 Ya):TM Ya:=λt K=>match t with
 |.r c::t'=>o=Y c/\K c t'
 |_=>False
noncomputable def askN(p:Sl×Y2):TM (Sl×Y2):=λt K=>match t with
 |.e q::t'=>p=q/\K q t'
 |t=>K p t
noncomputable def rdT(n:Y0)(st:Y2)(l:Y0):TM Ya:=if Nat.blt l n then lf st[l]? else askR st[l]?
noncomputable def Ya.ls:Ya->Y3 (L D)
 |.lst _ ds=>Y ds
 |_=>B
noncomputable def Ya.wls:Ya->Y3 (L D)
 |.lst O ds=>Y ds
 |_=>B
noncomputable def Ya.dc:Ya->Y3 (L (D×D))
 |.dic _ ds=>Y ds
 |_=>B
noncomputable def Ya.wdc:Ya->Y3 (L (D×D))
 |.dic O ds=>Y ds
 |_=>B
noncomputable def Ya.ob(C:Y0):Ya->Y3 (L (Y5×D))
 |.obj C' fs=>if C'=C then Y fs else B
 |_=>B
noncomputable def seqT(n:Y0)(st:Y2):D->TM (L D)
 |.loc l=>(rdT n st l).bind λc=>lf c.ls
 |.lst ds=>ys ds
 |_=>no
noncomputable def rowT(n:Y0)(st:Y2):D->TM (L D)
 |.tup ds=>ys ds
 |d=>seqT n st d
noncomputable def wlT(n:Y0)(st:Y2)(l:Y0):TM (L D):=(rdT n st l).bind λc=>lf c.wls
noncomputable def dcT(n:Y0)(st:Y2)(l:Y0):TM (L (D×D)):=(rdT n st l).bind λc=>lf c.dc
noncomputable def wdT(n:Y0)(st:Y2)(l:Y0):TM (L (D×D)):=(rdT n st l).bind λc=>lf c.wdc
noncomputable def obT(n:Y0)(st:Y2)(C:Y0):D->TM (L (Y5×D))
 |.loc l=>(rdT n st l).bind λc=>lf (c.ob C)
 |_=>no
noncomputable def qoe:CmpOp->D->Yb
 |.Lt,_=>O
 |.LtE,_=>O
 |.Gt,_=>O
 |.GtE,_=>O
 |.Is,_=>O
 |.IsNot,_=>O
 |.Eq,.int _=>O
 |.NotEq,.int _=>O
 |_,_=>Y6
noncomputable def isLs:D->Yb
 |.loc _=>O
 |.lst _=>O
 |_=>Y6
noncomputable def isAsk:CmpOp->D->D->Yb
 |.In,_,y=>isLs y
 |.NotIn,_,y=>isLs y
 |.Eq,x,_=>isLs x
 |.NotEq,x,_=>isLs x
 |_,_,_=>Y6
noncomputable def askO(o:Y3 Yb):TM Bool:=λt K=>match t with
 |.b k::t'=>o=Y k/\K k t'
 |.k::t'=>lf o t' K
 |_=>False
noncomputable def cmpT(st:Y2)(op:CmpOp)(x y:D):TM Bool:=if isAsk op x y then askO (cmpD st op x y) else(lf (cmpD st op x y)).bind λp=>if qoe op x then askB p else ys p
noncomputable def qit(n:Y0)(st:Y2)(d:D):TM Bool:=match d with
 |.loc l=>(seqT n st (.loc l)).bind λds=>askB (!ds.isEmpty)
 |.lst ds=>askB (!ds.isEmpty)
 |d=>lf (truth st d)
noncomputable def addT(n:Y0)(st:Y2)(a b:D):TM (D×Y2):=(seqT n st a).bind λx=>(seqT n st b).bind λy=>(askB (decide (lim<x.length+y.length))).bind λk=>if k then no else ys (alloc st (.lst O (x++y)))
noncomputable def binT(n:Y0)(st:Y2)(op:Zi)(a b:D):TM (D×Y2):=match op,a with
 |.Add,.loc l=>addT n st (.loc l) b
 |.Add,.lst l=>addT n st (.lst l) b
 |.Mult,.int i=>match b with
  |.int j=>(askB (mulOk i j)).bind λk=>if k then ys (.int (i*j),st) else no
  |b=>lf (binop st .Mult (.int i) b)
 |.Mult,.tup l=>askD (binop st .Mult (.tup l) b)
 |.Mod,.int i=>askD (binop st .Mod (.int i) b)
 |.FloorDiv,.int i=>askD (binop st .FloorDiv (.int i) b)
 |op,a=>lf (binop st op a b)
noncomputable def qyj(n:Y0)(st:Y2)(m:Mt)(d:D)(es:L D):TM (D×Y2):=match m with
 |.append=>match d,es with
  |.loc l,[d]=>(wlT n st l).bind λds=>(askB (decide (ds.length<lim))).bind λb=>if b then ys (.non,st.set l (.lst O (ds++[d]))) else no
  |_,_=>no
 |.extend=>match d,es with
  |.loc l,[d]=>(wlT n st l).bind λds=>(rowT n st d).bind λes=>(askB (decide (ds.length+es.length<=lim))).bind λb=>if b then ys (.non,st.set l (.lst O (ds++es))) else no
  |_,_=>no
 |.insert=>match d,es with
  |.loc l,[.int i,d]=>(wlT n st l).bind λds=>(askB (decide (0<=i/\i<=ds.length/\ds.length<lim))).bind λb=>if b then ys (.non,st.set l (.lst O (ds.take i.toNat++d::ds.drop i.toNat))) else no
  |_,_=>no
 |.pop=>match d,es with
  |.loc l,[.int i]=>(wlT n st l).bind λds=>askD (if 0<=i/\i<ds.length/\ds.length<lim then(ds[i.toNat]?).map λd=>(d,st.set l (.lst O (ds.eraseIdx i.toNat))) else B)
  |_,_=>no
 |.index=>match es with
  |[x]=>(seqT n st d).bind λds=>askD (if flat 9 x&&flats 9 ds then(ds.findIdx? λy=>eqT y x).map λ(j:Y0)=>(.int (j:J),st) else B)
  |_=>no
noncomputable def sliT(n:Y0)(st:Y2):D->Y3 J->Y3 J->TM (D×Y2)
 |.tup ds,lo,hi=>ys (.tup (cut ds lo hi),st)
 |d,lo,hi=>(seqT n st d).map λds=>alloc st (.lst O (cut ds lo hi))
noncomputable def tyT(n:Y0)(st:Y2):D->TM Ty
 |.non=>ys .non
 |.bl _=>ys .bl
 |.int _=>ys .int
 |.str _=>ys .str
 |.tup _=>ys .tup
 |d=>(seqT n st d).map λ_=>.lst
noncomputable def mtyT(n:Y0)(st:Y2)(m:Mt)(d:D):TM Bool:=match d with
 |.str _=>ys (!m.ofList)
 |.lst _=>ys m.ofList
 |.loc l=>(seqT n st (.loc l)).bind λ_=>ys m.ofList
 |_=>no
noncomputable def qpv(n:Y0)(st:Y2)(f:Bq)(ds:L D):TM (D×Y2):=match f with
 |.len=>match ds with
  |[.loc l]=>(seqT n st (.loc l)).bind λxs=>ys (.int xs.length,st)
  |ds=>lf (bfun st .len ds)
 |.list=>match ds with
  |[.loc l]=>(rdT n st l).bind λc=>(lf (c.ls.or (c.dc.map keysOf))).bind λxs=>ys (alloc st (.lst O xs))
  |ds=>lf (bfun st .list ds)
 |.tuple=>match ds with
  |[.loc l]=>(seqT n st (.loc l)).bind λxs=>ys (.tup xs,st)
  |ds=>lf (bfun st .tuple ds)
 |.max=>match ds with
  |[.int i,.int j]=>(askB (decide (j > i))).bind λk=>ys (.int (if k then j else i),st)
  |_=>no
 |.min=>match ds with
  |[.int i,.int j]=>(askB (decide (j<i))).bind λk=>ys (.int (if k then j else i),st)
  |_=>no
 |f=>askD (bfun st f ds)
structure RT where
 rl:R
 ev:Sl->Y2->E->TM (D×Y2)
 tst:Sl->Y2->E->TM (Yb×Y2)
 ex:Sl->Y2->L S->TM (Out×Y2)
 call:Y0->L D->Y2->TM (D×Y2)
noncomputable def gcT(st:Y2)(p:D×Y2):TM (D×Y2):=λt K=>match t with
 |.g::t'=>(noLoc p.1=O/\p.2.take st.length=st)/\K (p.1,st) t'
 |.l ds::t'=>gcD st p=(.lst ds,st)/\K (.lst ds,st) t'
 |.k::t'=>K (gcD st p) t'
 |_=>False
noncomputable def evsT(f:Y2->E->TM (D×Y2)):L E->Y2->TM (L D×Y2)
 |[],st=>ys ([],st)
 |e::es,st=>(f st e).bind λp=>(evsT f es p.2).bind λq=>ys (p.1::q.1,q.2)
noncomputable def srcT(n:Y0)(r:RT)(τ:Sl)(st:Y2):E->TM (Src×Y2)
 |.rng1 a=>(?l).bind λp=>match p.1 with
  |.int n=>if big n then no else ys (.rng 0 n.toNat,p.2)
  |_=>no
 |.zip a b=>(?l).bind λp=>(?N).bind λq=>lf ((rowAt q.2 p.1).bind λ_=>(rowAt q.2 q.1).map λ_=>(.zip p.1 q.1,q.2))
 |.enu a=>(?l).bind λp=>lf ((rowAt p.2 p.1).map λ_=>(.enu p.1,p.2))
 |.rev a=>(?l).bind λp=>lf (match p.1 with
  |.tup ds=>Y (.rev ds,p.2)
  |_=>B)
 |.rng2 _ _=>no
 |e=>(?qj).bind λp=>match p.1 with
  |.tup ds=>ys (.tup ds,p.2)
  |.str z=>no
  |d=>(seqT n p.2 d).map λ_=>(.lst d,p.2)
noncomputable def qhu(it:Src)(f:Sl->Y2->D->TM (Out×Y2)):Y0->Y0->Sl->Y2->TM (Out×Y2)
 |0,_,_,_=>no
 |k+1,i,τ,st=>(lf (it.at st i)).bind λo=>match o with
  |none=>ys (.nx τ,st)
  |some d=>(f τ st d).bind λp=>match p.1 with
   |.nx τ'=>qhu it f k (i+1) τ' p.2
   |.rt v=>ys (.rt v,p.2)
noncomputable def turnT(r:RT)(t:T)(test:Y3 E)(elt:E)(τ:Sl)(st:Y2)(d:D):TM (Y3 D×Sl×Y2):=
 (lf (setT t d τ)).bind λτ'=>match test with
  |none=>(r.ev τ' st elt).map λp=>(Y p.1,τ',p.2)
  |some c=>(r.tst τ' st c).bind λb=>if b.1 then(r.ev τ' b.2 elt).map λp=>(Y p.1,τ',p.2) else ys (B,τ',b.2)
noncomputable def qad(it:Src)(f:Sl->Y2->D->TM (Y3 D×Sl×Y2)):Y0->Y0->L D->Sl->Y2->TM (L D×Y2)
 |0,_,_,_,_=>no
 |k+1,i,acc,τ,st=>(lf (it.at st i)).bind λo=>match o with
  |none=>if lim<acc.length then no else ys (acc,st)
  |some d=>if lim<=acc.length then no else(f τ st d).bind λp=>qad it f k (i+1) (match p.1 with|some x=>acc++[x]|none=>acc) p.2.1 p.2.2
noncomputable def qnp(r:RT)(τ:Sl)(st:Y2):Y3 E->TM (Y3 J×Y2)
 |none=>ys (B,st)
 |some e=>(?qj).bind λp=>match p.1 with
  |.int i=>ys (Y i,p.2)
  |_=>no
noncomputable def dgT(n:Y0)(p:D×Y2)(k:D)(st:Y2):TM (Y3 D):=match p.1 with
 |.loc l=>(dcT n st l).bind λkvs=>if isKey k then askQ (dget kvs k) else no
 |_=>no
noncomputable def qc4(n:Y0)(r:RT)(τ:Sl)(st:Y2):E->TM (D×Y2)
 |.var i=>lf (match τ[i]? with
  |some (Y d)=>Y (d,st)
  |_=>B)
 |.lit d=>ys (d,st)
 |.glo _ d=>ys (d,st)
 |.bin op a b=>(?l).bind λp=>(?N).bind λq=>binT n q.2 op p.1 q.1
 |.neg a=>(?l).bind λp=>lf (match p.1 with
  |.int i=>Y (.int (-i),p.2)
  |_=>B)
 |.not a=>(?l).bind λp=>lf (match p.1 with
  |.bl b=>Y (.bl (!b),p.2)
  |_=>B)
 |.cmp op a b=>(?l).bind λp=>(?N).bind λq=>(cmpT q.2 op p.1 q.1).map λk=>(.bl k,q.2)
 |.cmp2 op op' a b c=>(?l).bind λp=>(?N).bind λq=>(cmpT q.2 op p.1 q.1).bind λk=>
   if k then(r.ev τ q.2 c).bind λu=>(cmpT u.2 op' q.1 u.1).map λk'=>(.bl k',u.2) else ys (.bl Y6,q.2)
 |.and a b=>(?l).bind λp=>match p.1 with
  |.bl O=>r.ev τ p.2 b
  |.bl Y6=>ys (.bl Y6,p.2)
  |_=>no
 |.or a b=>(?l).bind λp=>match p.1 with
  |.bl Y6=>r.ev τ p.2 b
  |.bl O=>ys (.bl O,p.2)
  |_=>no
 |.ite c a b=>(r.tst τ st c).bind λp=>if p.1 then r.ev τ p.2 a else r.ev τ p.2 b
 |.tup es=>(evsT (r.ev τ) es st).bind λp=>if lim<p.1.length then no else ys (.tup p.1,p.2)
 |.lst es=>(evsT (r.ev τ) es st).bind λp=>if lim<p.1.length then no else ys (alloc p.2 (.lst O p.1))
 |.idx a b=>(?l).bind λp=>(?N).bind λq=>(askI (idxD q.2 p.1 q.1)).map λd=>(d,q.2)
 |.sli a lo hi=>(?l).bind λp=>(qnp r τ p.2 lo).bind λl=>(qnp r τ l.2 hi).bind λh=>sliT n h.2 p.1 l.1 h.1
 |.call f es=>(evsT (r.ev τ) es st).bind λp=>r.call f p.1 p.2
 |.bcall f es=>(evsT (r.ev τ) es st).bind λp=>qpv n p.2 f p.1
 |.isi a ts _=>(?l).bind λp=>(tyT n p.2 p.1).map λn=>(.bl (ts.any λt=>tyIs t n),p.2)
 |.meth a m es=>(?l).bind λp=>(mtyT n p.2 m p.1).bind λk=>if k then(evsT (r.ev τ) es p.2).bind λq=>qyj n q.2 m p.1 q.1 else no
 |.gc a=>(?l).bind λp=>gcT st p
 |.dic es=>(evsT (r.ev τ) es (st++[.dic O []])).bind λp=>(wdT n p.2 st.length).bind λk0=>lf (match k0 with
  |[]=>(pairUp p.1).bind λkvs=>if kvs.length<=15 then Y (.loc st.length,p.2.set st.length (.dic O (dall kvs))) else B
  |_=>B)
 |.didx a b=>(?l).bind λp=>(?N).bind λq=>(dgT n p q.1 q.2).bind λo=>(lf o).map λd=>(d,q.2)
 |.din neg a b=>(?l).bind λp=>(?N).bind λq=>(dgT n q p.1 q.2).map λo=>(.bl (o.isSome != neg),q.2)
 |.dgt a b=>(?l).bind λp=>match p.1 with
  |.loc l=>(dcT n p.2 l).bind λ_=>(?N).bind λq=>(dgT n p q.1 q.2).bind λo=>ys (o.getD .non,q.2)
  |_=>no
 |.dpop a b=>(?l).bind λp=>match p.1 with
  |.loc l=>(dcT n p.2 l).bind λ_=>(?N).bind λq=>(wdT n q.2 l).bind λkvs=>if isKey q.1 then(askQ (dget kvs q.1)).bind λo=>(lf o).map λd=>(d,q.2.set l (.dic O (ddrop kvs q.1))) else no
  |_=>no
 |.gidx _ ks ds b=>(r.ev τ st b).bind λp=>lf (match p.1 with
  |.str z=>((ks.zip ds).find? λq=>q.1==z).map λq=>(q.2,p.2)
  |_=>B)
 |.gin neg _ ks b=>(r.ev τ st b).bind λp=>lf (match p.1 with
  |.str z=>Y (.bl (ks.contains z != neg),p.2)
  |_=>B)
 |.lenset a=>(?l).bind λp=>(askI (qvv p.1)).map λd=>(d,p.2)
 |.comp t it test elt sr=>askE (stepEv r.rl τ st (.comp t it test elt sr)) ((srcT n r τ st it).bind λp=>
   (qad p.1 (turnT r t test elt) (p.1.size p.2+1) 0 [] (inner sr τ) p.2).map λq=>alloc q.2 (.lst O q.1))
 |.attr C a f=>(?l).bind λp=>(obT n p.2 C p.1).bind λfs=>lf ((fs.lookup f).map λd=>(d,p.2))
 |.mcall C f m a es=>(?l).bind λp=>(obT n p.2 C p.1).bind λfs=>if (fs.lookup m).isSome then no else(evsT (r.ev τ) es p.2).bind λq=>r.call f (p.1::q.1) q.2
 |.new C f es=>(evsT (r.ev τ) es st).bind λp=>(r.call f (.loc p.2.length::p.1) (p.2++[.obj C []])).bind λq=>if isNon q.1 then ys (.loc p.2.length,q.2) else no
 |_=>no
noncomputable def qy1(n:Y0)(r:RT)(τ:Sl)(st:Y2):E->TM (Yb×Y2)
 |.not a=>(r.tst τ st a).map λp=>(!p.1,p.2)
 |.and a b=>(r.tst τ st a).bind λp=>if p.1 then r.tst τ p.2 b else ys (Y6,p.2)
 |.or a b=>(r.tst τ st a).bind λp=>if p.1 then ys (O,p.2) else r.tst τ p.2 b
 |.ite _ _ _=>no
 |.din neg a b=>(?l).bind λp=>(?N).bind λq=>(dgT n q p.1 q.2).map λo=>(o.isSome != neg,q.2)
 |.gin neg _ ks b=>(r.ev τ st b).bind λp=>lf (match p.1 with
  |.str z=>Y (ks.contains z != neg,p.2)
  |_=>B)
 |.cmp op a b=>(?l).bind λp=>(?N).bind λq=>(cmpT q.2 op p.1 q.1).map λk=>(k,q.2)
 |.cmp2 op op' a b c=>(?l).bind λp=>(?N).bind λq=>(cmpT q.2 op p.1 q.1).bind λk=>
   if k then(r.ev τ q.2 c).bind λu=>(cmpT u.2 op' q.1 u.1).map λk'=>(k',u.2) else ys (Y6,q.2)
 |e=>(?qj).bind λp=>(qit n p.2 p.1).map λk=>(k,p.2)
noncomputable def qi2(n:Y0)(r:RT)(τ:Sl)(st:Y2):S->TM (Out×Y2)
 |.set t e=>(?qj).bind λp=>(lf (setT t p.1 τ)).map λτ'=>(.nx τ',p.2)
 |.dset a i e=>(?qj).bind λp=>(r.ev τ p.2 a).bind λq=>(r.ev τ q.2 i).bind λu=>match q.1 with
  |.loc l=>(wdT n u.2 l).bind λkvs=>if isKey u.1 then(askB (decide (kvs.length<lim))).bind λb=>if b then ys (.nx τ,u.2.set l (.dic O (dput kvs u.1 p.1))) else no else no
  |_=>no
 |.setA C a f e=>(?qj).bind λp=>(r.ev τ p.2 a).bind λq=>(obT n q.2 C q.1).bind λfs=>match q.1 with
  |.loc l=>if fs.length<900 then ys (.nx τ,q.2.set l (.obj C (putA f p.1 fs))) else no
  |_=>no
 |.expr e=>(?qj).map λp=>(.nx τ,p.2)
 |.ret e=>(?qj).map λp=>(.rt p.1,p.2)
 |.ite c a b=>askT (stepEx r.rl τ st (.ite c a b)) ((r.tst τ st c).bind λp=>if p.1 then r.ex τ p.2 a else r.ex τ p.2 b)
 |.forr t it body=>askS (stepEx r.rl τ st (.forr t it body)) ((srcT n r τ st it).bind λp=>
   qhu p.1 (λτ st d=>(lf (setT t d τ)).bind λτ'=>r.ex τ' st body) (p.1.size p.2+1) 0 τ p.2)
 |.ford t a body=>askS (stepEx r.rl τ st (.ford t a body)) no
 |_=>no
noncomputable def qk6(n:Y0)(r:RT)(τ:Sl)(st:Y2)(s:S):TM (Out×Y2):=askT (stepEx r.rl τ st s) (qi2 n r τ st s)
noncomputable def exsT(f:Sl->Y2->S->TM (Out×Y2)):L S->Sl->Y2->TM (Out×Y2)
 |[],τ,st=>ys (.nx τ,st)
 |s::ss,τ,st=>(askN (τ,st)).bind λu=>(f u.1 u.2 s).bind λp=>match p.1 with
  |.nx τ'=>exsT f ss τ' p.2
  |o=>ys (o,p.2)
abbrev CT:=Y0->L D->Y2->TM (D×Y2)
noncomputable def runT(n:Y0)(R0:R)(c:CT):Y0->RT
 |0=>⟨R0,λ_ _ _=>no,λ_ _ _=>no,λ_ _ _=>no,c⟩
 |k+1=>⟨R0,qc4 n (runT n R0 c k),qy1 n (runT n R0 c k),λτ st ss=>exsT (qk6 n (runT n R0 c k)) ss τ st,c⟩
noncomputable def qvd(fns:L Fn)(n:Y0)(Oq:L Y0)(k:Y0):Y0->CT
 |0=>λ_ _ _=>no
 |d+1=>λf ds st=>if Oq.contains f then askC (callD fns (k+(d+1)) f ds st) else match fns[f]? with
   |some F=>if (!F.iso||at0 ds)=O then if ds.length=F.np then((runT n ?qo (qvd fns n Oq k d) 40).ex (ds.map Y++List.replicate (F.nl - ds.length) B) st F.body).bind λp=>(match p.1 with
     |.rt d=>ys (d,p.2)
     |.nx _=>ys (.non,p.2))
    else no else no
   |none=>no
def Sn{α:Type}(x:TM α)(y:Y3 α):Prop:=∀t K,x t K->∃a t',y=Y a/\K a t'
theorem Sn.lf:∀(o:Y3 α),Sn (lf o) o
 |some a=>λt K h=>⟨a,t,rfl,h⟩
 |none=>λt K h=>h.elim
theorem Sn.ys(a:α):Sn (ys a) (Y a):=λt K h=>⟨a,t,rfl,h⟩
theorem Sn.no(o:Y3 α):Sn no o:=λt K h=>h.elim
theorem Sn.bind{x:TM α}{y:Y3 α}{f:α->TM b}{g:α->Y3 b}(h:Sn x y)(h':∀a,Sn (f a) (g a)):Sn (x.bind f) (y.bind g):=λt K e=>by
 obtain⟨a,d,rfl,c⟩:=h _ _ e;exact h' a _ _ c
theorem Sn.map{x:TM α}{y:Y3 α}(f:α->b)(h:Sn x y):Sn (x.map f) (y.map f):=λt K e=>by
 obtain⟨a,c,rfl,d⟩:=h _ _ e;exact⟨f a,c,rfl,d⟩
def Sn.ite[Decidable c]{a b:TM α}{d b':Y3 α}(e:Sn a d)(hb:Sn b b'):Sn (if c then a else b) (if c then d else b'):=by
 by_cases h:c
 ·rw[Z6 h,Z6 h]; exact e
 ·rw[Z5 h,Z5 h]; exact hb
def Sn.up{x:TM α}{y y':Y3 α}(h:∀a,y=Y a->y'=Y a)(e:Sn x y):Sn x y':=λt K h1=>by
 obtain⟨a,b,d,c⟩:=e t K h1;exact⟨a,b,h a d,c⟩
def Sn.eq{x:TM α}{y y':Y3 α}(h:y=y')(e:Sn x y):Sn x y':=h▸e
def bm{α a:Type}{o:Y3 α}{f:α->a}:(o.bind λx=>Y (f x))=o.map f:=by cases o<;>rfl
theorem Sn.askB(p):Sn (askB p) (Y p):=λt K h=>by
 cases t with
 |nil=>exact h.elim
 |cons i t=>
  cases i with
  |b k=>obtain⟨rfl,e⟩:=h; exact⟨_,_,rfl,e⟩
  |k=>exact⟨p,t,rfl,h⟩
  |_=>exact h.elim
theorem Sn.askC(o):Sn (askC o) o:=λt K h=>by
 cases t with
 |nil=>exact h.elim
 |cons i t=>
  cases i with
  |c a=>exact⟨a,t,h.1,h.2⟩
  |_=>exact h.elim
theorem Sn.askD(o):Sn (askD o) o:=λt K h=>by
 cases t with
 |nil=>exact Sn.lf o _ _ h
 |cons i t=>
  cases i with
  |c a=>exact⟨a,t,h.1,h.2⟩
  |_=>exact Sn.lf o _ _ h
theorem Sn.askE(h:Sn x o):Sn (askE o x) o:=λt K e=>by
 cases t with
 |nil=>exact h _ _ e
 |cons i t=>
  cases i with
  |c a=>exact⟨a,t,e.1,e.2⟩
  |_=>exact h _ _ e
theorem Sn.askS(h:Sn x o):Sn (askS o x) o:=λt K e=>by
 cases t with
 |nil=>exact h _ _ e
 |cons i t=>
  cases i with
  |s a=>exact⟨a,t,e.1,e.2⟩
  |_=>exact h _ _ e
theorem Sn.askT(h:Sn x o):Sn (askT o x) o:=λt K e=>by
 cases t with
 |nil=>exact h _ _ e
 |cons i t=>
  cases i with
  |t a=>exact⟨a,t,e.1,e.2⟩
  |_=>exact h _ _ e
theorem Sn.askQ(o):Sn (askQ o) (Y o):=λt K h=>by
 cases t with
 |nil=>exact h.elim
 |cons i t=>
  cases i with
  |q a=>exact⟨a,t,congrArg Y h.1,h.2⟩
  |k=>exact⟨o,t,rfl,h⟩
  |_=>exact h.elim
theorem Sn.askI(o):Sn (askI o) o:=λt K h=>by
 cases t with
 |nil=>exact Sn.lf o _ _ h
 |cons i t=>
  cases i with
  |i a=>exact⟨a,t,h.1,h.2⟩
  |n=>exact Sn.lf o _ _ h
  |_=>exact Sn.lf o _ _ h
theorem Sn.askR(o):Sn (askR o) o:=λt K h=>by
 cases t with
 |nil=>exact h.elim
 |cons i t=>
  cases i with
  |r c=>exact⟨c,t,h.1,h.2⟩
  |_=>exact h.elim
theorem Sn.askN(p):Sn (askN p) (Y p):=λt K h=>by
 cases t with
 |nil=>exact⟨p,[],rfl,h⟩
 |cons i t=>
  cases i with
  |e q=>exact⟨q,t,congrArg Y h.1,h.2⟩
  |_=>exact⟨p,_,rfl,h⟩
def Sn.rd(n)(st)(l):Sn (rdT n st l) st[l]?:=by
 unfold rdT
 by_cases hb:Nat.blt l n=O
 ·rw[Z6 hb]; exact .lf _
 ·rw[Z5 hb]; exact .askR _
def Sn.seq(n)(st)(d):Sn (seqT n st d) (seqAt st d):=by
 cases d with
 |loc l=>exact((Sn.rd n st l).bind λc=>.lf _).eq (by show _=listAt st l; unfold listAt; cases st[l]? with|none=>rfl|some c=>cases c<;>rfl)
 |lst ds=>exact .ys _
 |_=>exact .no _
def Sn.sli(n)(st)(d)(a b):Sn (sliT n st d a b) (sliD st d a b):=by
 cases d with
 |tup ds=>exact .ys _
 |_=>exact(Sn.seq n st _).map _
def Sn.ty(n)(st)(d):Sn (tyT n st d) (tyName st d):=by
 cases d with
 |non=>exact .ys _
 |bl _=>exact .ys _
 |int _=>exact .ys _
 |str _=>exact .ys _
 |tup _=>exact .ys _
 |_=>exact(Sn.seq n st _).map _
def Sn.row(n)(st)(d):Sn (rowT n st d) (rowAt st d):=by
 cases d with
 |tup ds=>exact .ys _
 |non=>exact Sn.seq n st .non
 |bl b=>exact Sn.seq n st (.bl b)
 |int b=>exact Sn.seq n st (.int b)
 |str b=>exact Sn.seq n st (.str b)
 |lst b=>exact Sn.seq n st (.lst b)
 |loc b=>exact Sn.seq n st (.loc b)
def Sn.wl(n)(st)(l):Sn (wlT n st l) (wlistAt st l):=((Sn.rd n st l).bind λc=>.lf _).eq (by
 unfold wlistAt
 cases st[l]? with
 |none=>rfl
 |some c=>cases c with
  |lst w ds=>cases w<;>rfl
  |_=>rfl)
def Sn.dc(n)(st)(l):Sn (dcT n st l) (dicAt st l):=((Sn.rd n st l).bind λc=>.lf _).eq (by unfold dicAt; cases st[l]? with|none=>rfl|some c=>cases c<;>rfl)
def Sn.wd(n)(st)(l):Sn (wdT n st l) (wdicAt st l):=((Sn.rd n st l).bind λc=>.lf _).eq (by
 unfold wdicAt
 cases st[l]? with
 |none=>rfl
 |some c=>cases c with
  |dic w ds=>cases w<;>rfl
  |_=>rfl)
def Sn.ob(n)(st)(C)(d):Sn (obT n st C d) (objAt st C d):=by
 cases d with
 |loc l=>exact((Sn.rd n st l).bind λc=>.lf _).eq (by unfold objAt; dsimp only; cases st[l]? with|none=>rfl|some c=>cases c<;>rfl)
 |_=>exact .no _
def Sn.gc(st)(p):Sn (gcT st p) (Y (gcD st p)):=λt K h=>by
 cases t with
 |nil=>exact h.elim
 |cons i t=>
  cases i with
  |g=>
   obtain⟨⟨h1,h2⟩,h⟩:=h;refine⟨_,t,?_,h⟩;unfold gcD gcX;rw[h2,Z6 h1,Z6 rfl,ite_self]
  |l ds=>exact⟨_,t,congrArg Y h.1,h.2⟩
  |k=>exact⟨_,t,rfl,h⟩
  |_=>exact h.elim
def Sn.cond(p)(a:α):Sn (TM.bind (M.askB p) λb=>if b=O then M.ys a else M.no) (if p=O then Y a else B):=
 (Sn.askB p).bind λb=>Sn.ite (Sn.ys a) (.no B)
def Sn.meth(n)(st)(m)(d)(es):Sn (qyj n st m d es) (mfun st m d es):=by
 cases m with
 |append=>
  unfold qyj;dsimp only
  split
  ·refine(Sn.wl n st _).bind λds=>(Sn.cond _ _).eq ?_;simp only[decide_eq_true_eq]
  ·exact .no _
 |extend=>
  unfold qyj;dsimp only
  split
  ·rename_i l d;refine(Sn.wl n st _).bind λds=>((Sn.row n st d).bind λes=>Sn.cond _ _).eq ?_;simp only[decide_eq_true_eq];cases d<;>rfl
  ·exact .no _
 |insert=>
  unfold qyj;dsimp only
  split
  ·refine(Sn.wl n st _).bind λds=>(Sn.cond _ _).eq ?_;simp only[decide_eq_true_eq]
  ·exact .no _
 |pop=>
  unfold qyj;dsimp only
  split
  ·exact(Sn.wl n st _).bind λds=>.askD _
  ·exact .no _
 |index=>
  unfold qyj;dsimp only
  split
  ·exact(Sn.seq n st _).bind λds=>.askD _
  ·exact .no _
def Sn.mt(n)(st)(m)(d){x:TM α}{y:Y3 α}(h:Sn x y):Sn (TM.bind (mtyT n st m d) λk=>if k=O then x else M.no) (if mty st m d then y else B):=by
 cases d with
 |str z=>exact λt K e=>Sn.ite h (.no B) t K e
 |lst z=>
  refine((Sn.ys m.ofList).bind λk=>Sn.ite h (.no B)).eq ?_
  show(if m.ofList=O then y else B)=if (m.ofList&&O)=O then y else B
  rw[Qjc]
 |loc l=>
  have e:=((Sn.seq n st (.loc l)).bind λ_=>Sn.ys m.ofList).bind λk=>Sn.ite (c:=k=O) h (.no B);refine e.up λa e=>?_;show(if (m.ofList&&(seqAt st (.loc l)).isSome)=O then y else B)=Y a
  cases hs:seqAt st (.loc l) with
  |none=>rw[hs]at e; cases e
  |some xs=>rw[hs]at e; rw[Option.isSome_some,Qjc]; exact e
 |_=>exact λt K e=>e.elim
theorem Sn.askO(o):Sn (askO o) o:=λt K h=>by
 cases t with
 |nil=>exact h.elim
 |cons i t=>
  cases i with
  |b k=>exact⟨k,t,h.1,h.2⟩
  |k=>exact Sn.lf o _ _ h
  |_=>exact h.elim
def Sn.cmp(st)(a)(x y):Sn (cmpT st a x y) (cmpD st a x y):=by
 unfold cmpT
 by_cases b:isAsk a x y=O
 ·rw[Z6 b]; exact .askO _
 ·rw[Z5 b];have h:Sn ((M.lf (cmpD st a x y)).bind λp=>if qoe a x=O then M.askB p else M.ys p) ((cmpD st a x y).bind λp=>if qoe a x=O then Y p else Y p):=(Sn.lf _).bind λp=>Sn.ite (Sn.askB p) (Sn.ys p);simpa using h
theorem Sn.truth(n)(st)(d):Sn (qit n st d) (truth st d):=by
 cases d with
 |loc l=>exact((Sn.seq n st (.loc l)).bind λds=>Sn.askB _).eq (by show _=(seqAt st (.loc l)).map _; rw[Option.map_eq_bind]; rfl)
 |lst l=>exact .askB _
 |non=>exact .lf (M.truth st .non)
 |bl b=>exact .lf (M.truth st (.bl b))
 |int b=>exact .lf (M.truth st (.int b))
 |str b=>exact .lf (M.truth st (.str b))
 |tup b=>exact .lf (M.truth st (.tup b))
def Sn.add(n)(st)(a b):Sn (addT n st a b) ((seqAt st a).bind λx=>(seqAt st b).bind λy=>if lim<x.length+y.length then B else Y (alloc st (.lst O (x++y)))):=
 (Sn.seq n st a).bind λx=>(Sn.seq n st b).bind λy=>by
  have h:=(Sn.askB (decide (lim<x.length+y.length))).bind λk=>Sn.ite (c:=k=O) (.no B) (Sn.ys (alloc st (.lst O (x++y))));simpa only[oBs,decide_eq_true_eq] using h
def Sn.bin(n)(st)(c)(a b):Sn (binT n st c a b) (binop st c a b):=by
 unfold binT
 split
 ·exact(Sn.add n st _ b).eq (by cases b<;>rfl)
 ·exact(Sn.add n st _ b).eq (by cases b<;>rfl)
 ·split
  ·exact Sn.cond _ _
  ·exact .lf _
 ·exact .askD _
 ·exact .askD _
 ·exact .askD _
 ·exact .lf _
def Sn.bf(n)(st)(f)(ds):Sn (qpv n st f ds) (bfun st f ds):=by
 unfold qpv
 split
 ·split
  ·exact((Sn.seq n st _).bind λxs=>.ys _).eq (bm)
  ·exact .lf _
 ·split
  ·rename_i l;refine((Sn.rd n st l).bind λc=>(Sn.lf _).bind λxs=>.ys _).eq ?_;show _=bList st [.loc l];unfold bList seqAt listAt dkeys dicAt;dsimp only
   cases st[l]? with
   |none=>rfl
   |some c=>cases c<;>rfl
  ·exact .lf _
 ·split
  ·exact((Sn.seq n st _).bind λxs=>.ys _).eq (bm)
  ·exact .lf _
 ·split
  ·rename_i i j;refine((Sn.askB _).bind λk=>.ys _).eq ?_;show Y _=Y _
   by_cases h:j > i<;>simp[h]
  ·exact .no _
 ·split
  ·rename_i i j;refine((Sn.askB _).bind λk=>.ys _).eq ?_;show Y _=Y _
   by_cases h:j<i<;>simp[h]
  ·exact .no _
 ·exact .askD _
structure SnR (r:RT) (r':R):Prop where
 rl:r.rl=r'
 ev:∀τ st e,Sn (r.ev τ st e) (r'.ev τ st e)
 tst:∀τ st e,Sn (r.tst τ st e) (r'.tst τ st e)
 ex:∀τ st e,Sn (r.ex τ st e) (r'.ex τ st e)
 call:∀f ds st,Sn (r.call f ds st) (r'.call f ds st)
theorem qxd(h:∀st e,Sn (f st e) (a st e)):∀(es:L E) (st:Y2),Sn (evsT f es st) (evs a es st)
 |[],st=>.ys _
 |e::es,st=>(h st e).bind λp=>(qxd h es p.2).bind λq=>.ys _
theorem qek(h:∀τ st d,Sn (f τ st d) (a τ st d)):∀(k i:Y0) (τ:Sl) (st:Y2),Sn (qhu it f k i τ st) (loop it a k i τ st)
 |0,_,_,_=>.no _
 |k+1,i,τ,st=>by
  unfold loop qhu;refine(Sn.lf _).bind λo=>?_
  cases o with
  |none=>exact .ys _
  |some d=>
   refine(h τ st d).bind λp=>?_;obtain⟨o,s⟩:=p
   cases o with
   |nx τ'=>exact qek h k _ _ _
   |rt v=>exact .ys _
theorem qac(h:∀τ st d,Sn (f τ st d) (b τ st d)):∀(k i:Y0) (a:L D) (τ:Sl) (st:Y2),Sn (qad it f k i a τ st) (loopC it b k i a τ st)
 |0,_,_,_,_=>.no _
 |k+1,i,a,τ,st=>by
  unfold loopC qad;refine(Sn.lf _).bind λo=>?_
  cases o with
  |none=>exact Sn.ite (.no _) (.ys _)
  |some d=>exact Sn.ite (.no _) ((h τ st d).bind λp=>qac h k _ _ _ _)
theorem qfx(h:∀τ st s,Sn (f τ st s) (b τ st s)):∀(a:L S) (τ:Sl) (st:Y2),Sn (exsT f a τ st) (exs b a τ st)
 |[],_,_=>.ys _
 |s::a,τ,st=>by
  unfold exs exsT;refine Sn.bind (y:=Y (τ,st)) (.askN _) λu=>(h u.1 u.2 s).bind λp=>?_;obtain⟨o,q⟩:=p
  cases o with
  |nx τ'=>exact qfx h a _ _
  |rt _=>exact .ys _
section
variable (h:SnR r r')
include h
theorem qi5(τ)(st)(e):Sn (srcT n r τ st e) (src r' τ st e):=by
 cases e with
 |rng1 a=>
  refine (?q).bind λp=>?_;obtain⟨d,s⟩:=p
  cases d with
  |int n=>exact Sn.ite (.no _) (.ys _)
  |_=>exact .no _
 |rng2 a b=>exact .no _
 |zip a b=>exact (?q).bind λp=>(h.ev τ _ b).bind λq=>.lf _
 |enu a=>exact (?q).bind λp=>.lf _
 |rev a=>exact (?q).bind λp=>.lf _
 |_=>
  refine(h.ev τ st _).bind λp=>?_;obtain⟨d,s⟩:=p
  cases d with
  |tup n=>exact .ys _
  |str z=>exact .no _
  |_=>exact(Sn.seq n s _).map _
theorem qd0(τ)(st)(e):Sn (qnp r τ st e) (part r' τ st e):=by
 cases e with
 |none=>exact .ys _
 |some e=>
  refine(h.ev τ st e).bind λp=>?_;obtain⟨d,s⟩:=p
  cases d with
  |int n=>exact .ys _
  |_=>exact .no _
theorem qmq(t)(test)(elt)(τ)(st)(d):Sn (turnT r t test elt τ st d) (turnC r' t test elt τ st d):=(Sn.lf _).bind λτ'=>by
 cases test with
 |none=>exact(h.ev _ _ _).map _
 |some c=>exact(h.tst _ _ _).bind λb=>Sn.ite ((h.ev _ _ _).map _) (.ys _)
omit h in
theorem qib(p)(k)(st){f:Y3 D->TM α}{g:Y3 D->Y3 α}(hf:∀o,Sn (f o) (g o)):Sn ((dgT n p k st).bind f) (match p.1 with
  |.loc l=>(dicAt st l).bind λkvs=>if isKey k then g (dget kvs k) else B
  |_=>B):=by
 obtain⟨d,s⟩:=p
 cases d with
 |loc l=>
  refine(((Sn.dc n st l).bind λkvs=>Sn.ite (Sn.askQ (dget kvs k)) (.no B)).bind hf).eq ?_;dsimp only
  cases dicAt st l with
  |none=>rfl
  |some kvs=>
   show Option.bind (if isKey k=O then Y (dget kvs k) else B) g=if isKey k=O then g (dget kvs k) else B
   by_cases e:isKey k=O
   ·rw[Z6 e,Z6 e]; rfl
   ·rw[Z5 e,Z5 e]; rfl
 |_=>exact λt K e=>e.elim
theorem qc3(τ)(st)(e):Sn (qc4 n r τ st e) (stepEv r' τ st e):=by
 cases e with
 |var i=>exact .lf _
 |lit d=>exact .ys _
 |glo x d=>exact .ys _
 |bin j a b=>exact (?q).bind λp=>(h.ev τ _ b).bind λq=>.bin _ _ _ _ _
 |neg a=>exact (?q).bind λp=>.lf _
 |not a=>exact (?q).bind λp=>.lf _
 |cmp j a b=>exact (?q).bind λp=>(h.ev τ _ b).bind λq=>(Sn.cmp _ _ _ _).map _
 |cmp2 j w a b c=>exact (?q).bind λp=>(h.ev τ _ b).bind λq=>(Sn.cmp _ _ _ _).bind λk=>Sn.ite ((h.ev τ _ c).bind λu=>(Sn.cmp _ _ _ _).map _) (.ys _)
 |and a b=>
  refine (?q).bind λp=>?_;obtain⟨d,s⟩:=p
  cases d with
  |bl k=>cases k with
   |true=>exact h.ev τ _ b
   |false=>exact .ys _
  |_=>exact .no _
 |or a b=>
  refine (?q).bind λp=>?_;obtain⟨d,s⟩:=p
  cases d with
  |bl k=>cases k with
   |false=>exact h.ev τ _ b
   |true=>exact .ys _
  |_=>exact .no _
 |ite c a b=>exact(h.tst τ st c).bind λp=>Sn.ite (h.ev τ _ a) (h.ev τ _ b)
 |tup es=>exact(qxd (h.ev τ) es st).bind λp=>Sn.ite (.no _) (.ys _)
 |lst es=>exact(qxd (h.ev τ) es st).bind λp=>Sn.ite (.no _) (.ys _)
 |idx a b=>exact (?q).bind λp=>(h.ev τ _ b).bind λq=>(Sn.askI _).map _
 |sli a lo hi=>exact (?q).bind λp=>(qd0 h τ _ lo).bind λl=>(qd0 h τ _ hi).bind λu=>.sli _ _ _ _ _
 |call f es=>exact(qxd (h.ev τ) es st).bind λp=>h.call f _ _
 |bcall f es=>exact(qxd (h.ev τ) es st).bind λp=>.bf _ _ _ _
 |isi a ts m=>exact (?q).bind λp=>(Sn.ty _ _ _).map _
 |lenset a=>exact (?q).bind λp=>(Sn.askI _).map _
 |gc a=>exact((?q).bind λp=>Sn.gc st p).eq (bm)
 |meth a m es=>exact (?q).bind λp=>Sn.mt _ _ _ _ ((qxd (h.ev τ) es _).bind λq=>.meth _ _ _ _ _)
 |dic es=>
  refine(qxd (h.ev τ) es _).bind λp=>((Sn.wd n p.2 st.length).bind λv=>Sn.lf _).eq ?_
  cases wdicAt p.2 st.length with
  |none=>rfl
  |some v=>cases v<;>rfl
 |didx a b=>exact (?q).bind λp=>(h.ev τ _ b).bind λq=>qib p q.1 q.2 λo=>(Sn.lf o).map _
 |din neg a b=>exact (?q).bind λp=>(h.ev τ _ b).bind λq=>qib q p.1 q.2 λo=>Sn.ys _
 |dgt a b=>
  refine (?q).bind λp=>?_;obtain⟨d,s⟩:=p
  cases d with
  |loc l=>exact(Sn.dc n s l).bind λ_=>(h.ev τ _ b).bind λq=>qib (.loc l,s) q.1 q.2 λo=>Sn.ys _
  |_=>exact .no _
 |dpop a b=>
  refine (?q).bind λp=>?_;obtain⟨d,s⟩:=p
  cases d with
  |loc l=>exact(Sn.dc n s l).bind λ_=>(h.ev τ _ b).bind λq=>(Sn.wd n q.2 l).bind λkvs=>Sn.ite ((Sn.bind (Sn.askQ _) λo=>(Sn.lf o).map _).eq rfl) (.no _)
  |_=>exact .no _
 |gidx x ks ds b=>exact(h.ev τ st b).bind λp=>.lf _
 |gin neg x ks b=>exact(h.ev τ st b).bind λp=>.lf _
 |comp t it g elt sr=>
  show Sn (askE (stepEv r.rl τ st (.comp t it g elt sr)) _) _;rw[h.rl];exact Sn.askE ((qi5 h τ st it).bind λp=>(qac (qmq h t g elt) _ _ _ _ _).map _)
 |attr C a f=>exact (?q).bind λp=>(Sn.ob _ _ _ _).bind λfs=>.lf _
 |mcall C f m a es=>exact (?q).bind λp=>(Sn.ob _ _ _ _).bind λfs=>Sn.ite (.no _) ((qxd (h.ev τ) es _).bind λq=>h.call f _ _)
 |new C f es=>exact(qxd (h.ev τ) es st).bind λp=>(h.call f _ _).bind λq=>Sn.ite (.ys _) (.no _)
 |_=>exact .no _
theorem qby(τ)(st)(e):Sn (qy1 n r τ st e) (stepTst r' τ st e):=by
 cases e with
 |not a=>exact(h.tst τ st a).map _
 |and a b=>exact(h.tst τ st a).bind λp=>Sn.ite (h.tst τ _ b) (.ys _)
 |or a b=>exact(h.tst τ st a).bind λp=>Sn.ite (.ys _) (h.tst τ _ b)
 |ite _ _ _=>exact .no _
 |din neg a b=>
  refine((?q).bind λp=>(h.ev τ _ b).bind λq=>qib q p.1 q.2 λo=>Sn.ys _).eq ?_;show _=(dinR r' τ st neg a b).bind _;unfold dinR;simp only[Option.bind_assoc];refine congrArg _ (funext λp=>congrArg _ (funext λq=>?_))
  cases q.1 with
  |loc l=>
   dsimp only
   cases dicAt q.2 l with
   |none=>rfl
   |some kvs=>
    simp only[oBs]
    by_cases e:isKey p.1=O
    ·rw[Z6 e,Z6 e]; rfl
    ·rw[Z5 e,Z5 e]; rfl
  |_=>rfl
 |gin neg x ks b=>
  refine((h.ev τ st b).bind λp=>Sn.lf _).eq ?_;show _=(ginR r' τ st neg ks b).bind _;unfold ginR;simp only[Option.bind_assoc];refine congrArg _ (funext λp=>?_);cases p.1<;>rfl
 |cmp f a b=>exact (?q).bind λp=>(h.ev τ _ b).bind λq=>(Sn.cmp _ _ _ _).map _
 |cmp2 f d a b c=>exact (?q).bind λp=>(h.ev τ _ b).bind λq=>(Sn.cmp _ _ _ _).bind λk=>Sn.ite ((h.ev τ _ c).bind λu=>(Sn.cmp _ _ _ _).map _) (.ys _)
 |_=>exact(h.ev τ st _).bind λp=>(Sn.truth _ _ _).map _
theorem qc5(τ)(st)(s):Sn (qi2 n r τ st s) (stepEx r' τ st s):=by
 cases s with
 |set t e=>exact(h.ev τ st e).bind λp=>(Sn.lf _).map _
 |dset a i e=>
  refine(h.ev τ st e).bind λp=>(h.ev τ _ a).bind λq=>(h.ev τ _ i).bind λu=>?_;obtain⟨d,s⟩:=q
  cases d with
  |loc l=>
   refine((Sn.wd n u.2 l).bind λkvs=>Sn.ite (Sn.cond (decide (kvs.length<lim)) (Out.nx τ,u.2.set l (.dic O (dput kvs u.1 p.1)))) (.no B)).eq ?_;refine congrArg _ (funext λkvs=>?_)
   cases isKey u.1 with
   |true=>rfl
   |false=>rfl
  |_=>exact .no _
 |setA C a f e=>
  refine(h.ev τ st e).bind λp=>(h.ev τ _ a).bind λq=>(Sn.ob n _ _ _).bind λfs=>?_;obtain⟨d,s⟩:=q
  cases d with
  |loc l=>exact Sn.ite (.ys _) (.no _)
  |_=>exact .no _
 |expr e=>exact(h.ev τ st e).map _
 |ret e=>exact(h.ev τ st e).map _
 |ite c a b=>
  show Sn (askT (stepEx r.rl τ st (.ite c a b)) _) _;rw[h.rl];exact Sn.askT ((h.tst τ st c).bind λp=>Sn.ite (h.ex τ _ a) (h.ex τ _ b))
 |forr t it body=>
  show Sn (askS (stepEx r.rl τ st (.forr t it body)) _) _;rw[h.rl];exact Sn.askS ((qi5 h τ st it).bind λp=>qek (λτ st d=>(Sn.lf _).bind λτ'=>h.ex τ' st body) _ _ _ _)
 |ford t a body=>
  show Sn (askS (stepEx r.rl τ st (.ford t a body)) _) _;rw[h.rl];exact Sn.askS (.no _)
 |_=>exact .no _
theorem qvn(τ)(st)(s):Sn (qk6 n r τ st s) (stepEx r' τ st s):=by
 show Sn (askT (stepEx r.rl τ st s) _) _;rw[h.rl];exact Sn.askT (qc5 h τ st s)
end
def qm3(c):Le (RL c) λm=>runK c m:=
 ⟨λτ st e x h=>by obtain⟨n,e⟩:=lim1_is h; exact⟨n,λm a=>ev_up e a⟩,λτ st e x h=>by obtain⟨n,e⟩:=lim1_is h; exact⟨n,λm a=>qir e a⟩,λτ st e x h=>by obtain⟨n,e⟩:=lim1_is h; exact⟨n,λm a=>ex_up e a⟩,λf ds st x h=>⟨0,λm _=>by show(runK c m).call f ds st=_; rw[runK_call]; exact h⟩⟩
def qqg(c)(τ)(st)(e)(x)(h:stepEv (RL c) τ st e=Y x):(RL c).ev τ st e=Y x:=by
 obtain⟨n,hn⟩:=qjh (qm3 c) τ st e x h;exact qyv (n:=n+1) (λ_ _ _ h k=>ev_up h k) (hn n (Qqv _))
def rl_tst(c)(τ)(st)(e)(x)(h:stepTst (RL c) τ st e=Y x):(RL c).tst τ st e=Y x:=by
 obtain⟨n,hn⟩:=qxu (qm3 c) τ st e x h;exact qyv (n:=n+1) (λ_ _ _ h k=>qir h k) (hn n (Qqv _))
def rl_ex(c)(τ)(st)(e)(x)(h:exs (stepEx (RL c)) e τ st=Y x):(RL c).ex τ st e=Y x:=by
 obtain⟨n,hn⟩:=qva (qjg (qm3 c)) e τ st x h;exact qyv (n:=n+1) (λ_ _ _ h k=>ex_up h k) (hn n (Qqv _))
theorem qjm(h:∀f ds st,Sn (c f ds st) (c' f ds st)):∀k,SnR (runT n (RL c') c k) (RL c')
 |0=>⟨rfl,λ_ _ _=>.no _,λ_ _ _=>.no _,λ_ _ _=>.no _,h⟩
 |k+1=>⟨rfl,λτ st e=>(qc3 (qjm h k) τ st e).up (qqg c' τ st e),λτ st e=>(qby (qjm h k) τ st e).up (rl_tst c' τ st e),λτ st a=>(qfx (qvn (qjm h k)) a τ st).up (rl_ex c' τ st a),h⟩
theorem qxr:∀(d f:Y0) (ds:L D) (st:Y2),Sn (qvd fns n b k d f ds st) (callD fns (k+d) f ds st)
 |0,f,ds,st=>.no _
 |d+1,f,ds,st=>by
  unfold qvd
  by_cases a:b.contains f=O
  ·rw[Z6 a];exact .askC _
  ·rw[Z5 a]
   cases hf:fns[f]? with
   |none=>exact .no _
   |some F=>
    dsimp only
    split
    case isFalse=>exact .no _
    rename_i hi;show Sn _ (stepCall fns ?qo f ds st);rw[qw4 hf hi];refine Sn.ite (((qjm (λf ds st=>qxr d f ds st) 40).ex _ _ _).bind λp=>?_) (.no _);obtain⟨o,s⟩:=p
    cases o with
    |rt _=>exact .ys _
    |nx _=>exact .ys _
def qxc(n)(g)(d)(P:Prop->Prop)(t)(c:P (r=r))(h:exsT (qk6 n (runT n ?qo (qvd fns n g k d) 40)) b τ st t (λa _=>a=r)=P (r=r):=by kernel_rfl):exs (stepEx ?qo) b τ st=Y r:=by
 rw[<- h]at c;obtain⟨a,i,e,rfl⟩:=qfx (qvn (qjm (λf ds st=>qxr d f ds st) 40)) b τ st t _ c;exact e
def qze(n)(c)(d)(P:Prop->Prop)(t)(e:P (r=r))(h:exsT (qk6 n (runT n ?qo (qvd fns n c k d) 40)) b τ st t (λa _=>a=r)=P (r=r):=by kernel_rfl):(?qo).ex τ st b=Y r:=rl_ex _ _ _ _ _ (qxc n c d P t e h)
def qzc(n)(c)(d)(P:Prop->Prop)(t)(b:P (r=r))(h:(runT n ?qo (qvd fns n c k d) 40).ev τ st e t (λa _=>a=r)=P (r=r):=by kernel_rfl):(?qo).ev τ st e=Y r:=by
 rw[<- h]at b;obtain⟨a,g,e,rfl⟩:=(qjm (λf ds st=>qxr d f ds st) 40).ev τ st e t _ b;exact e
def qzf(n)(c)(d)(P:Prop->Prop)(t)(b:P (r=r))(h:(runT n ?qo (qvd fns n c k d) 40).tst τ st e t (λa _=>a=r)=P (r=r):=by kernel_rfl):(?qo).tst τ st e=Y r:=by
 rw[<- h]at b;obtain⟨a,g,e,rfl⟩:=(qjm (λf ds st=>qxr d f ds st) 40).tst τ st e t _ b;exact e
def qzz(n)(c)(d)(P:Prop->Prop)(t)(b:P (r=r))(h:qvd fns n c k d f ds st t (λa _=>a=r)=P (r=r):=by kernel_rfl):callD fns (k+d) f ds st=Y r:=by
 rw[<- h]at b;obtain⟨a,g,e,rfl⟩:=qxr d f ds st t _ b;exact e
def qjb(n)(g)(d)(c)(P:Prop->Prop)(t)(b:P (c=r))(h:qvd fns n g k d f ds st t (λa _=>a=r)=P (c=r):=by kernel_rfl):callD fns (k+d) f ds st=Y r:=by
 rw[<- h]at b;obtain⟨a,i,e,rfl⟩:=qxr d f ds st t _ b;exact e
end M
end
section
namespace MS
open PySem PySem.Spec PyProof.Rows L2
def qx9:fillsNumberSlot (.type "tuple") "mul" = pure false:=
 PySem.fillsNumberSlot_seq F.slot_tuple_mul.lookup (by decide +kernel) F.slot_tuple_rmul.lookup (by decide +kernel)
def qvt:seqRepeat? (.type "tuple")=pure (Y (.builtin "tuple.__mul__")):=by
 unfold seqRepeat?;rw[PySem.seqSlot_of (name:="__mul__") F.slot_tuple_mul.lookup (by decide +kernel),PySem.seqSlot_of (name:="__rmul__") F.slot_tuple_rmul.lookup (by decide +kernel)]
 rfl
def qkc(a)(t)(l)(b)(n)(c)(sl):
  Meets (Qs.«int.__rmul__» ⟨[.int a t,.ref l],[]⟩) (λ_ R s=>s.heap.get? l=Y { cls:=.type "tuple",dict:=c,data:=.seq b n,slots:=sl }/\R (.ok (.ret Value.notImplemented)) s):=
 .of_wp λprog w A R s h=>by obtain⟨e,g,d,tk,os⟩:=s; obtain⟨hl,h⟩:=h; wp_walk; exact⟨_,rfl,h⟩
def qkw(l)(a)(n)(c)(sl)(x)(u)(b:¬ (decide (x < -(2 ^ 63))||decide (x >= 2 ^ 63))=O)(f:(a.isEmpty||x==1)=O):
  Meets (Qs.«tuple.__mul__» ⟨[.ref l,.int x u],[]⟩) (λ_ R s=>s.heap.get? l=Y { cls:=.type "tuple",dict:=c,data:=.seq a n,slots:=sl }/\R (.ok (.ret (Value.ref l))) s):=
 .of_wp λprog w A R s h=>by
  obtain⟨e,g,d,tk,os⟩:=s; obtain⟨hl,h⟩:=h
  wp_walk
  simp only[Z5 b]
  wp_walk
  exact⟨_,rfl,h⟩
def qky(l)(a)(n)(c)(sl)(x)(u)(b:¬ (decide (x < -(2 ^ 63))||decide (x >= 2 ^ 63))=O)(i:¬ (a.isEmpty||x==1)=O)(f:(decide (x<=0)||a.isEmpty)=O):
  Meets (Qs.«tuple.__mul__» ⟨[.ref l,.int x u],[]⟩) (λ_ R s=>s.heap.get? l=Y { cls:=.type "tuple",dict:=c,data:=.seq a n,slots:=sl }/\R (.ok (.ret (Value.ref s.heap.objs.size))) { s with heap:=s.heap.push { cls:=.type "tuple",data:=.seq #[] } }):=
 .of_wp λprog w A R s h=>by
  obtain⟨e,g,d,tk,os⟩:=s; obtain⟨hl,h⟩:=h
  wp_walk
  simp only[Z5 b]
  wp_walk
  exact⟨_,rfl,h⟩
def qka(l)(a)(n)(f)(sl)(x)(u)(e:¬ (decide (x < -(2 ^ 63))||decide (x >= 2 ^ 63))=O)(o:¬ (a.isEmpty||x==1)=O)(m:¬ (decide (x<=0)||a.isEmpty)=O)(c:¬ ((a.size:J)*x > (2 ^ 63 - 1) / 8))(k:¬ Builtin.Tuple.tupleTooMany ((a.size:J)*x)=O)(j:(List.foldl (λb x2=>b++x2) #[] (List.replicate x.toNat a)).size<=sizeLine):
  Meets (Qs.«tuple.__mul__» ⟨[.ref l,.int x u],[]⟩) (λ_ R s=>s.heap.get? l=Y { cls:=.type "tuple",dict:=f,data:=.seq a n,slots:=sl }/\R (.ok (.ret (Value.ref s.heap.objs.size))) { s with heap:=s.heap.push { cls:=.type "tuple",data:=.seq (List.foldl (λb x2=>b++x2) #[] (List.replicate x.toNat a)) } }):=
 .of_wp λprog w A R s h=>by
  obtain⟨i,g,d,tk,os⟩:=s; obtain⟨hl,h⟩:=h
  wp_walk
  simp only[Z5 e]
  wp_walk
  simp only[Z5 c]
  wp_walk
  exact⟨_,rfl,h⟩
noncomputable def rRepT(K:Qqq):R2:=λx y H Q=>∃l k xs,x=.ref l/\y=.int k/\SqT K H l xs/\-(2 ^ 62)<=k/\k<2 ^ 62/\xs.length*k.toNat<=sizeLine/\
 (∀ys,ys=(List.replicate k.toNat xs).flatten->(ys=xs->Q (.ref l) H)/\∀p,H p=B->Q (.ref p) (upd H p (.tup ys)))
def qns:OpR X (Q2 .Mult) (rRepT X.K):=by
 intro pins s σ H x y v u Q I D C h;obtain⟨l,k,xs,rfl,rfl,N,k1,k2,p,q⟩:=h;cases D;obtain⟨t,rfl⟩:=C;obtain⟨a,r,P,G⟩:=I.tuple N;obtain⟨⟨cls,d,A,sl⟩,b,hc,n,hd⟩:=id P;simp only at hc hd;subst hc hd;have hl:=r.length;obtain⟨E,o⟩:=q _ rfl;have w:=λm=>by
  have:=foldl_rep a m [];rw[List.nil_append]at this;exact this
 have i:¬ (decide (k < -(2 ^ 63))||decide (k >= 2 ^ 63))=true:=by simp; omega
 refine wpAny_binaryOp_repeat_ref (by decide) ⟨_,b,rfl⟩ (λs'=>typeIs_int s' k t) qx9 F.fills_int_mul F.slot_int_rmul qvt F.slot_int_index.lookup
  (Qr F.slot_int_rmul (typeIs_int s k t) F.entry_int_rmul (F.args_int_rmul_2 _ _) (qkc k t l a.toArray n d sl) ⟨b,rfl,⟨_,b,rfl⟩,?_⟩)
 by_cases h1:(a.toArray.isEmpty||k==1)=O
 ·refine Qr F.slot_tuple_mul ⟨_,b,rfl⟩ F.entry_tuple_mul (F.args_tuple_mul_2 _ _) (qkw l a.toArray n d sl k t i h1) ⟨b,⟨.ref l,H,I,rfl,E ?_⟩⟩;rw[Qxl]at h1;rcases h1 with z|z
  ·have j:a=[]:=by simpa using z
   have R:=Qzs.mp (by rw[hl,j]; rfl);rw[R];simp
  ·have j:k=1:=by simpa using z
   rw[j];simp
 ·have g:a≠[]:=λz=>h1 (by rw[z]; rfl)
  by_cases h2:(decide (k<=0)||a.toArray.isEmpty)=O
  ·refine Qr F.slot_tuple_mul ⟨_,b,rfl⟩ F.entry_tuple_mul (F.args_tuple_mul_2 _ _) (qky l a.toArray n d sl k t i h1 h2) ⟨b,?_⟩;have hk:k<=0:=by
    rw[Qxl]at h2;rcases h2 with z|z
    ·simpa using z
    ·exact absurd (by simpa using z) g
   have S:k.toNat=0:=by omega
   refine⟨.ref _,_,I.laid (λ_ _ e=>Qqx _ e) (Qqv _) ?_,rfl,o _ I.fresh⟩;rw[S];exact⟨Qzl _,[],.nil,IsTup.new s.heap _⟩
  ·have hk:0<k:=by
    simp at h2; omega
   have c:((a.toArray.size:Y0):J)*k=((a.length*k.toNat:Y0):J):=by
    rw[Qqc,Int.natCast_mul]
    congr 1
    omega
   have f:a.length*k.toNat<=sizeLine:=by rw[<- hl]; exact p
   have K:(sizeLine:Y0)<2 ^ 60:=by rw[Q0]; decide
   refine Qr F.slot_tuple_mul ⟨_,b,rfl⟩ F.entry_tuple_mul (F.args_tuple_mul_2 _ _) (qka l a.toArray n d sl k t i h1 h2 ?_ ?_ ?_) ⟨b,?_⟩
   ·rw[c]; omega
   ·unfold Builtin.Tuple.tupleTooMany;rw[c,decide_eq_true_eq];omega
   ·rw[w,Qqc,len_rep,Nat.mul_comm]; exact f
   ·refine⟨.ref _,_,I.laid (λ_ _ e=>Qqx _ e) (Qqv _) ?_,rfl,o _ I.fresh⟩;rw[w];exact⟨by rw[len_rep,Nat.mul_comm]; exact p,_,r.rep k.toNat,IsTup.new s.heap _⟩
section
def qq7(d:IsTup s.heap t a)(hs:s.heap.IsSliceOf sl vl j .none)(pl:IsPart vl b)(pu:IsPart j e)(k:HT.sIx a.size 0 b=0/\HT.sIx a.size a.size e=a.size)(h:Q (.ref t) s):wpAny ?r A (Zx (.ref t) (.ref sl)) Q E s:=by
 obtain⟨os,f,g,l⟩:=id hs;have i:s.TypeIs (.ref sl) "slice":=⟨os,f,g⟩
 unfold Zx
 try with_reducible refine Q4 ?_
 first|refine Qq (Qx ?_)|skip
 refine Qq (wpAny_sequenceKey d.typeIs (by decide) ?_)
 refine Qq (Qb d.typeIs PyProof.Rows.slot_tuple_getitem
  (Qd PyProof.Rows.slot_tuple_getitem d.typeIs entry_tuple_getitem ?_ (args_tuple_getitem _ _)))
 show wpAny _ _ (Builtin.Tuple.tupleItemsOf (.ref t) >>= _) _ _ s;refine Qq (tupleItemsOf_ d ?_);refine Qq (wpAny_typeOf i ?_);rw[Z6 (by decide)];refine Qq (HT.sliceApplied_gen hs pl pu ?_);have c:(((HT.sIx a.size 0 b:Y0):J)==0&&(1:J)==1&&(HT.sIx a.size a.size e - HT.sIx a.size 0 b)==a.size)=true:=by
  rw[k.1,k.2];simp
 show wpAny _ _ (if (((HT.sIx a.size 0 b:Y0):J)==0&&(1:J)==1&&(HT.sIx a.size a.size e - HT.sIx a.size 0 b)==a.size)=O then _ else _) _ _ s;rw[Z6 c];refine Qq ?_;unfold Builtin.Tuple.tupleIsExact;refine Qq (wpAny_typeOf d.typeIs (Qx ?_));rw[Z6 (by decide)]
 first
  |exact Qq (Zq (Qx ⟨_,rfl,Qx h⟩))
  |exact Qq (Zq (Qq (Qx (Qx ⟨_,rfl,Qx h⟩))))
  |exact Qq (Qq (Zq (Qx (Qx ⟨_,rfl,Qx h⟩))))
end
end MS
end
section
namespace MS
open PySem PySem.Spec PyProof.Rows L2
open M (D Ya Y2 Sl)
def nn{α:Type}{a:α}{P:Prop}(h:B=Y a):P:=by cases h
def SqF(K:Qqq)(H:Hp)(a:Y7)(xs:L V):Prop:=
 (∃o,H a=Y (.frz o (.lst xs)))\/∃(o:Obj) (its:Array Y8) (n:Y0),K.lookup a=Y o/\o.cls=.type "list"/\o.dict=B/\o.data=.seq its n/\its.size<=sizeLine/\Vals xs its.toList
mutual
noncomputable def IsD(K:Qqq)(m:L Y7)(H:Hp):D->V->Prop
 |.non,v=>v=.non
 |.bl b,v=>v=.bl b
 |.int i,v=>v=.int i
 |.str s,v=>v=.str s
 |.tup ds,v=>∃a xs,v=.ref a/\SqT K H a xs/\IsDs K m H ds xs
 |.lst ds,v=>∃a xs,v=.ref a/\SqF K H a xs/\IsDs K m H ds xs
 |.loc l,v=>∃a,m[l]?=Y a/\v=.ref a
noncomputable def IsDs(K:Qqq)(m:L Y7)(H:Hp):L D->L V->Prop
 |[],xs=>xs=[]
 |d::ds,xs=>∃x r,xs=x::r/\IsD K m H d x/\IsDs K m H ds r
end
def Sub(m m':L Y7):Prop:=∀(l:Y0) (a:Y7),m[l]?=Y a->m'[l]?=Y a
noncomputable def Sq:HO->Prop
 |.lst _=>True
 |.tup _=>True
 |_=>False
structure Tr (H H':Hp):Prop where
 tup:∀b xs,H b=Y (.tup xs)->H' b=Y (.tup xs)
 frz:∀b o u,H b=Y (.frz o u)->H' b=Y (.frz o u)
structure Tw (H H':Hp):Prop where
 tup:∀b xs,H b=Y (.tup xs)->H' b=Y (.tup xs)
 frz:∀b o u,Sq u->H b=Y (.frz o u)->H' b=Y (.frz o u)
def Tr.w(t:Tr H H'):Tw H H':=⟨t.tup,λb o u _=>t.frz b o u⟩
def Sub.refl(m):Sub m m:=λ_ _ h=>h
def Sub.trans(a:Sub m c)(b:Sub c m2):Sub m m2:=λl x h=>b l x (a l x h)
def Sub.app(m r):Sub m (m++r):=λl a h=>by
 rw[Qqs (Qqk.mp h).1]; exact h
def Tr.refl(H):Tr H H:=⟨λ_ _ h=>h,λ_ _ _ h=>h⟩
def Tr.trans(a:Tr H d)(b:Tr d H2):Tr H H2:=⟨λc xs h=>b.tup c xs (a.tup c xs h),λc o u h=>b.frz c o u (a.frz c o u h)⟩
def Tr.of_same(h:Same H H'):Tr H H':=⟨λb xs e=>h b _ e,λb o u e=>h b _ e⟩
def qzb(a:H p=B):Same H (upd H p o):=λb u e=>by
 rw[qzq (qzl e a)]; exact e
def Tr.put(a:H p=Y (.lst xs)):Tr H (upd H p (.lst ys)):=
 ⟨λb zs e=>by rw[qzq (qzt e a (by intro z; cases z))]; exact e,λb o u e=>by rw[qzq (qzt e a (by intro z; cases z))]; exact e⟩
def Tw.sqT{K:Qqq}(t:Tw H H')(h:SqT K H a xs):SqT K H' a xs:=by
 rcases h with (h|⟨o,h⟩)|h
 ·exact .inl (.inl (t.tup _ _ h))
 ·exact .inl (.inr ⟨o,t.frz _ _ _ trivial h⟩)
 ·exact .inr h
def SqF.sq{K:Qqq}(h:SqF K H a xs):SqL K H a xs:=by
 rcases h with h|h
 ·exact .inl (.inr h)
 ·exact .inr h
def Tw.sqF{K:Qqq}(t:Tw H H')(h:SqF K H a xs):SqF K H' a xs:=by
 rcases h with⟨o,h⟩|h
 ·exact .inl ⟨o,t.frz _ _ _ trivial h⟩
 ·exact .inr h
theorem Tr.sqT{K:Qqq}(t:Tr H H')(h:SqT K H a xs):SqT K H' a xs:=t.w.sqT h
theorem Tr.sqF{K:Qqq}(t:Tr H H')(h:SqF K H a xs):SqF K H' a xs:=t.w.sqF h
section
variable {K:Qqq}{m m':L Y7}{H H':Hp}
mutual
theorem qz8(hs:Sub m m')(b:Tw H H'):∀(d:D) (v:V),IsD K m H d v->IsD K m' H' d v
 |.non,_,h=>h
 |.bl _,_,h=>h
 |.int _,_,h=>h
 |.str _,_,h=>h
 |.tup ds,_,h=>by
  unfold IsD at h ⊢;obtain⟨a,xs,e,q,r⟩:=h;exact⟨a,xs,e,b.sqT q,qz1 hs b ds xs r⟩
 |.lst ds,_,h=>by
  unfold IsD at h ⊢;obtain⟨a,xs,e,q,r⟩:=h;exact⟨a,xs,e,b.sqF q,qz1 hs b ds xs r⟩
 |.loc l,_,h=>by
  unfold IsD at h ⊢;obtain⟨a,e,q⟩:=h;exact⟨a,hs l a e,q⟩
theorem qz1(hs:Sub m m')(a:Tw H H'):∀(ds:L D) (xs:L V),IsDs K m H ds xs->IsDs K m' H' ds xs
 |[],_,h=>h
 |d::ds,_,h=>by
  unfold IsDs at h ⊢;obtain⟨x,r,e,q,t⟩:=h;exact⟨x,r,e,qz8 hs a d x q,qz1 hs a ds r t⟩
end
def qzk(hs:Sub m m')(a:Tr H H')(d)(v)(h:IsD K m H d v):IsD K m' H' d v:=qz8 hs a.w d v h
def qzd(hs:Sub m m')(a:Tr H H')(ds)(xs)(h:IsDs K m H ds xs):IsDs K m' H' ds xs:=qz1 hs a.w ds xs h
theorem IsD.int(h:IsD K m H (.int i) v):v=.int i:=by unfold IsD at h; exact h
theorem IsD.bl(h:IsD K m H (.bl i) v):v=.bl i:=by unfold IsD at h; exact h
theorem IsD.str(h:IsD K m H (.str i) v):v=.str i:=by unfold IsD at h; exact h
theorem IsD.non(h:IsD K m H .non v):v=.non:=by unfold IsD at h; exact h
theorem IsD.tup(h:IsD K m H (.tup ds) v):∃a xs,v=.ref a/\SqT K H a xs/\IsDs K m H ds xs:=by unfold IsD at h; exact h
theorem IsD.lst(h:IsD K m H (.lst ds) v):∃a xs,v=.ref a/\SqF K H a xs/\IsDs K m H ds xs:=by unfold IsD at h; exact h
theorem IsD.loc(h:IsD K m H (.loc l) v):∃a,m[l]?=Y a/\v=.ref a:=by unfold IsD at h; exact h
def mkInt(i):IsD K m H (.int i) (.int i):=by unfold IsD; rfl
def mkBl(i):IsD K m H (.bl i) (.bl i):=by unfold IsD; rfl
def mkStr(i):IsD K m H (.str i) (.str i):=by unfold IsD; rfl
def qvj:IsD K m H .non .non:=by unfold IsD; rfl
def qq3(h:SqT K H a xs)(q:IsDs K m H ds xs):IsD K m H (.tup ds) (.ref a):=by unfold IsD; exact⟨a,xs,rfl,h,q⟩
def qbr(h:SqF K H a xs)(q:IsDs K m H ds xs):IsD K m H (.lst ds) (.ref a):=by unfold IsD; exact⟨a,xs,rfl,h,q⟩
def qhs(h:m[l]?=Y a):IsD K m H (.loc l) (.ref a):=by unfold IsD; exact⟨a,h,rfl⟩
def IsDs.nil(h:IsDs K m H [] xs):xs=[]:=by unfold IsDs at h; exact h
def IsDs.cons(h:IsDs K m H (d::ds) xs):∃x r,xs=x::r/\IsD K m H d x/\IsDs K m H ds r:=by unfold IsDs at h; exact h
def qqk:IsDs K m H [] []:=by unfold IsDs; rfl
def qzo(h:IsD K m H d x)(t:IsDs K m H ds r):IsDs K m H (d::ds) (x::r):=by unfold IsDs; exact⟨x,r,rfl,h,t⟩
def IsDs.one(h:IsDs K m H [d] xs):∃x,xs=[x]/\IsD K m H d x:=by
 obtain⟨x,r,rfl,q,t⟩:=h.cons;rw[t.nil];exact⟨x,rfl,q⟩
def IsDs.two(h:IsDs K m H [d,e] xs):∃x y,xs=[x,y]/\IsD K m H d x/\IsD K m H e y:=by
 obtain⟨x,r,rfl,q,t⟩:=h.cons;obtain⟨y,rfl,a⟩:=t.one;exact⟨x,y,rfl,q,a⟩
theorem IsDs.length:∀{ds}{xs},IsDs K m H ds xs->ds.length=xs.length
 |[],_,h=>by rw[h.nil]; rfl
 |_::_,_,h=>by
  obtain⟨x,r,rfl,_,t⟩:=h.cons;rw[Qqh,Qqh,t.length]
theorem IsDs.get:∀{ds:L D}{xs:L V}{i:Y0}{d:D},IsDs K m H ds xs->ds[i]?=Y d->∃x,xs[i]?=Y x/\IsD K m H d x
 |[],_,_,_,_,e=>by simp at e
 |d::ds,_,0,d',h,e=>by
  obtain⟨x,r,rfl,q,_⟩:=h.cons;have c:d=d':=by simpa using e
  subst c;exact⟨x,rfl,q⟩
 |d::ds,_,i+1,d',h,e=>by
  obtain⟨x,r,rfl,_,t⟩:=h.cons;obtain⟨y,b,a⟩:=t.get (by simpa using e);exact⟨y,by simpa using b,a⟩
theorem IsDs.append:∀{ds es}{xs ys},IsDs K m H ds xs->IsDs K m H es ys->IsDs K m H (ds++es) (xs++ys)
 |[],_,_,_,h,q=>by rw[h.nil]; exact q
 |_::_,_,_,_,h,q=>by
  obtain⟨x,r,rfl,a,t⟩:=h.cons;exact qzo a (t.append q)
end
noncomputable def keyOf:D->Y3 Key
 |.int i=>Y (.inl i)
 |.str z=>Y (.inr z)
 |_=>B
noncomputable def IsKV(K:Qqq)(m:L Y7)(H:Hp):L (D×D)->L (Key×V)->Prop
 |[],xs=>xs=[]
 |p::r,xs=>∃k v xr,xs=(k,v)::xr/\keyOf p.1=Y k/\IsD K m H p.2 v/\IsKV K m H r xr
theorem qqa{K:Qqq}(hs:Sub m b)(c:Tw H H'):∀(kvs:L (D×D)) (xs:L (Key×V)),IsKV K m H kvs xs->IsKV K b H' kvs xs
 |[],_,h=>h
 |p::r,_,⟨k,v,a,e,hk,hv,hr⟩=>⟨k,v,a,e,hk,qz8 hs c _ _ hv,qqa hs c r a hr⟩
def qj2{K:Qqq}(hs:Sub m a)(b:Tr H H')(kvs)(xs)(h:IsKV K m H kvs xs):IsKV K a H' kvs xs:=qqa hs b.w kvs xs h
theorem IsKV.length{K:Qqq}:∀{kvs}{xs},IsKV K m H kvs xs->kvs.length=xs.length
 |[],_,h=>by rw[show _=[] from h]; rfl
 |p::r,_,⟨k,v,a,e,_,_,hr⟩=>by rw[e,Qqh,Qqh,hr.length]
def qa3(c:keyOf a=Y k)(hb:keyOf b=Y j):M.eqT a b=decide (k=j):=by
 cases a with
 |int i=>
  cases c
  cases b with
  |int d=>cases hb; rw[M.eqT]; by_cases h:i=d<;>simp[h]
  |str z=>cases hb; simp[M.eqT]
  |_=>exact nn hb
 |str z=>
  cases c
  cases b with
  |int d=>cases hb; simp[M.eqT]
  |str e=>cases hb; rw[M.eqT]; by_cases h:z=e<;>simp[h]
  |_=>exact nn hb
 |_=>exact nn c
def qqo(h:M.isKey a=O):∃k,keyOf a=Y k:=by
 cases a with
 |int i=>exact⟨_,rfl⟩
 |str z=>exact⟨_,rfl⟩
 |_=>cases h
def qh2{K:Qqq}(h:keyOf a=Y k)(i:IsD K m H a v):v=kV k:=by
 cases a with
 |int b=>cases h; exact i.int
 |str z=>cases h; exact i.str
 |_=>exact nn h
theorem IsKV.get{K:Qqq}(c:keyOf a=Y j):∀{kvs}{xs},IsKV K m H kvs xs->(M.dget kvs a=B/\valV xs j=B)\/∃d v,M.dget kvs a=Y d/\valV xs j=Y v/\IsD K m H d v
 |[],_,h=>by rw[show _=[] from h]; exact .inl ⟨rfl,rfl⟩
 |p::r,_,⟨k,v,g,e,hk,hv,hr⟩=>by
  subst e;have eq:=qa3 hk c
  by_cases b:k=j
  ·refine .inr ⟨p.2,v,?_,qjq b,hv⟩;rw[Z3 b]at eq;simp[M.dget,eq]
  ·rw[Z4 b]at eq;have f:M.dget (p::r) a=M.dget r a:=by simp[M.dget,eq]
   rw[f,qjx b];exact hr.get c
theorem IsKV.any{K:Qqq}(b:keyOf a=Y j):∀{kvs}{xs},IsKV K m H kvs xs->(kvs.any λp=>M.eqT p.1 a)=(xs.any λp=>decide (p.1=j))
 |[],_,h=>by rw[show _=[] from h]; rfl
 |p::r,_,⟨k,v,c,e,hk,hv,hr⟩=>by
  subst e;rw[Qxf,Qxf,qa3 hk b,hr.any b]
theorem IsKV.repl{K:Qqq}(c:keyOf a=Y j)(hd:IsD K m H d w):∀{kvs}{xs},IsKV K m H kvs xs->IsKV K m H (kvs.map λp=>if M.eqT p.1 a then(p.1,d) else p) (xs.map λp=>if p.1=j then(p.1,w) else p)
 |[],_,h=>by rw[show _=[] from h]; rfl
 |p::r,_,⟨k,v,f,e,hk,hv,hr⟩=>by
  subst e;have eq:=qa3 hk c;rw[Qqg,Qqg]
  by_cases b:k=j
  ·rw[Z3 b]at eq;rw[Z6 eq,Z6 b];exact⟨k,w,_,rfl,hk,hd,hr.repl c hd⟩
  ·rw[Z4 b]at eq;rw[Z5 (by rw[eq]; nofun),Z5 b];exact⟨k,v,_,rfl,hk,hv,hr.repl c hd⟩
theorem IsKV.snoc{K:Qqq}(b:keyOf a=Y j)(hd:IsD K m H d w):∀{kvs}{xs},IsKV K m H kvs xs->IsKV K m H (kvs++[(a,d)]) (xs++[(j,w)])
 |[],_,h=>by rw[show _=[] from h]; exact⟨j,w,[],rfl,b,hd,rfl⟩
 |p::r,_,⟨k,v,c,e,hk,hv,hr⟩=>by
  subst e;exact⟨k,v,_,rfl,hk,hv,hr.snoc b hd⟩
theorem IsKV.drop{K:Qqq}(c:keyOf a=Y j):∀{kvs}{xs},IsKV K m H kvs xs->IsKV K m H (M.ddrop kvs a) (qwf xs j)
 |[],_,h=>by rw[show _=[] from h]; rfl
 |p::r,_,⟨k,v,d,e,hk,hv,hr⟩=>by
  subst e;have eq:=qa3 hk c;unfold M.ddrop qwf;rw[Qqo,Qqo]
  by_cases b:k=j
  ·rw[Z3 b]at eq;rw[Z5 (by rw[eq]; nofun),Z5 (by simpa using b)];exact hr.drop c
  ·rw[Z4 b]at eq;rw[Z6 (by rw[eq]; rfl),Z6 (by simpa using b)];exact⟨k,v,_,rfl,hk,hv,hr.drop c⟩
def IsKV.put{K:Qqq}(h:IsKV K m H kvs xs)(b:keyOf a=Y j)(hd:IsD K m H d w):IsKV K m H (M.dput kvs a d) (putK xs j w):=by
 unfold M.dput putK;rw[h.any b]
 split
 ·exact h.repl b hd
 ·exact h.snoc b hd
theorem IsKV.merge{K:Qqq}:∀{more}{ms}{kvs}{xs},IsKV K m H more ms->IsKV K m H kvs xs->IsKV K m H (more.foldl (λa p=>M.dput a p.1 p.2) kvs) (qkm xs ms)
 |[],_,kvs,xs,h,q=>by rw[show _=[] from h]; exact q
 |p::r,_,kvs,xs,⟨k,v,b,e,hk,hv,hr⟩,q=>by
  subst e;exact hr.merge (q.put hk hv)
noncomputable def IsFs(K:Qqq)(m:L Y7)(H:Hp):L (Y5×D)->L (Y5×V)->Prop
 |[],ys=>ys=[]
 |p::r,ys=>∃v yr,ys=(p.1,v)::yr/\IsD K m H p.2 v/\IsFs K m H r yr
theorem qxm{K:Qqq}(hs:Sub m b)(c:Tw H H'):∀(fs:L (Y5×D)) (ys:L (Y5×V)),IsFs K m H fs ys->IsFs K b H' fs ys
 |[],_,h=>h
 |p::r,_,⟨v,a,e,hv,hr⟩=>⟨v,a,e,qz8 hs c _ _ hv,qxm hs c r a hr⟩
def qei{K:Qqq}(hs:Sub m a)(b:Tr H H')(fs)(ys)(h:IsFs K m H fs ys):IsFs K a H' fs ys:=qxm hs b.w fs ys h
theorem IsFs.length{K:Qqq}:∀{fs}{ys},IsFs K m H fs ys->fs.length=ys.length
 |[],_,h=>by rw[show _=[] from h]; rfl
 |p::r,_,⟨v,a,e,_,hr⟩=>by rw[e,Qqh,Qqh,hr.length]
theorem IsFs.get{K:Qqq}(f):∀{fs}{ys},IsFs K m H fs ys->(fs.lookup f=B/\ys.lookup f=B)\/∃d v,fs.lookup f=Y d/\ys.lookup f=Y v/\IsD K m H d v
 |[],_,h=>by rw[show _=[] from h]; exact .inl ⟨rfl,rfl⟩
 |(g,d)::r,_,⟨v,a,e,hv,hr⟩=>by
  subst e;rw[Qzf,Qzf]
  cases f==g with
  |true=>exact .inr ⟨d,v,rfl,rfl,hv⟩
  |false=>exact hr.get f
theorem IsFs.put{K:Qqq}(hd:IsD K m H d w):∀{fs}{ys},IsFs K m H fs ys->IsFs K m H (M.putA f d fs) (putF f w ys)
 |[],_,h=>by rw[show _=[] from h]; exact⟨w,[],rfl,hd,rfl⟩
 |(g,x)::r,_,⟨v,a,e,hv,hr⟩=>by
  subst e;unfold M.putA putF
  split
  ·exact⟨w,a,rfl,hd,hr⟩
  ·exact⟨v,_,rfl,hv,hr.put hd⟩
noncomputable def IsC(K:Qqq)(m:L Y7)(H:Hp):Ya->Y7->Prop
 |.lst O ds,a=>∃xs,H a=Y (.lst xs)/\IsDs K m H ds xs
 |.lst Y6 ds,a=>∃xs,SqF K H a xs/\IsDs K m H ds xs
 |.dic O kvs,a=>∃xs,H a=Y (.dK xs)/\IsKV K m H kvs xs
 |.dic Y6 kvs,a=>∃o xs,H a=Y (.frz o (.dK xs))/\IsKV K m H kvs xs
 |.obj C fs,a=>∃dx ys,H a=Y (.ins C dx ys)/\IsFs K m H fs ys
noncomputable def Wr:Ya->Yb
 |.lst w _=>w
 |_=>O
structure Rel (K:Qqq) (m:L Y7) (st:Y2) (H:Hp):Prop where
 len:m.length=st.length
 nd:∀(l l':Y0) (a:Y7) (c c':Ya),m[l]?=Y a->m[l']?=Y a->st[l]?=Y c->st[l']?=Y c'->Wr c=O->Wr c'=O->l=l'
 cell:∀(l:Y0) (c:Ya) (a:Y7),st[l]?=Y c->m[l]?=Y a->IsC K m H c a
section
variable {K:Qqq}{m:L Y7}{st:Y2}{H:Hp}
def Rel.addr(h:Rel K m st H){l:Y0}(e:st[l]?=Y c):∃a,m[l]?=Y a:=by
 have hl:=(Qqk.mp e).1;have:=h.len;exact⟨m[l]'(by lia),by simp⟩
def IsC.wr(h:IsC K m H c a)(w:Wr c=O):∃o,H a=Y o:=by
 cases c with
 |lst b ds=>
  have e:=w;subst e;obtain⟨xs,e,_⟩:=h;exact⟨_,e⟩
 |dic b kvs=>
  cases b with
  |true=>obtain⟨xs,e,_⟩:=h; exact⟨_,e⟩
  |false=>obtain⟨o,xs,e,_⟩:=h; exact⟨_,e⟩
 |obj C fs=>
  obtain⟨dx,ys,e,_⟩:=h;exact⟨_,e⟩
def Rel.list(h:Rel K m st H)(e:M.listAt st l=Y ds)(hv:IsD K m H (.loc l) v):∃a xs,m[l]?=Y a/\v=.ref a/\SqL K H a xs/\IsDs K m H ds xs:=by
 obtain⟨a,b,rfl⟩:=hv.loc;unfold M.listAt at e
 split at e
 ·rename_i w g q;cases e;have c:=h.cell l _ a q b
  cases w with
  |true=>
   obtain⟨xs,f,d⟩:=c;exact⟨a,xs,b,rfl,SqL.of f,d⟩
  |false=>
   obtain⟨xs,f,d⟩:=c;exact⟨a,xs,b,rfl,f.sq,d⟩
 ·exact nn e
def Rel.seq(h:Rel K m st H)(e:M.seqAt st d=Y ds)(hv:IsD K m H d v):∃a xs,True/\v=.ref a/\SqL K H a xs/\IsDs K m H ds xs:=by
 cases d with
 |loc l=>
  obtain⟨a,xs,_,q⟩:=h.list e hv;exact⟨a,xs,trivial,q⟩
 |lst es=>
  cases e;obtain⟨a,xs,e,q,r⟩:=hv.lst;exact⟨a,xs,trivial,e,q.sq,r⟩
 |_=>exact nn e
def Rel.wlist(h:Rel K m st H)(e:M.wlistAt st l=Y ds)(hv:IsD K m H (.loc l) v):∃a xs,m[l]?=Y a/\v=.ref a/\H a=Y (.lst xs)/\IsDs K m H ds xs/\st[l]?=Y (.lst O ds):=by
 obtain⟨a,b,rfl⟩:=hv.loc;unfold M.wlistAt at e
 split at e
 ·rename_i f q;cases e;obtain⟨xs,d,c⟩:=h.cell l _ a q b;exact⟨a,xs,b,rfl,d,c,q⟩
 ·exact nn e
def qxw(hs:Sub m f)(b:Tw H H')(h:IsC K m H c a)(d:Wr c=O->H' a=H a):IsC K f H' c a:=by
 cases c with
 |lst w ds=>
  cases w with
  |true=>
   obtain⟨xs,e,q⟩:=h;exact⟨xs,(d rfl).trans e,qz1 hs b ds xs q⟩
  |false=>
   obtain⟨xs,e,q⟩:=h;exact⟨xs,b.sqF e,qz1 hs b ds xs q⟩
 |dic w kvs=>
  cases w with
  |true=>
   obtain⟨xs,e,q⟩:=h;exact⟨xs,(d rfl).trans e,qqa hs b kvs xs q⟩
  |false=>
   obtain⟨o,xs,e,q⟩:=h;exact⟨o,xs,(d rfl).trans e,qqa hs b kvs xs q⟩
 |obj C fs=>
  obtain⟨dx,ys,e,q⟩:=h;exact⟨dx,ys,(d rfl).trans e,qxm hs b fs ys q⟩
def qxy(hs:Sub m b)(e:Tr H H')(h:IsC K m H c a)(d:Wr c=O->H' a=H a):IsC K b H' c a:=qxw hs e.w h d
def Rel.dict(h:Rel K m st H)(e:M.dicAt st l=Y kvs)(hv:IsD K m H (.loc l) v):∃a xs,m[l]?=Y a/\v=.ref a/\Rd H a (.dK xs)/\IsKV K m H kvs xs:=by
 obtain⟨a,b,rfl⟩:=hv.loc;unfold M.dicAt at e
 split at e
 ·rename_i w g q;cases e;have c:=h.cell l _ a q b
  cases w with
  |true=>
   obtain⟨xs,f,d⟩:=c;exact⟨a,xs,b,rfl,.inl f,d⟩
  |false=>
   obtain⟨o,xs,f,d⟩:=c;exact⟨a,xs,b,rfl,.inr ⟨o,f⟩,d⟩
 ·exact nn e
def Rel.wdict(h:Rel K m st H)(e:M.wdicAt st l=Y kvs)(hv:IsD K m H (.loc l) v):∃a xs,m[l]?=Y a/\v=.ref a/\H a=Y (.dK xs)/\IsKV K m H kvs xs/\st[l]?=Y (.dic O kvs):=by
 obtain⟨a,c,rfl⟩:=hv.loc;unfold M.wdicAt at e
 split at e
 ·rename_i b q;cases e;obtain⟨xs,f,d⟩:=h.cell l _ a q c;exact⟨a,xs,c,rfl,f,d,q⟩
 ·exact nn e
def Rel.inst(h:Rel K m st H)(e:M.objAt st C d=Y fs)(hv:IsD K m H d v):∃l a dx ys,d=.loc l/\m[l]?=Y a/\v=.ref a/\H a=Y (.ins C dx ys)/\IsFs K m H fs ys/\st[l]?=Y (.obj C fs):=by
 cases d with
 |loc l=>
  obtain⟨a,b,rfl⟩:=hv.loc;have e:(match st[l]? with|some (.obj c fs)=>if c=C then Y fs else B|_=>B)=Y fs:=e
  split at e
  ·rename_i c fs' q
   split at e
   ·rename_i f;cases e;subst f;obtain⟨dx,ys,i,g⟩:=h.cell l _ a q b;exact⟨l,a,dx,ys,rfl,b,rfl,i,g,q⟩
   ·exact nn e
  ·exact nn e
 |_=>exact nn e
def Rel.same(h:Rel K m st H)(s:Same H H'):Rel K m st H':=
 ⟨h.len,h.nd,λl c a e b=>qxy ?M (Tr.of_same s) (h.cell l c a e b) λw=>by
  obtain⟨xs,q⟩:=(h.cell l c a e b).wr w
  rw[q]; exact s _ _ q⟩
def Rel.newC(h:Rel K m st H)(i:H p=B)(hc:Wr c=O->True)(hd:IsC K (m++[p]) (upd H p o) c p):Rel K (m++[p]) (st++[c]) (upd H p o):=by
 have v:Tr H (upd H p o):=Tr.of_same (qzb i);have d:∀(l:Y0) (e:Ya) (a:Y7),(st++[c])[l]?=Y e->(m++[p])[l]?=Y a->(l<st.length/\st[l]?=Y e/\m[l]?=Y a)\/(l=st.length/\e=c/\a=p):=by
  intro l e a f g
  by_cases hl:l<st.length
  ·rw[Qqs hl]at f;rw[Qqs (by rw[h.len]; exact hl)]at g;exact .inl ⟨hl,f,g⟩
  ·have n:=(Qqk.mp f).1;rw[Qql,Qxy]at n;have s:l=st.length:=by lia
   subst s;rw[Qzw (Qqv _)]at f;rw[Qzw (by rw[h.len]; exact Qqv _),h.len]at g;have r:c=e:=by simpa using f
   have q:p=a:=by simpa using g
   exact .inr ⟨rfl,r.symm,q.symm⟩
 refine⟨by simp[h.len],λl k a e t s r q x w u=>?_,λl e a f g=>?_⟩
 ·rcases d l e a q s with⟨h1,b,r1⟩|⟨h1,b,r1⟩<;>rcases d k t a x r with⟨h2,j,r2⟩|⟨h2,j,r2⟩
  ·exact h.nd l k a e t r1 r2 b j w u
  ·obtain⟨ys,z⟩:=(h.cell l e a b r1).wr w;rw[r2,i]at z; cases z
  ·obtain⟨ys,z⟩:=(h.cell k t a j r2).wr u;rw[r1,i]at z; cases z
  ·rw[h1,h2]
 ·rcases d l e a f g with⟨h1,b,r1⟩|⟨h1,b,r1⟩
  ·refine qxy (Sub.app m [p]) v (h.cell l e a b r1) λw=>?_;obtain⟨ys,z⟩:=(h.cell l e a b r1).wr w;exact qzq (qzl z i)
  ·rw[b,r1];exact hd
def Rel.new(h:Rel K m st H)(a:H p=B)(hd:IsDs K m H ds xs):Rel K (m++[p]) (st++[.lst O ds]) (upd H p (.lst xs)):=
 h.newC a (λ_=>trivial) ⟨xs,qzw,qzd (Sub.app m [p]) (Tr.of_same (qzb a)) ds xs hd⟩
def Rel.newD(h:Rel K m st H)(a:H p=B)(hd:IsKV K m H kvs xs):Rel K (m++[p]) (st++[.dic O kvs]) (upd H p (.dK xs)):=
 h.newC a (λ_=>trivial) ⟨xs,qzw,qj2 (Sub.app m [p]) (Tr.of_same (qzb a)) kvs xs hd⟩
def Rel.newLoc(h:Rel K m st H):IsD K (m++[p]) H' (.loc st.length) (.ref p):=qhs (by
 rw[Qzw (by rw[h.len]; exact Qqv _),h.len]; simp)
def Rel.putW(h:Rel K m st H)(e:st[l]?=Y c)(i:Wr c=O)(s:m[l]?=Y a)(u:Tw H (upd H a o))(hd:IsC K m (upd H a o) c' a):
  Rel K m (st.set l c') (upd H a o):=by
 have hl:=(Qqk.mp e).1;have wr:∀(j:Y0) (d:Ya),(st.set l c')[j]?=Y d->(j=l/\d=c')\/(j≠l/\st[j]?=Y d):=by
  intro j d q
  by_cases hj:j=l
  ·subst hj;rw[Qzv hl]at q;exact .inl ⟨rfl,(Option.some.inj q).symm⟩
  ·rw[Qq0 (Ne.symm hj)]at q;exact .inr ⟨hj,q⟩
 refine⟨by rw[Qz9]; exact h.len,λj t b d y n k x v w r=>?_,λj d b q g=>?_⟩
 ·rcases wr j d x with⟨f,b1⟩|⟨f,b1⟩<;>rcases wr t y v with⟨p,b2⟩|⟨p,b2⟩
  ·rw[f,p]
  ·subst f; exact h.nd _ _ b _ _ n k e b2 i r
  ·subst p; exact h.nd _ _ b _ _ n k b1 e w i
  ·exact h.nd _ _ b _ _ n k b1 b2 w r
 ·rcases wr j d q with⟨f,b1⟩|⟨f,b1⟩
  ·subst f b1;rw[s]at g; cases g;exact hd
  ·refine qxw ?M u (h.cell j d b b1 g) λw=>qzq λz=>?_;subst z;exact f (h.nd _ _ b _ _ g s b1 e w i)
def Rel.putC(h:Rel K m st H)(e:st[l]?=Y c)(b:Wr c=O)(f:m[l]?=Y a)(d:Tr H (upd H a o))(hd:IsC K m (upd H a o) c' a):
  Rel K m (st.set l c') (upd H a o):=h.putW e b f d.w hd
theorem Rel.put(h:Rel K m st H)(e:st[l]?=Y (.lst O ds))(d:m[l]?=Y a)(c:H a=Y (.lst xs))(hd:IsDs K m H b ys):
  Rel K m (st.set l (.lst O b)) (upd H a (.lst ys)):=
 h.putC e rfl d (Tr.put c) ⟨ys,qzw,qzd ?M (Tr.put c) b ys hd⟩
def Tr.putD(a:H p=Y (.dK xs)):Tr H (upd H p (.dK ys)):=
 ⟨λb zs e=>by rw[qzq (qzt e a (by intro z; cases z))]; exact e,λb o u e=>by rw[qzq (qzt e a (by intro z; cases z))]; exact e⟩
theorem Rel.putD(h:Rel K m st H)(e:st[l]?=Y (.dic O kvs))(d:m[l]?=Y a)(c:H a=Y (.dK xs))(hd:IsKV K m H b ys):
  Rel K m (st.set l (.dic O b)) (upd H a (.dK ys)):=
 h.putC e rfl d (Tr.putD c) ⟨ys,qzw,qj2 ?M (Tr.putD c) b ys hd⟩
end
def Tr.putI(a:H p=Y (.ins C c xs)):Tr H (upd H p (.ins C c ys)):=
 ⟨λb zs e=>by rw[qzq (qzt e a (by intro z; cases z))]; exact e,λb o u e=>by rw[qzq (qzt e a (by intro z; cases z))]; exact e⟩
theorem Rel.putI{K:Qqq}{st:Y2}(h:Rel K m st H)(e:st[l]?=Y (.obj C fs))(d:m[l]?=Y a)(c:H a=Y (.ins C b xs))(hd:IsFs K m H gs ys):
  Rel K m (st.set l (.obj C gs)) (upd H a (.ins C b ys)):=
 h.putC e rfl d (Tr.putI c) ⟨b,ys,qzw,qei ?M (Tr.putI c) gs ys hd⟩
def Rel.newI{K:Qqq}{st:Y2}(h:Rel K m st H)(i:H x=B)(f:H a=B)(d:a≠x):Same H (upd (upd H a (.own x)) x (.ins C a []))/\Rel K (m++[x]) (st++[.obj C []]) (upd (upd H a (.own x)) x (.ins C a [])):=by
 have g:Same H (upd H a (.own x)):=qzb f;have c:(upd H a (.own x)) x=none:=by rw[qzq (Ne.symm d)]; exact i
 exact⟨λb u e=>qzb c b u (g b u e),(h.same g).newC c (λ_=>trivial) ⟨a,[],qzw,rfl⟩⟩
def Tr.ice(h:H a=Y (.dK xs)):Tr H (upd H a (.frz o (.dK xs))):=
 ⟨λb zs e=>by rw[qzq (qzt e h (by intro z; cases z))]; exact e,λb o u e=>by rw[qzq (qzt e h (by intro z; cases z))]; exact e⟩
def Tr.thaw(h:H a=Y (.dK xs))(t:Tr (upd H a (.frz o (.dK xs))) H'):Tr H (upd H' a (.dK ys)):=
 ⟨λb zs e=>by
  have hb:=qzt e h (by intro z; cases z);rw[qzq hb];exact t.tup b zs (by rw[qzq hb]; exact e),λb o u e=>by
  have hb:=qzt e h (by intro z; cases z);rw[qzq hb]
  exact t.frz b o u (by rw[qzq hb]; exact e)⟩
def Tw.thaw(h:H a=Y (.frz o (.dK xs))):Tw H (upd H a (.dK ys)):=
 ⟨λb zs e=>by rw[qzq (qzt e h (by intro z; cases z))]; exact e,λb o u hs e=>by rw[qzq (qzt e h (by intro z; cases z; exact hs))]; exact e⟩
theorem Rel.ice{K:Qqq}{st:Y2}(h:Rel K m st H)(e:st[l]?=Y (.dic O kvs))(c:m[l]?=Y a)(b:H a=Y (.dK xs))(hd:IsKV K m H kvs xs):
  Rel K m (st.set l (.dic Y6 kvs)) (upd H a (.frz o (.dK xs))):=
 h.putC e rfl c (Tr.ice b) ⟨o,xs,qzw,qj2 ?M (Tr.ice b) kvs xs hd⟩
theorem Rel.thaw{K:Qqq}{st:Y2}(h:Rel K m st H)(e:st[l]?=Y (.dic Y6 kvs))(c:m[l]?=Y a)(b:H a=Y (.frz o (.dK xs))):
  Rel K m (st.set l (.dic O kvs)) (upd H a (.dK xs)):=by
 obtain⟨o',ys,d,q⟩:=h.cell l _ a e c;rw[b]at d;cases d;exact h.putW e rfl c (Tw.thaw b) ⟨xs,qzw,qqa ?M (Tw.thaw b) kvs xs q⟩
structure SlotOk (K:Qqq) (m:L Y7) (H:Hp) (τ:Sl) (σ:L2.St):Prop where
 len:τ.length=σ.length
 at_:∀(i:Y0) (d:D),τ[i]?=Y (Y d)->∃v,σ[i]?=Y (Y v)/\IsD K m H d v
def SlotOk.monoW{K:Qqq}(h:SlotOk K m H τ σ)(s:Sub m c)(t:Tw H H'):SlotOk K c H' τ σ:=
 ⟨h.len,λi d e=>let ⟨v,a,b⟩:=h.at_ i d e; ⟨v,a,qz8 s t d v b⟩⟩
def SlotOk.mono{K:Qqq}(h:SlotOk K m H τ σ)(s:Sub m c)(t:Tr H H'):SlotOk K c H' τ σ:=
 ⟨h.len,λi d e=>let ⟨v,a,b⟩:=h.at_ i d e; ⟨v,a,qzk s t d v b⟩⟩
def SlotOk.put{K:Qqq}(h:SlotOk K m H τ b)(q:IsD K m H d v):SlotOk K m H (τ.set i (Y d)) (b.set i (Y v)):=by
 refine⟨by rw[Qz9,Qz9]; exact h.len,λj e a=>?_⟩
 by_cases hj:i=j
 ·subst hj;have hi:i<τ.length:=by
   have:=(Qqk.mp a).1;rwa [Qz9]at this
  rw[Qzv hi]at a;cases a;exact⟨v,Qzv (by rw[<- h.len]; exact hi),q⟩
 ·rw[Qq0 hj]at a ⊢;exact h.at_ j e a
def Post(K:Qqq)(m:L Y7)(H:Hp)(d:D)(st':Y2)(Q:VK):Prop:=∀v m' H',Sub m m'->Tr H H'->Rel K m' st' H'->IsD K m' H' d v->Q v H'
def PostB(K:Qqq)(m:L Y7)(H:Hp)(b:Yb)(st':Y2)(Q:Yb->Hp->Prop):Prop:=∀m' H',Sub m m'->Tr H H'->Rel K m' st' H'->Q b H'
def PostL(K:Qqq)(m:L Y7)(H:Hp)(ds:L D)(st':Y2)(Q:L V->Hp->Prop):Prop:=∀vs m' H',Sub m m'->Tr H H'->Rel K m' st' H'->IsDs K m' H' ds vs->Q vs H'
def Post.mono{K:Qqq}(p:Post K m H d st' Q)(s:Sub m a)(t:Tr H b):Post K a b d st' Q:=
 λv m' H' s' c r i=>p v m' H' (s.trans s') (t.trans c) r i
def Post.here{K:Qqq}(p:Post K m H d st' Q)(r:Rel K m st' H)(i:IsD K m H d v):Q v H:=p v m H ?M (Tr.refl H) r i
noncomputable def tD(K:Qqq)(f:Sl->Y2->Y3 (D×Y2)):TE:=λσ H Q=>∃m st τ d st',Rel K m st H/\SlotOk K m H τ σ/\f τ st=Y (d,st')/\Post K m H d st' Q
noncomputable def tTs(K:Qqq)(f:Sl->Y2->Y3 (Yb×Y2)):TT:=λσ H Q=>∃m st τ d st',Rel K m st H/\SlotOk K m H τ σ/\f τ st=Y (d,st')/\PostB K m H d st' Q
noncomputable def tL(K:Qqq)(f:Sl->Y2->Y3 (L D×Y2)):TA:=λσ H Q=>∃m st τ d st',Rel K m st H/\SlotOk K m H τ σ/\f τ st=Y (d,st')/\PostL K m H d st' Q
noncomputable def rD(K:Qqq)(g:Y2->D->D->Y3 (D×Y2)):R2:=λx y H Q=>∃m st a b d st',Rel K m st H/\IsD K m H a x/\IsD K m H b y/\g st a b=Y (d,st')/\Post K m H d st' Q
def rC(K:Qqq)(g:Y2->L D->Y3 (D×Y2)):L V->Hp->VK->Prop:=λxs H Q=>∃m st ds d st',Rel K m st H/\IsDs K m H ds xs/\g st ds=Y (d,st')/\Post K m H d st' Q
def rU1(K:Qqq)(g:Y2->D->Y3 (D×Y2)):V->Hp->VK->Prop:=λx H Q=>∃m st a d st',Rel K m st H/\IsD K m H a x/\g st a=Y (d,st')/\Post K m H d st' Q
def Post.of{K:Qqq}(q:Post K m H d s Q)(e:Y (d',a)=Y (d,s)):Post K m H d' a Q:=by cases e; exact q
def PostB.of{K:Qqq}(q:PostB K m H d s Q)(e:Y (d',a)=Y (d,s)):PostB K m H d' a Q:=by cases e; exact q
def PostL.of{K:Qqq}(q:PostL K m H d s Q)(e:Y (d',a)=Y (d,s)):PostL K m H d' a Q:=by cases e; exact q
def rsI{α:Type}{K:Qqq}{f:Sl->Y2->Y3 (α×Y2)}{W:L Y7->α->Y2->Prop}{st:Y2}{d:α}(R:Rel K m st H)(S:SlotOk K m H τ a)(e:f τ st=Y (d,st'))(w:W m d st'):∃m st τ d st',Rel K m st H/\SlotOk K m H τ a/\f τ st=Y (d,st')/\W m d st':=⟨m,st,τ,d,st',R,S,e,w⟩
def tD.el{K:Qqq}{P:Prop}(h:tD K f g H Q)(k:∀m st τ d st',Rel K m st H->SlotOk K m H τ g->f τ st=Y (d,st')->Post K m H d st' Q->P):P:=by
 rcases h with⟨m,st,τ,d,st',a,b,c,e⟩
 exact k m st τ d st' a b c e
def tTs.el{K:Qqq}{P:Prop}(h:tTs K f a H Q)(k:∀m st τ d st',Rel K m st H->SlotOk K m H τ a->f τ st=Y (d,st')->PostB K m H d st' Q->P):P:=by
 rcases h with⟨m,st,τ,d,st',p0,p1,p2,b⟩
 exact k m st τ d st' p0 p1 p2 b
def tL.el{K:Qqq}{P:Prop}(h:tL K f a H Q)(k:∀m st τ d st',Rel K m st H->SlotOk K m H τ a->f τ st=Y (d,st')->PostL K m H d st' Q->P):P:=by
 rcases h with⟨m,st,τ,d,st',p0,p1,p2,b⟩
 exact k m st τ d st' p0 p1 p2 b
def rD.el{K:Qqq}{P:Prop}(h:rD K f x y H Q)(k:∀m st a b d st',Rel K m st H->IsD K m H a x->IsD K m H b y->f st a b=Y (d,st')->Post K m H d st' Q->P):P:=by
 rcases h with⟨m,st,a,b,d,st',p0,p1,p2,e,c⟩
 exact k m st a b d st' p0 p1 p2 e c
def rC.el{K:Qqq}{P:Prop}(h:rC K f xs H Q)(k:∀m st ds d st',Rel K m st H->IsDs K m H ds xs->f st ds=Y (d,st')->Post K m H d st' Q->P):P:=by
 rcases h with⟨m,st,ds,d,st',p0,p1,p2,a⟩
 exact k m st ds d st' p0 p1 p2 a
def rU1.el{K:Qqq}{P:Prop}(h:rU1 K f x H Q)(k:∀m st a d st',Rel K m st H->IsD K m H a x->f st a=Y (d,st')->Post K m H d st' Q->P):P:=by
 rcases h with⟨m,st,a,d,st',p0,p1,p2,b⟩
 exact k m st a d st' p0 p1 p2 b
def _root_.L2.PE.imp(h:PE X e t)(f:∀σ H Q,t' σ H Q->t σ H Q):PE X e t':=λpins s σ H Q I q=>h pins s σ H Q I (f σ H Q q)
def _root_.L2.PT.imp(h:PT X e t)(f:∀σ H Q,t' σ H Q->t σ H Q):PT X e t':=λpins s σ H Q I q=>h pins s σ H Q I (f σ H Q q)
def _root_.L2.PW.imp(h:PW X e t)(f:∀σ H Q,t' σ H Q->t σ H Q):PW X e t':=λw pins s σ H Q I q=>h w pins s σ H Q I (f σ H Q q)
def _root_.L2.PA.imp(h:PA X e t)(f:∀σ H Q,t' σ H Q->t σ H Q):PA X e t':=λp pins s σ H Q I q=>h p pins s σ H Q I (f σ H Q q)
def _root_.L2.PS.imp(h:PS X e t)(f:∀σ H Q,t' σ H Q->t σ H Q):PS X e t':=λpins s σ H Q I q=>h pins s σ H Q I (f Q σ H q)
def _root_.L2.PSs.imp(h:PSs X e t)(f:∀D σ H,t' D σ H->t D σ H):PSs X e t':=λpins s σ H D I q=>h pins s σ H D I (f D σ H q)
def qzj{α:Type}{g:D×Y2->Y3 α}{r:α}{P:Prop}(e:f.bind g=Y r)(k:∀d st,f=Y (d,st)->g (d,st)=Y r->P):P:=by
 cases f with
 |none=>exact nn e
 |some p=>exact k p.1 p.2 rfl e
def qzg{α a:Type}{f:Y3 α}{g:α->a}{r:a}{P:Prop}(e:f.map g=Y r)(k:∀d,f=Y d->g d=r->P):P:=by
 cases f with
 |none=>exact nn e
 |some p=>exact k p rfl (Option.some.inj e)
def qzx{α a:Type}{f:Y3 α}{g:α->Y3 a}{r:a}{P:Prop}(e:f.bind g=Y r)(k:∀d,f=Y d->g d=Y r->P):P:=by
 cases f with
 |none=>exact nn e
 |some p=>exact k p rfl e
def orO{α:Type}{a b:Y3 α}{r:α}(h:a.or b=Y r):a=Y r\/b=Y r:=by
 cases a with
 |none=>exact .inr h
 |some x=>exact .inl h
def mapD{α a:Type}{f:Y3 α}{g:α->a}{r:a}(e:f.map g=Y r):∃d,f=Y d/\g d=r:=by
 cases f with
 |none=>exact nn e
 |some p=>exact⟨p,rfl,Option.some.inj e⟩
section
variable {K:Qqq}
def qcr(h:tD K (λτ st=>(i τ st).bind λp=>(f τ p.2).bind λq=>g q.2 p.1 q.1) a H Q):tOp (rD K g) (tD K i) (tD K f) a H Q:=by
 exact h.el λm st τ d st' t S0 e q=>qzj e λr u n e=>qzj e λo j l e=>rsI t S0 n λx m1 H1 b1 c s i1=>rsI s (S0.mono b1 c) l λy k H2 b2 b R2 i2=>
  ⟨k,j,r,o,d,st',R2,qzk b2 b _ _ i1,i2,e,q.mono (b1.trans b2) (c.trans b)⟩
def tD_un(h:tD K (λτ st=>(b τ st).bind λp=>g p.2 p.1) a H Q):tUn (rU1 K g) (tD K b) a H Q:=by
 exact h.el λm st τ d st' l S0 e q=>qzj e λj f i e=>rsI l S0 i λx m1 H1 b1 c k i1=>⟨m1,f,j,d,st',k,i1,e,q.mono b1 c⟩
def qme(h:tL K (λτ st=>(g τ st).bind λp=>(f τ p.2).bind λq=>Y (p.1::q.1,q.2)) a H Q):qmf (tD K g) (tL K f) a H Q:=by
 refine h.el λm st τ d st' n S0 e q=>qzj e λr o k e=>qzx e λp j e=>?_;have q:=q.of e;exact rsI n S0 k λx m1 H1 b1 c l i1=>rsI l (S0.mono b1 c) j λxs i H2 b2 b R2 i2=>
  q _ i H2 (b1.trans b2) (c.trans b) R2 (qzo (qzk b2 b _ _ i1) i2)
def tL_nil(h:tL K (λ_ st=>Y ([],st)) a H Q):tNil a H Q:=by
 refine h.el λm st τ d st' b S0 e q=>?_;have q:=q.of e;exact q [] m H ?M (Tr.refl H) b qqk
def qqm(h:tD K (λτ st=>(b τ st).bind λp=>g p.2 p.1) a H Q):tCB (rC K g) (tL K b) a H Q:=by
 exact h.el λm st τ d st' j S0 e q=>qzx e λp f e=>rsI j S0 f λxs m1 H1 b1 c i i1=>⟨m1,p.2,p.1,d,st',i,i1,e,q.mono b1 c⟩
end
end MS
end
section
namespace MS
open PySem PySem.Spec PyProof.Rows L2
open M (D Ya Y2 Sl)
noncomputable def Hd:HO->Prop
 |.tup _=>False
 |.own _=>False
 |.tbl _=>False
 |.frz _ u=>¬ Sq u
 |_=>True
def HidS(A:Y7->Prop)(H:Hp)(b:Y7):Prop:=A b\/∃a,A a/\H b=Y (.own a)
open Classical in
noncomputable def hid(A:Y7->Prop)(H:Hp):Hp:=λb=>if HidS A H b then B else H b
open Classical in
noncomputable def bak(A:Y7->Prop)(H H':Hp):Hp:=λb=>if HidS A H b then H b else H' b
section
def qh7(h:hid A H b=Y o):¬ HidS A H b/\H b=Y o:=by
 unfold hid at h
 split at h
 ·cases h
 ·rename_i z; exact⟨z,h⟩
def qxb(h:H b=B):hid A H b=none:=by
 unfold hid
 split
 ·rfl
 ·exact h
def qll(h:HidS A H b):hid A H b=none:=Z6 h
def qq1(h:¬ HidS A H b):hid A H b=H b:=Z5 h
def qk1(h:HidS A H b):bak A H H' b=H b:=Z6 h
def qqe(h:¬ HidS A H b):bak A H H' b=H' b:=Z5 h
end
section
variable {A:Y7->Prop}{H:Hp}(hA:∀a,A a->∃o,H a=Y o/\Hd o)
include hA
theorem qn4(e:H b=Y o)(n:¬ Hd o)(no:∀a,o≠.own a):¬ HidS A H b:=by
 rintro (z|⟨a,_,z⟩)
 ·obtain⟨o',c,d⟩:=hA b z;rw[e]at c; cases c;exact n d
 ·rw[e]at z; cases z;exact no a rfl
theorem qwa(h:HidS A H b):∃o,H b=Y o:=by
 rcases h with z|⟨a,_,z⟩
 ·obtain⟨o,e,_⟩:=hA b z; exact⟨o,e⟩
 ·exact⟨_,z⟩
theorem qj7(e:H b=Y (.tup xs)):¬ HidS A H b:=qn4 hA e (λz=>z) (λ_=>nofun)
theorem qop(e:H b=Y (.own a)):HidS A H b->A a:=by
 rintro (z|⟨f,h,z⟩)
 ·obtain⟨o',c,d⟩:=hA b z;rw[e]at c; cases c;exact d.elim
 ·rw[e]at z; cases z; exact h
section
variable {P:Program}{w:Qj}{K:Qqq}{mg:Y5->Y3 Y8}{base:Heap}{Bq:Qk}{outer:L Env}{s s':Qz}
theorem Env0.hid(e:Env0 P w K mg base Bq outer s H):Env0 P w K mg base Bq outer s (hid A H):=
 ⟨e.frames,e.mod,λb o q=>⟨(e.bs b o q).1,qxb (e.bs b o q).2⟩,e.bsz,e.funs,λb q=>qxb (e.frf b q),λa o q=>by
  obtain⟨n,q⟩:=qh7 q
  exact(e.hok a o q).stay (λ_ _ _ z=>z) (λb z=>(qq1 λy=>n (.inl (qop hA z y))).trans z) (λb xs z=>(qq1 (qj7 hA z)).trans z),e.bare⟩
theorem ObjOk.get(x:ObjOk P w H h a o):∃ob,h.get? a=Y ob:=by
 cases o with
 |lst xs=>obtain⟨_,_,_,_,e⟩:=x; exact⟨_,e⟩
 |tup xs=>obtain⟨_,_,_,_,e,_⟩:=x; exact⟨_,e⟩
 |dK kvs=>obtain⟨_,_,_,_,o,_,_,e,_⟩:=x; exact⟨_,e⟩
 |dT kvs=>obtain⟨_,_,_,_,o,_,_,e,_⟩:=x; exact⟨_,e⟩
 |set S n=>obtain⟨o,_,_,_,e,_⟩:=x; exact⟨_,e⟩
 |ins C dx fs=>obtain⟨_,_,_,e,_⟩:=x; exact⟨_,e⟩
 |own y=>exact x
 |xd fs=>obtain⟨_,⟨_,_,_,e,_⟩,_⟩:=x; exact⟨_,e⟩
 |rng lo hi=>obtain⟨_,_,_,e⟩:=x; exact⟨_,e⟩
 |frz ob u=>obtain⟨e,_⟩:=x; exact⟨_,e⟩
 |tbl ps=>exact⟨_,(show h.get? a=Y _ from x)⟩
 |met f y=>exact⟨_,(show h.get? a=Y _ from x)⟩
 |ext b=>obtain⟨_,e,_⟩:=x; exact e
theorem CE.bak(e:Env0 P w K mg base Bq outer s H)(h:CE outer P w (hid A H) s (λv H'=>(∀b,HidS A H b->H' b=B)->Q v (bak A H H')) u s'):CE outer P w H s Q u s':=by
 obtain⟨v,H',os,bare,un,hok,r,q⟩:=h;have c:∀b,HidS A H b->H' b=none:=λb z=>by
  obtain⟨o,i⟩:=qwa hA z;obtain⟨ob,d⟩:=ObjOk.get hA (e.hok b o i);exact un.free b ob d (qll z) nofun
 have no:∀b o,H' b=Y o->¬ HidS A H b:=λb o z y=>by rw[c b y]at z; cases z
 have tup:∀b xs,H b=Y (.tup xs)->MS.bak A H H' b=Y (.tup xs):=λb xs z=>
  (qqe (qj7 hA z)).trans (un.tups b xs ((qq1 (qj7 hA z)).trans z))
 refine⟨v,MS.bak A H H',os,bare,⟨λb o z n=>un.keep b o z (qxb n),λb o z n=>un.slot b o z (qxb n),λb o z n f=>?_,un.there,tup,λb o u z=>?_,λb ps z=>?_⟩,λa o z=>?_,r,q c⟩
 ·by_cases y:HidS A H b
  ·exact(qk1 y).trans n
  ·exact(qqe y).trans (un.free b o z (qxb n) f)
 ·by_cases y:HidS A H b
  ·exact(qk1 y).trans z
  ·exact(qqe y).trans (un.frzs b o u ((qq1 y).trans z))
 ·have y:¬ HidS A H b:=qn4 hA z (λz=>z) (λ_=>nofun);obtain⟨m,j⟩:=un.tbls b ps ((qq1 y).trans z);exact⟨m,(qqe y).trans j⟩
 ·by_cases y:HidS A H a
  ·rw[qk1 y]at z;rcases y with y|⟨k,_,y⟩
   ·refine(e.hok a o z).stay (λb u hb g=>?_) (λb g=>(qk1 (.inr ⟨a,y,g⟩)).trans g) tup;have hb:HidS A H b:=by
     rcases hb with rfl|hb
     ·exact .inl y
     ·exact .inr ⟨a,y,hb⟩
    refine un.keep b u g (qll hb) (λhf=>?_) nofun
    obtain⟨_,q⟩:=qwa hA hb;rw[e.frf b hf]at q; cases q
   ·rw[z]at y; cases y;obtain⟨ob,d⟩:=ObjOk.get hA (e.hok a _ z);exact un.there a ob d nofun
  ·rw[qqe y]at z;exact(hok a o z).stay (λ_ _ _ z=>z) (λb z=>(qqe (no b _ z)).trans z) (λb xs z=>(qqe (no b _ z)).trans z)
end
end
def FnOk.iso{K:Qqq}(F:FnOk P w K mg base CX0 k f l ps g)(h:∀vs H Q E,sp' vs H Q E->g vs H Q E\/∃A,(∀a,A a->∃o,H a=Y o/\Hd o)/\g vs (hid A H) (λv H'=>(∀b,HidS A H b->H' b=B)->Q v (bak A H H')) E):FnOk P w K mg base CX0 k f l ps sp':=
 ⟨λvs H Q E q=>(h vs H Q E q).elim (F.len vs H Q E) λ⟨_,_,q⟩=>F.len vs _ _ E q,λBq outer s H c j vs Q E hr i hb hv hs=>by
  rcases h vs H Q E hs with q|⟨A,hA,q⟩
  ·exact F.run Bq outer s H c j vs Q E hr i hb hv q
  ·refine Q3 (F.run Bq outer s (hid A H) c j vs _ E hr (Env0.hid hA i) hb hv q) λr s' d=>?_
   cases r with
   |error e=>exact d
   |ok m=>
    cases m with
    |ret u=>exact CE.bak hA i d
    |next=>exact d
    |brk=>exact d
    |cont=>exact d⟩
section
variable {K:Qqq}{m:L Y7}{H:Hp}{N:Y0}
mutual
theorem qao:∀(d:D) (v:V),IsD K m H (M.mp (· + N) d) v↔IsD K (m.drop N) H d v
 |.non,_=>Iff.rfl
 |.bl _,_=>Iff.rfl
 |.int _,_=>Iff.rfl
 |.str _,_=>Iff.rfl
 |.tup ds,_=>by
  rw[M.mp,IsD,IsD];exact exists_congr λa=>exists_congr λxs=>and_congr_right λ_=>and_congr_right λ_=>qj4 ds xs
 |.lst ds,_=>by
  rw[M.mp,IsD,IsD];exact exists_congr λa=>exists_congr λxs=>and_congr_right λ_=>and_congr_right λ_=>qj4 ds xs
 |.loc l,_=>by
  rw[M.mp,IsD,IsD];exact exists_congr λa=>by rw[Qjk,Nat.add_comm]
theorem qj4:∀(ds:L D) (xs:L V),IsDs K m H (M.mps (· + N) ds) xs↔IsDs K (m.drop N) H ds xs
 |[],_=>Iff.rfl
 |d::r,_=>by
  rw[M.mps,IsDs,IsDs];exact exists_congr λx=>exists_congr λxs=>and_congr_right λ_=>and_congr (qao d x) (qj4 r xs)
end
theorem qyb:∀(kvs:L (D×D)) (xs:L (Key×V)),IsKV K m H (kvs.map λp=>(p.1,M.mp (· + N) p.2)) xs↔IsKV K (m.drop N) H kvs xs
 |[],_=>Iff.rfl
 |p::r,_=>exists_congr λk=>exists_congr λv=>exists_congr λa=>and_congr_right λ_=>and_congr_right λ_=>and_congr (qao p.2 v) (qyb r a)
theorem qeh:∀(fs:L (Y5×D)) (xs:L (Y5×V)),IsFs K m H (fs.map λp=>(p.1,M.mp (· + N) p.2)) xs↔IsFs K (m.drop N) H fs xs
 |[],_=>Iff.rfl
 |p::r,_=>exists_congr λv=>exists_congr λa=>and_congr_right λ_=>and_congr (qao p.2 v) (qeh r a)
def qlf(c)(a):IsC K m H (M.mpC (· + N) c) a↔IsC K (m.drop N) H c a:=by
 cases c with
 |lst w ds=>cases w<;>exact exists_congr λxs=>and_congr_right λ_=>qj4 ds xs
 |dic w kvs=>
  cases w with
  |true=>exact exists_congr λxs=>and_congr_right λ_=>qyb kvs xs
  |false=>exact exists_congr λo=>exists_congr λxs=>and_congr_right λ_=>qyb kvs xs
 |obj C fs=>exact exists_congr λdx=>exists_congr λys=>and_congr_right λ_=>qeh fs ys
def qvh(c):Wr (M.mpC (· + N) c)=Wr c:=by cases c<;>rfl
end
def AhS(m:L Y7)(st:Y2)(N:Y0)(a:Y7):Prop:=∃l c,l<N/\m[l]?=Y a/\st[l]?=Y c/\Wr c=O
def IsC.hd{K:Qqq}(h:IsC K m H c a)(w:Wr c=O):∃o,H a=Y o/\Hd o:=by
 cases c with
 |lst b ds=>
  have e:=w;subst e;obtain⟨xs,e,_⟩:=h;exact⟨_,e,trivial⟩
 |dic b kvs=>
  cases b with
  |true=>obtain⟨xs,e,_⟩:=h; exact⟨_,e,trivial⟩
  |false=>obtain⟨o,xs,e,_⟩:=h; exact⟨_,e,λz=>z⟩
 |obj C fs=>obtain⟨dx,ys,e,_⟩:=h; exact⟨_,e,trivial⟩
section
variable {K:Qqq}{m:L Y7}{st S:Y2}{H:Hp}{N:Y0}(R:Rel K m st H)(hS:M.up N S=st.drop N)
include R
theorem qin:∀a,AhS m st N a->∃o,H a=Y o/\Hd o:=λa ⟨l,c,_,d,b,w⟩=>(R.cell l c a b d).hd w
theorem qli:Tw H (hid (AhS m st N) H):=
 ⟨λb xs e=>(qq1 (qj7 (qin R) e)).trans e,λb o u h e=>(qq1 (qn4 (qin R) e (λz=>z h) (λ_=>nofun))).trans e⟩
include hS
theorem qm5:Rel K (m.drop N) S (hid (AhS m st N) H):=by
 have at_:∀{l:Y0}{c:Ya},S[l]?=Y c->st[N+l]?=Y (M.mpC (· + N) c):=λ{l c} e=>by
  rw[<- Qjk,<- hS,Qqw,e]; rfl
 have g:∀{l:Y0}{a:Y7},(m.drop N)[l]?=Y a->m[N+l]?=Y a:=λ{l a} e=>by rw[<- Qjk]; exact e
 refine⟨?_,λl k a c j f b p n w h=>?_,λl c a f b=>?_⟩
 ·have e:=congrArg List.length hS;rw[Qqz,Qxg]at e;rw[Qxg,R.len,e]
 ·have:=R.nd _ _ a _ _ (g f) (g b) (at_ p) (at_ n) ((qvh c).trans w) ((qvh j).trans h);omega
 ·have q:=R.cell _ _ a (at_ f) (g b);refine qxw (λ_ _ z=>z) (qli R) ((qlf c a).mp q) λw=>qq1 ?_;rintro (⟨k,j,hl,z1,z2,h⟩|⟨r,_,z⟩)
  ·have:=R.nd _ _ a _ _ z1 (g b) z2 (at_ f) h ((qvh c).trans w);omega
  ·obtain⟨o,i,d⟩:=q.hd ((qvh c).trans w);rw[z]at i; cases i;exact d
omit hS in
theorem qhk(W:N<=st.length)(p:Post K m H (M.mp (· + N) d) (st.take N++M.up N S') Q):
  Post K (m.drop N) (hid (AhS m st N) H) d S' λv H'=>(∀b,HidS (AhS m st N) H b->H' b=B)->Q v (bak (AhS m st N) H H'):=λv m1 H1 V t P i k=>by
 have F:(m.take N).length=N:=by rw[Qq9,R.len]; omega
 have hs:(st.take N).length=N:=by rw[Qq9]; omega
 have no:∀b o,H1 b=Y o->¬ HidS (AhS m st N) H b:=λb o z y=>by rw[k b y]at z; cases z
 have up:Tw H1 (bak (AhS m st N) H H1):=⟨λb xs e=>(qqe (no b _ e)).trans e,λb o u _ e=>(qqe (no b _ e)).trans e⟩
 have U:Tr H (bak (AhS m st N) H H1):=⟨λb xs e=>by
  have y:=qj7 (qin (N:=N) R) e;exact(qqe y).trans (t.tup b xs ((qq1 y).trans e)),λb o u e=>by
  by_cases y:HidS (AhS m st N) H b
  ·exact(qk1 y).trans e
  ·exact(qqe y).trans (t.frz b o u ((qq1 y).trans e))⟩
 have dr:(m.take N++m1).drop N=m1:=by
  have z:=List.drop_left (l₁:=m.take N) (l₂:=m1);rw[F]at z;exact z
 have x:Sub m (m.take N++m1):=λl a e=>by
  by_cases hl:l<N
  ·rw[Qqs (by omega),Qx1,Z6 hl]; exact e
  ·rw[Qzw (by omega),F];exact V _ a (by rw[Qjk,show N+(l - N)=l by omega]; exact e)
 have E:∀{l:Y0}{c:Ya},(st.take N++M.up N S')[l]?=Y c->(l<N/\st[l]?=Y c)\/(N<=l/\∃h,S'[l - N]?=Y h/\c=M.mpC (· + N) h):=λ{l c} e=>by
  by_cases hl:l<N
  ·rw[Qqs (by omega),Qx1,Z6 hl]at e;exact .inl ⟨hl,e⟩
  ·rw[Qzw (by omega),hs,Qqw]at e;refine .inr ⟨by omega,?_⟩
   cases hc:S'[l - N]? with
   |none=>rw[hc]at e; cases e
   |some h=>rw[hc]at e; cases e; exact⟨h,rfl,rfl⟩
 have f:∀{l:Y0}{a:Y7},(m.take N++m1)[l]?=Y a->(l<N->m[l]?=Y a)/\(N<=l->m1[l - N]?=Y a):=λ{l a} e=>by
  refine⟨λhl=>?_,λhl=>?_⟩
  ·rw[Qqs (by omega),Qx1,Z6 hl]at e; exact e
  ·rw[Qzw (by omega),F]at e; exact e
 have A:∀{l C:Y0}{a:Y7}{c h:Ya},l<N->m[l]?=Y a->st[l]?=Y c->Wr c=O->m1[C - N]?=Y a->S'[C - N]?=Y h->Wr h=O->False:=λ{l C a c h} hl n g w T I s=>by
  obtain⟨o,G⟩:=(P.cell _ _ a I T).wr s;rw[k a (.inl ⟨l,c,hl,n,g,w⟩)]at G; cases G
 refine p v (m.take N++m1) _ x U ⟨?_,λl C a c h n g T I w s=>?_,λl c a n g=>?_⟩ ((qao d v).mpr ?_)
 ·rw[Qql,Qql,F,hs,Qqz,P.len]
 ·rcases E T with⟨h1,h2⟩|⟨h1,c1,h2,rfl⟩
  ·rcases E I with⟨j,r⟩|⟨j,c2,r,rfl⟩
   ·exact R.nd l C a c h ((f n).1 h1) ((f g).1 j) h2 r w s
   ·exact(A h1 ((f n).1 h1) h2 w ((f g).2 j) r ((qvh c2).symm.trans s)).elim
  ·rcases E I with⟨j,r⟩|⟨j,c2,r,rfl⟩
   ·exact(A j ((f g).1 j) r s ((f n).2 h1) h2 ((qvh c1).symm.trans w)).elim
   ·have:=P.nd _ _ a c1 c2 ((f n).2 h1) ((f g).2 j) h2 r ((qvh c1).symm.trans w) ((qvh c2).symm.trans s);omega
 ·rcases E n with⟨h1,h2⟩|⟨h1,c1,h2,rfl⟩
  ·exact qxy x U (R.cell l c a h2 ((f g).1 h1)) λw=>qk1 (.inl ⟨l,c,h1,(f g).1 h1,h2,w⟩)
  ·refine(qlf c1 a).mpr ?_;rw[dr];have q:=P.cell _ c1 a h2 ((f g).2 h1);exact qxw (λ_ _ z=>z) up q λw=>by
    obtain⟨o,G⟩:=q.wr w;exact qqe (no a o G)
 ·rw[dr];exact qz8 (λ_ _ z=>z) up d v i
end
end MS
end
section
namespace MS
open PySem PySem.Spec PyProof.Rows L2
open M (D Ya Y2 Sl)
section
variable {X:Cx}
def qqy:(sizeLine:Y0)=M.lim:=Q0
def qd2:OpR X (Q2 .FloorDiv) (rI (λ_ j=>0<j/\j<2 ^ 64) λi j=>.int (i / j)):=opI λi j _ _ _ _ _ hc q=>by
 refine floordiv_int (by omega) (by rw[Int.fdiv_eq_ediv_of_nonneg i (by omega)]; exact q) (.inl (PyProof.noPylong_of_log2 ?_));have b:j.natAbs<2 ^ 64:=by omega
 have a:j.natAbs≠0:=by omega
 have c:=(Nat.log2_lt a).mpr b;omega
theorem _root_.MS.IsDs.rep{K:Qqq}(h:IsDs K m H ds xs):∀k:Y0,IsDs K m H (List.replicate k ds).flatten (List.replicate k xs).flatten
 |0=>by simp only[List.replicate_zero]; exact qqk
 |k+1=>by
  rw[Qz4,Qz4,Qxd,Qxd];exact h.append (IsDs.rep h k)
def qn0(I:Inv X a m H s)(w:SqL X.K H l xs)(i:SqL X.K H b ys)(C:xs.length+ys.length<=sizeLine)(q:∀p,H p=B->Q (.ref p) (upd H p (.lst (xs++ys)))):
  wpAny ?d X.A (Q2 .Add (.ref l) (.ref b)) (EP X a m Q) X.xe s:=by
 obtain⟨vs,r1,pl,_⟩:=I.list w;obtain⟨ws,r2,h,_⟩:=I.list i;have A:=r1.length;have z:=r2.length;obtain⟨⟨cls,y,t,sl⟩,n,o,hc,x,hd⟩:=pl;obtain⟨⟨u,j,k,g⟩,v,c,f,r,d⟩:=h;simp only at hc hd f d;subst hc hd f d;have e:vs.toArray++ws.toArray=(vs++ws).toArray:=by simp
 refine concat_meets ⟨_,o,rfl⟩ ⟨_,c,rfl⟩ noFill_list_add seq_list_add PySem.F.slot_list_add PySem.F.entry_list_add (PySem.F.args_list_add_2 _ _) (list_addW l b vs.toArray ws.toArray n v y j sl g (by simp; omega)) ⟨o,c,?_⟩;rw[e];exact⟨.ref _,_,I.lnew (r1.append r2) (by rw[Qql]; omega),rfl,q _ I.fresh⟩
def qn1(E):OpR X (Q2 E) (rD X.K λst a b=>M.binop st E a b):=by
 intro pins s σ H x y v u Q I i g h;refine h.el λm st a b d st' c i1 i2 e q=>?_;have e:=e;unfold M.binop at e
 split at e
 ·have q:=q.of e;exact op_add pins s σ H x y v u Q I i g ⟨_,_,i1.int,i2.int,q.here c (mkInt _)⟩
 ·rename_i S bs
  split at e
  ·exact nn e
  ·rename_i hc;have q:=q.of e;rw[Qxl,decide_eq_true_eq,not_or,List.isEmpty_iff]at hc;obtain⟨A,xs,rfl,n,f⟩:=i1.tup;obtain⟨D,ys,rfl,t,r⟩:=i2.tup;have C:=f.length;have G:=r.length;have F:=qqy;refine qnu pins s σ H _ _ v u Q I i g ⟨A,D,xs,ys,rfl,rfl,n,t,?_,by omega,λz=>?_,λz p w=>?_⟩
   ·intro z;subst z;exact hc.1 (Qzs.mp C)
   ·have j:=f.append r;rw[z,Qzx]at j;exact q.here c (qq3 n j)
   ·have l:=qzb (o:=.tup (xs++ys)) w;exact q _ m _ ?M (Tr.of_same l) (c.same l) (qq3 (SqT.of qzw) (qzd ?M (Tr.of_same l) _ _ (f.append r)))
 ·rename_i la T _ _;refine qzx e λR N e=>qzx e λP K e=>?_
  split at e
  ·exact nn e
  ·rename_i hc;have q:=q.of e;obtain⟨A,xs,_,rfl,n,f⟩:=c.seq N i1;obtain⟨D,ys,_,rfl,t,r⟩:=c.seq K i2;have C:=f.length;have G:=r.length;have F:=qqy;cases i;cases g;refine qn0 I n t (by omega) λp w=>?_;exact q _ (m++[p]) _ (Sub.app m [p]) (Tr.of_same (qzb w)) (c.new w (f.append r)) c.newLoc
 ·have q:=q.of e;exact op_sub pins s σ H x y v u Q I i g ⟨_,_,i1.int,i2.int,q.here c (mkInt _)⟩
 ·split at e
  ·rename_i hc;have q:=q.of e;refine op_mul pins s σ H x y v u Q I i g ⟨_,_,i1.int,i2.int,?_,q.here c (mkInt _)⟩;unfold M.mulOk at hc;simp only[Qxl,Qq2,decide_eq_true_eq]at hc;exact hc
  ·exact nn e
 ·rename_i S k _
  split at e
  ·exact nn e
  ·rename_i hc;have q:=q.of e;simp only[Qxl,decide_eq_true_eq]at hc;obtain⟨A,xs,rfl,n,f⟩:=i1.tup;have C:=f.length;have F:=qqy;refine qns pins s σ H _ _ v u Q I i g ⟨A,k,xs,rfl,i2.int,n,by omega,by omega,by rw[<- C]; omega,λys t=>⟨λz=>?_,λp w=>?_⟩⟩
   ·have j:=f.rep k.toNat
    rw[<- t,z]at j;exact q.here c (qq3 n j)
   ·have l:=qzb (o:=.tup ys) w;have j:=f.rep k.toNat
    rw[<- t]at j;exact q _ m _ ?M (Tr.of_same l) (c.same l) (qq3 (SqT.of qzw) (qzd ?M (Tr.of_same l) _ _ j))
 ·split at e
  ·rename_i hc;have q:=q.of e;exact qd2 pins s σ H x y v u Q I i g ⟨_,_,i1.int,i2.int,hc,q.here c (mkInt _)⟩
  ·exact nn e
 ·split at e
  ·rename_i hc;have q:=q.of e;exact op_mod pins s σ H x y v u Q I i g ⟨_,_,i1.int,i2.int,hc,q.here c (mkInt _)⟩
  ·exact nn e
 ·split at e
  ·rename_i hc;have q:=q.of e;exact op_pow pins s σ H x y v u Q I i g ⟨_,_,i1.int,i2.int,⟨hc.1,by omega,hc.2.2⟩,q.here c (mkInt _)⟩
  ·exact nn e
 ·exact nn e
def qz7(I:Inv X c e H s)(h:IsD X.K m H (.tup ds) v):∃a xs b,v=.ref a/\SqT X.K H a xs/\IsDs X.K m H ds xs/\Vals xs b/\IsTup s.heap a b.toArray:=by
 obtain⟨a,xs,rfl,d,f⟩:=h.tup;obtain⟨b,r,p,_⟩:=I.tuple d;exact⟨a,xs,b,rfl,d,f,r,p⟩
section
variable {H:Hp}{m:L Y7}
theorem qyc:∀{ds es}{xs},ds.all M.isI=O->es.all M.isI=O->IsDs X.K m H ds xs->IsDs X.K m H es xs->ds=es
 |[],es,xs,_,_,h,h'=>by
  rw[h.nil]at h';exact(Qzs.mp h'.length).symm
 |d::ds,es,xs,f,c,h,h'=>by
  obtain⟨x,r,rfl,q,t⟩:=h.cons
  cases es with
  |nil=>cases h'.nil
  |cons e es=>
   obtain⟨j,r',z,i,g⟩:=h'.cons;cases z;rw[Qz7,Qq2]at f c;rw[qyc f.2 c.2 t g]
   cases d with
   |int a=>
    cases e with
    |int b=>cases q.int; cases i.int; rfl
    |_=>cases c.1
   |_=>cases f.1
def qof(I:Inv X pins σ H s)(f:M.flat n d=O)(c:M.flat n e=O)(h:IsD X.K m H d v)(h':IsD X.K m H e v):d=e:=by
 cases d with
 |int b=>
  rw[h.int]at h'
  cases e with
  |tup ds=>obtain⟨a,xs,z,_⟩:=h'.tup; cases z
  |int b=>cases h'.int; rfl
  |str b=>cases h'.str
  |_=>cases c
 |str b=>
  rw[h.str]at h'
  cases e with
  |tup ds=>obtain⟨a,xs,z,_⟩:=h'.tup; cases z
  |int b=>cases h'.int
  |str b=>cases h'.str; rfl
  |_=>cases c
 |tup ds=>
  obtain⟨a,xs,rfl,k,i⟩:=h.tup
  cases e with
  |tup es=>
   obtain⟨b,ys,z,j,g⟩:=h'.tup;cases z;cases I.tuple_inj k j;rw[qyc f c i g]
  |int b=>cases h'.int
  |str b=>cases h'.str
  |_=>cases c
 |_=>cases f
theorem qwd:∀{ds},ds.all M.isI=O->M.eqTs ds ds=O
 |[],_=>rfl
 |d::ds,f=>by
  rw[Qz7,Qq2]at f;unfold M.eqTs;rw[qwd f.2,Qjc]
  cases d with
  |int a=>exact beq_self_eq_true a
  |_=>cases f.1
noncomputable def pairE(ds es:L D)(j:Y0):Bool:=match ds[j]?,es[j]? with
 |some d,Y e=>M.eqT d e
 |_,_=>O
theorem qwe:∀(ds es:L D),M.eqTs ds es=((List.range (min ds.length es.length)).all (pairE ds es)&&ds.length==es.length)
 |[],[]=>rfl
 |[],e::es=>by simp[M.eqTs]
 |d::ds,[]=>by simp[M.eqTs]
 |d::ds,e::es=>by
  simp only[M.eqTs];rw[qwe ds es,Qqh,Qqh,Nat.add_min_add_right,List.range_succ_eq_map,Qz7,List.all_map,Bool.and_assoc]
  congr 1
  congr 1
  rw[Qka,beq_iff_eq,beq_iff_eq];omega
def int_at(f:ds.all M.isI=O)(c:IsDs X.K m H ds xs)(r:Vals xs b)(h:j<b.toArray.size):∃a t,ds[j]?=Y (.int a)/\b.toArray[j]=Value.int a t:=by
 have l:=c.length;have i:=r.length;rw[Qqc]at h;obtain⟨d,g⟩:∃d,ds[j]?=Y d:=⟨_,Qqd (by omega)⟩
 obtain⟨x,k,q⟩:=c.get g;obtain⟨u,w,z⟩:=r.get k;have e:=Qzc.mp f _ (Qqi g)
 cases d with
 |int a=>
  cases q.int;obtain⟨t,rfl⟩:=z;exact⟨a,t,g,(Qjr _).trans (Qqk.mp w).2⟩
 |_=>cases e
def ql1(I:Inv X pins σ H s)(n)(A)(d e)(x y)(u v)(S:A.units+n<cLine)(f:M.flat n d=O)(z:M.flat n e=O)(F:IsD X.K m H d x)(l:IsD X.K m H e y)(C:RelV x u)(k:RelV y v):SeqAt.EqAt A s u v (M.eqT d e)/\SeqAt.RcAt A s u v (M.eqT d e):=by
 have c:A.units<cLine:=by omega
 cases d with
 |int a=>
  cases F.int; obtain⟨h,rfl⟩:=C
  cases e with
  |tup es=>obtain⟨b,ys,o,rfl,p,q,r2,p2⟩:=qz7 I l; cases k; exact⟨SeqAt.EqAt.int_tuple a h p2 c,SeqAt.RcAt.int_tuple a h p2 c⟩
  |int b=>cases l.int; obtain⟨t,rfl⟩:=k; exact⟨SeqAt.EqAt.int_int a h b t,SeqAt.RcAt.int_int a h b t⟩
  |str b=>cases l.str; obtain⟨t,rfl⟩:=k; exact⟨SeqAt.EqAt.int_str a h b t,SeqAt.RcAt.int_str a h b t⟩
  |_=>cases z
 |str a=>
  cases F.str; obtain⟨h,rfl⟩:=C
  cases e with
  |tup es=>obtain⟨b,ys,o,rfl,p,q,r2,p2⟩:=qz7 I l; cases k; exact⟨SeqAt.EqAt.str_tuple a h p2 c,SeqAt.RcAt.str_tuple a h p2 c⟩
  |int b=>cases l.int; obtain⟨t,rfl⟩:=k; exact⟨SeqAt.EqAt.str_int a h b t,SeqAt.RcAt.str_int a h b t⟩
  |str b=>cases l.str; obtain⟨t,rfl⟩:=k; exact⟨SeqAt.EqAt.str_str a h b t,SeqAt.RcAt.str_str a h b t⟩
  |_=>cases z
 |tup ds=>
  obtain⟨a,xs,N,rfl,Q,E,r1,p1⟩:=qz7 I F;cases C
  cases e with
  |int b=>cases l.int; obtain⟨t,rfl⟩:=k; exact⟨SeqAt.EqAt.tuple_int b t p1 c,SeqAt.RcAt.tuple_int b t p1 c⟩
  |str b=>cases l.str; obtain⟨t,rfl⟩:=k; exact⟨SeqAt.EqAt.tuple_str b t p1 c,SeqAt.RcAt.tuple_str b t p1 c⟩
  |tup es=>
   obtain⟨b,ys,o,rfl,p,q,r2,p2⟩:=qz7 I l;cases k;have G:SeqAt.RcAt A s (.ref a) (.ref b) (M.eqTs ds es):=by
    have:=SeqAt.RcAt.tuples p1 p2 c (e:=pairE ds es) λj h1 h2=>by
     obtain⟨i,t,g,w⟩:=int_at f E r1 h1;obtain⟨P,h,R,K⟩:=int_at z q r2 h2;rw[w,K];unfold pairE;rw[g,R];exact SeqAt.EqAt.int_int i t P h
    rw[qwe,E.length,q.length,r1.length,r2.length];simpa using this
   refine⟨?_,G⟩
   by_cases r:a=b
   ·subst r;cases I.tuple_inj Q p;cases qyc f z E q;show SeqAt.EqAt A s _ _ (M.eqTs ds ds);rw[qwd f];exact SeqAt.EqAt.same _
   ·exact SeqAt.EqAt.of_refs r G
  |_=>cases z
 |_=>cases f
end
end
end MS
end
section
namespace MS
open PySem PySem.Spec PyProof.Rows L2
section
end
end MS
end
section
namespace MS
open PySem PySem.Spec PyProof.Rows L2
open M (D Ya Y2 Sl)
section
variable {X:Cx}
section
def qgk(I:Inv X pins σ H s)(A)(C:A.units+9<cLine)(F:M.flat 9 d0=O)(E:IsD X.K m H d0 g)(o:RelV g c):
  ∃e:Y8->Yb,∀(ds:L D) (xs:L V) (a:L Y8),M.flats 9 ds=O->IsDs X.K m H ds xs->Vals xs a->(∀w∈a,SeqAt.EqAt A s w c (e w))/\a.any e=ds.any λy=>M.eqT y d0:=by
 classical
 refine⟨λw=>decide (∃d x,M.flat 9 d=O/\IsD X.K m H d x/\RelV x w/\M.eqT d d0=O),λds=>?_⟩;have b:∀d x w,M.flat 9 d=O->IsD X.K m H d x->RelV x w->decide (∃d x,M.flat 9 d=O/\IsD X.K m H d x/\RelV x w/\M.eqT d d0=O)=M.eqT d d0:=by
  intro d x w f i r
  cases q:M.eqT d d0 with
  |true=>exact Z3 ⟨d,x,f,i,r,q⟩
  |false=>
   refine Z4 ?_;rintro⟨S,R,G,v,r',k⟩;have N:=r.inj r';subst N;have K:=qof I f G i v;subst K;rw[q]at k;cases k
 induction ds with
 |nil=>
  intro xs a _ h r;rw[h.nil]at r;cases r;exact⟨λw j=>(by cases j),rfl⟩
 |cons d ds p=>
  intro xs a f h r;obtain⟨x,l,rfl,q,t⟩:=h.cons;simp only[ Qz7,Qq2]at f
  cases r with
  |@cons _ u _ n r1 r2=>
   obtain⟨Q,P⟩:=p l n f.2 t r2;refine⟨λw j=>?_,?_⟩
   ·rcases Qqb.mp j with z|z
    ·subst z;show SeqAt.EqAt A s w c (decide _);rw[b d x w f.1 q r1];exact(ql1 I 9 A d d0 x g w c C f.1 F q E r1 o).1
    ·exact Q w z
   ·rw[Qxf,Qxf,P]
    congr 1
    exact b d x u f.1 q r1
end
def qlj(n)(F:X.A.units+64<cLine):OpR X (Qg (cond n .NotIn .In)) (rD X.K λst a b=>(M.inD st a b).map λk=>(.bl (cond n (!k) k),st)):=by
 intro pins s σ H x y v u Q I A z h;refine h.el λm st a b d st' D i1 i2 e q=>qzg e λk f t=>?_;cases t;have i:X.A.in1.units+9<cLine:=by have E:X.A.in1.units=X.A.units+1:=rfl; lia
 have q:=q.here D (mkBl _)
 cases b with
 |tup ds=>
  simp only[M.inD]at f
  split at f
  ·rename_i hf;cases f;rw[Qq2]at hf;obtain⟨p,xs,c,rfl,C,j,r,pl⟩:=qz7 I i2;cases z;obtain⟨ef,o⟩:=qgk I X.A.in1 i hf.1 i1 A;obtain⟨h1,h2⟩:=o ds xs c hf.2 j r;have e:c.toArray.any ef=c.any ef:=by simp
   rw[<- h2,<- e]at q;cases n
   ·exact SeqAt.in_tupleAt ef pl (λw g=>h1 w (by simpa using g)) ⟨.bl _,H,I,rfl,q⟩
   ·exact SeqAt.notIn_tupleAt ef pl (λw g=>h1 w (by simpa using g)) ⟨.bl _,H,I,rfl,q⟩
  ·exact nn f
 |loc l|lst l=>
  simp only[M.inD]at f;refine qzx f λds t f=>?_
  split at f
  ·rename_i hf;cases f;rw[Qq2]at hf;obtain⟨p,xs,_,rfl,C,j⟩:=D.seq t i2;cases z;obtain⟨c,r,pl,_⟩:=I.list C;obtain⟨ef,o⟩:=qgk I X.A.in1 i hf.1 i1 A;obtain⟨h1,h2⟩:=o ds xs c hf.2 j r;have e:c.toArray.any ef=c.any ef:=by simp
   rw[<- h2,<- e]at q;cases n
   ·exact SeqAt.in_listAt ef pl.isList (λw g=>h1 w (by simpa using g)) ⟨.bl _,H,I,rfl,q⟩
   ·exact SeqAt.notIn_listAt ef pl.isList (λw g=>h1 w (by simpa using g)) ⟨.bl _,H,I,rfl,q⟩
  ·exact nn f
 |_=>simp[M.inD,M.seqAt]at f
def op_eqD(p:X.A.units+64<cLine):OpR X (Qg .Eq) (rD X.K λst a b=>(M.eqD st a b).map λk=>(.bl k,st)):=by
 intro pins s σ H x y v u Q I f g h;refine h.el λm st a b d st' j i1 i2 e q=>qzg e λk c n=>?_;cases n;unfold M.eqD at c
 split at c
 ·cases c; cases i1.bl; cases i2.bl; cases f; cases g; exact SeqAt.RcAt.bool_bool _ _ _ _ _ _ ⟨.bl _,H,I,rfl,q.here j (mkBl _)⟩
 ·cases c; cases i1.non; cases i2.non; cases f; cases g; exact SeqAt.RcAt.none_none _ _ _ _ ⟨.bl _,H,I,rfl,q.here j (mkBl _)⟩
 ·split at c
  ·rename_i hf;cases c;rw[Qq2]at hf;have K:=q.here j (mkBl _)
   cases hb:M.flat 9 b with
   |true=>exact(ql1 I 9 X.A a b x y v u (by lia) hf.1 hb i1 i2 f g).2 _ _ _ _ ⟨.bl _,H,I,rfl,K⟩
   |false=>
    rw[hb]at hf
    cases b with
    |non=>
     cases i2.non; cases g
     cases a with
     |int i=>cases i1.int; obtain⟨t,rfl⟩:=f; exact SeqAt.RcAt.int_none i t _ _ _ _ ⟨.bl _,H,I,rfl,K⟩
     |str i=>cases i1.str; obtain⟨t,rfl⟩:=f; exact SeqAt.RcAt.str_none i t _ _ _ _ ⟨.bl _,H,I,rfl,K⟩
     |tup ds=>
      obtain⟨a,xs,l,rfl,r,o,r1,p1⟩:=qz7 I i1;cases f;exact SeqAt.RcAt.tuple_none p1 (by lia) _ _ _ _ ⟨.bl _,H,I,rfl,K⟩
     |_=>cases hf.1
    |_=>cases hf.2
  ·exact nn c
def op_neD:OpR X (Qg .NotEq) (rD X.K λst a b=>(M.neD st a b).map λk=>(.bl k,st)):=by
 intro pins s σ H x y v u Q I i g h;refine h.el λm st a b d st' j i1 i2 e q=>qzg e λk c l=>?_;cases l;unfold M.neD at c
 split at c
 ·cases c;cases i1.int; cases i2.int;obtain⟨t,rfl⟩:=i;obtain⟨f,rfl⟩:=g;exact SeqAt.RcNeAt.int_int _ t _ f _ _ _ _ ⟨.bl _,H,I,rfl,q.here j (mkBl _)⟩
 ·cases c;cases i1.str; cases i2.str;obtain⟨t,rfl⟩:=i;obtain⟨f,rfl⟩:=g;exact SeqAt.RcNeAt.str_str _ t _ f _ _ _ _ ⟨.bl _,H,I,rfl,q.here j (mkBl _)⟩
 ·exact nn c
def qal{K:Qqq}(h:IsD K m H d x):decide (x=.non)=M.isNon d:=by
 cases d with
 |non=>rw[h.non]; rfl
 |bl b=>rw[h.bl]; rfl
 |int b=>rw[h.int]; rfl
 |str b=>rw[h.str]; rfl
 |tup ds=>obtain⟨a,xs,rfl,_⟩:=h.tup; rfl
 |loc l=>obtain⟨a,_,rfl⟩:=h.loc; rfl
 |lst l=>obtain⟨a,xs,rfl,_⟩:=h.lst; rfl
def qxl(j:X.A.units+64<cLine)(n):OpR X (Qg n) (rD X.K λst a b=>(M.cmpD st n a b).map λk=>(.bl k,st)):=by
 intro pins s σ H x y v u Q I g f h;obtain⟨m,st,a,b,d,st',i,i1,i2,e,q⟩:=h;refine qzg e λk c l=>?_;cases l;unfold M.cmpD at c
 split at c
 ·cases c;exact op_lt pins s σ H x y v u Q I g f ⟨_,_,i1.int,i2.int,q.here i (mkBl _)⟩
 ·cases c;exact op_le pins s σ H x y v u Q I g f ⟨_,_,i1.int,i2.int,q.here i (mkBl _)⟩
 ·cases c;exact op_gt pins s σ H x y v u Q I g f ⟨_,_,i1.int,i2.int,q.here i (mkBl _)⟩
 ·cases c;exact op_ge pins s σ H x y v u Q I g f ⟨_,_,i1.int,i2.int,q.here i (mkBl _)⟩
 ·exact op_eqD j pins s σ H x y v u Q I g f ⟨m,st,a,b,_,_,i,i1,i2,by dsimp only; rw[c]; rfl,q⟩
 ·exact op_neD pins s σ H x y v u Q I g f ⟨m,st,a,b,_,_,i,i1,i2,by dsimp only; rw[c]; rfl,q⟩
 ·cases c;refine op_isN pins s σ H x y v u Q I g f ⟨i2.non,?_⟩;rw[qal i1];exact q.here i (mkBl _)
 ·cases c;refine qnt pins s σ H x y v u Q I g f ⟨i2.non,?_⟩;rw[qal i1];exact q.here i (mkBl _)
 ·exact qlj Y6 j pins s σ H x y v u Q I g f ⟨m,st,a,b,_,_,i,i1,i2,by dsimp only; rw[c]; rfl,q⟩
 ·obtain⟨k,l,rfl⟩:=mapD c;exact qlj O j pins s σ H x y v u Q I g f ⟨m,st,a,b,_,_,i,i1,i2,by dsimp only; rw[l]; rfl,q⟩
 ·exact nn c
def qmj{K:Qqq}{st:Y2}(j:Rel K m st H)(h:IsD K m H d x)(e:M.truth st d=Y k):TruV K x H k:=by
 cases d with
 |non=>rw[h.non]; simp only[M.truth]at e; exact(Option.some.inj e).symm
 |bl b=>rw[h.bl]; simp only[M.truth]at e; exact(Option.some.inj e).symm
 |int b=>rw[h.int]; simp only[M.truth]at e; exact(Option.some.inj e).symm
 |str b=>exact nn e
 |tup ds=>
  obtain⟨a,xs,rfl,f,c⟩:=h.tup;simp only[M.truth]at e;refine .inr (.inl ⟨xs,f,?_⟩);have:=c.length;cases e;cases ds<;>cases xs<;>simp_all
 |loc l=>
  simp only[M.truth]at e;refine qzg e λds i g=>?_;obtain⟨a,xs,_,rfl,f,c⟩:=j.seq i h;refine .inl ⟨xs,f,?_⟩;have:=c.length;subst g;cases ds<;>cases xs<;>simp_all
 |lst l=>
  simp only[M.truth]at e;refine qzg e λds i g=>?_;obtain⟨a,xs,_,rfl,f,c⟩:=j.seq i h;refine .inl ⟨xs,f,?_⟩;have:=c.length;subst g;cases ds<;>cases xs<;>simp_all
def ql4{K:Qqq}(a:IsDs K m H ds xs)(e:M.atI ds i=Y d):∃x,L2.atI xs i=Y x/\IsD K m H d x:=by
 unfold M.atI at e;refine qzx e λj g f=>?_;obtain⟨x,c,q⟩:=a.get f;refine⟨x,?_,q⟩;unfold L2.atI;have b:L2.ixN xs.length i=Y j:=by rw[<- a.length]; exact g
 rw[b];exact c
def ix_D:IxR X (rD X.K λst a b=>(M.idxD st a b).map λd=>(d,st)):=by
 intro value c pins s σ H x y v u Q I t r h hs;obtain⟨m,st,a,b,d,st',o,i1,i2,e,q⟩:=h;refine qzg e λk f n=>?_;cases n;unfold M.idxD at f
 split at f
 ·obtain⟨p,xs,rfl,j,g⟩:=i1.tup;obtain⟨w,l,i⟩:=ql4 g f;exact ix_tup value c pins s σ H _ _ v u Q I t r ⟨p,xs,_,w,rfl,i2.int,j,l,q.here o i⟩ hs
 ·refine qzx f λds n f=>?_;obtain⟨p,xs,_,rfl,j,g⟩:=o.seq n i1;obtain⟨w,l,i⟩:=ql4 g f;exact qob value c pins s σ H _ _ v u Q I t r ⟨p,xs,_,w,rfl,i2.int,j,l,q.here o i⟩ hs
 ·exact nn f
def qbp:MtM X "list.append" (λx xs H Q=>∃m st a ds d st',Rel X.K m st H/\IsD X.K m H a x/\IsDs X.K m H ds xs/\M.mAppend st a ds=Y (d,st')/\Post X.K m H d st' Q):=by
 intro pins s σ H x xs v g Q I i j h;obtain⟨m,st,a,ds,d,st',f,i1,i2,e,q⟩:=h;unfold M.mAppend at e
 split at e
 ·refine qzx e λo n e=>?_
  split at e
  ·rename_i hl;have q:=q.of e;obtain⟨p,ys,l,rfl,b,c,hs⟩:=f.wlist n i1;obtain⟨y,rfl,k⟩:=i2.one;have t:=c.length;have r:=qqy;refine qd9 pins s σ H _ _ v g Q I i j ⟨p,ys,y,rfl,rfl,b,by lia,?_⟩;exact q _ m _ ?M (Tr.put b) (f.put hs l b (c.append (qzo k qqk))) qvj
  ·exact nn e
 ·exact nn e
def rSlD(K:Qqq):V->Y3 J->Y3 J->Hp->VK->Prop:=λx lo hi H Q=>∃m st a d st',Rel K m st H/\IsD K m H a x/\M.sliD st a lo hi=Y (d,st')/\Post K m H d st' Q
theorem _root_.MS.IsDs.take{K:Qqq}:∀{ds:L D}{xs:L V}(n:Y0),IsDs K m H ds xs->IsDs K m H (ds.take n) (xs.take n)
 |_,_,0,_=>by simp only[Qke]; exact qqk
 |[],_,n+1,h=>by rw[h.nil]; simp only[List.take_nil]; exact qqk
 |d::ds,_,n+1,h=>by
  obtain⟨x,r,rfl,q,t⟩:=h.cons;simp only[List.take_succ_cons];exact qzo q (IsDs.take n t)
theorem _root_.MS.IsDs.drop{K:Qqq}:∀{ds:L D}{xs:L V}(n:Y0),IsDs K m H ds xs->IsDs K m H (ds.drop n) (xs.drop n)
 |_,_,0,h=>by simp only[Qj1]; exact h
 |[],_,n+1,h=>by rw[h.nil]; simp only[List.drop_nil]; exact qqk
 |d::ds,_,n+1,h=>by
  obtain⟨x,r,rfl,q,t⟩:=h.cons;simp only[List.drop_succ_cons];exact IsDs.drop n t
def qa8(n d)(o):M.cutIx n d o=HT.sIx n d o:=by
 cases o<;>rfl
def ql2{K:Qqq}(h:IsDs K m H ds xs)(a b):IsDs K m H (M.cut ds a b) (cutV xs a b):=by
 unfold M.cut cutV;rw[qa8,qa8,h.length];exact(h.drop _).take _
def sl_D:SlR X (rSlD X.K):=by
 intro pins s σ H x v vl w lo hi sl Q I i hs pl pu h;obtain⟨m,st,a,d,st',c,i1,e,q⟩:=h;unfold M.sliD at e
 split at e
 ·have q:=q.of e;obtain⟨p,xs,rfl,t,j⟩:=i1.tup;have n:=ql2 j lo hi
  by_cases f:HT.sIx xs.length 0 lo=0/\HT.sIx xs.length xs.length hi=xs.length
  ·cases i;obtain⟨k,r,y,E⟩:=I.tuple t;refine⟨"tuple",_,PyProof.Rows.slot_tuple_getitem.lookup,y.typeIs,?_⟩;have b:k.toArray.size=xs.length:=by rw[Qqc]; exact r.length.symm
   refine qq7 y hs pl pu (by rw[b]; exact f) ?_;refine⟨.ref p,H,I,rfl,q.here c (qq3 t ?_)⟩;have u:cutV xs lo hi=xs:=by
    unfold cutV;rw[f.1,f.2];simp
   rw[u]at n;exact n
  ·refine sl_tup pins s σ H _ v vl w lo hi sl Q I i hs pl pu ⟨p,xs,rfl,t,f,λD A=>?_⟩;have g:=qzb (o:=.tup (cutV xs lo hi)) A;exact q _ m _ ?M (Tr.of_same g) (c.same g) (qq3 (SqT.of qzw) (qzd ?M (Tr.of_same g) _ _ n))
 ·refine qzg e λds u C=>?_;cases C;obtain⟨p,xs,_,rfl,z,j⟩:=c.seq u i1;exact qmo pins s σ H _ v vl w lo hi sl Q I i hs pl pu ⟨p,xs,rfl,z,λl hl=>q _ (m++[l]) _ (Sub.app m [l]) (Tr.of_same (qzb hl)) (c.new hl (ql2 j lo hi)) c.newLoc⟩
def qfu:qqb X (.builtin "len") (rC X.K M.bLen):=by
 intro pins s σ H xs f Q I r h;refine h.el λm st ds d st' c g e q=>?_;unfold M.bLen at e
 split at e
 ·have q:=q.of e;obtain⟨x,rfl,i⟩:=g.one;obtain⟨p,ys,rfl,b,a⟩:=i.tup;refine qx6 pins s σ H _ f Q I r ⟨p,ys,rfl,.inr b,?_⟩;rw[<- a.length];exact q.here c (mkInt _)
 ·refine qzg e λl k j=>?_;cases j;obtain⟨x,rfl,i⟩:=g.one;obtain⟨p,ys,_,rfl,b,a⟩:=c.seq k i;refine qx6 pins s σ H _ f Q I r ⟨p,ys,rfl,.inl b,?_⟩;rw[<- a.length];exact q.here c (mkInt _)
 ·exact nn e
def qfo(hc:X.calm=O):qqb X (.builtin "min") (rC X.K M.bMin):=by
 intro pins s σ H xs a Q I r h;refine h.el λm st ds d st' c b e q=>?_;unfold M.bMin at e
 split at e
 ·have q:=q.of e;obtain⟨x,y,rfl,i,j⟩:=b.two;cases i.int; cases j.int;exact qfp hc pins s σ H _ a Q I r ⟨_,_,rfl,q.here c (mkInt _)⟩
 ·exact nn e
def qfr(hc:X.calm=O):qqb X (.builtin "max") (rC X.K M.bMax):=by
 intro pins s σ H xs a Q I r h;refine h.el λm st ds d st' c b e q=>?_;unfold M.bMax at e
 split at e
 ·have q:=q.of e;obtain⟨x,y,rfl,i,j⟩:=b.two;cases i.int; cases j.int;exact qfs hc pins s σ H _ a Q I r ⟨_,_,rfl,q.here c (mkInt _)⟩
 ·exact nn e
def qym:qqb X (.type "tuple") (rC X.K M.bTuple):=by
 intro pins s σ H xs g Q I r h;refine h.el λm st ds d st' f j e q=>?_;unfold M.bTuple at e
 split at e
 ·have q:=q.of e;obtain⟨x,rfl,i⟩:=j.one;obtain⟨p,ys,rfl,a,c⟩:=i.tup;exact qxh pins s σ H _ g Q I r ⟨p,ys,rfl,.inr ⟨a,q.here f (qq3 a c)⟩⟩
 ·refine qzg e λt n k=>?_;cases k;obtain⟨x,rfl,i⟩:=j.one;obtain⟨p,ys,_,rfl,a,c⟩:=f.seq n i;refine qxh pins s σ H _ g Q I r ⟨p,ys,rfl,.inl ⟨a,λl hl=>?_⟩⟩;have b:=qzb (o:=.tup ys) hl;exact q _ m _ ?M (Tr.of_same b) (f.same b) (qq3 (SqT.of qzw) (qzd ?M (Tr.of_same b) _ _ c))
 ·exact nn e
theorem qj0:∀{xs}{vs}{a},KV xs vs->a.length=vs.length->(∀(j:Y0) (v:Y8),a[j]?=Y v->∃k x,vs[j]?=Y (k,x)/\(mixKind P w).is k v=O)->Vals (xs.map λp=>kV p.1) a
 |[],_,a,.nil,hl,_=>by
  rw[Qzs.mp hl];exact .nil
 |(k,x)::xs,(k',u)::vs,[],.cons _ _,hl,_=>by cases hl
 |(k,x)::xs,(k',u)::vs,v::a,.cons h r,hl,hv=>by
  obtain⟨k2,m,e,hk⟩:=hv 0 v rfl;cases e;have b:=h.1;subst b;refine .cons ?_ (qj0 (P:=P) (w:=w) r (by simpa using hl) λj d e=>?_)
  ·rcases qzi hk with⟨i,t,rfl,rfl⟩|⟨z,t,rfl,rfl⟩
   ·exact⟨t,rfl⟩
   ·exact⟨t,rfl⟩
  ·obtain⟨f,c,l,g⟩:=hv (j+1) d (by simpa using e);exact⟨f,c,by simpa using l,g⟩
theorem IsKV.keys{K:Qqq}:∀{kvs}{xs},IsKV K m H kvs xs->IsDs K m H (M.keysOf kvs) (xs.map λp=>kV p.1)
 |[],_,h=>by rw[show _=[] from h]; exact qqk
 |p::r,_,⟨k,v,a,e,hk,hv,hr⟩=>by
  subst e;refine qzo ?_ hr.keys;obtain⟨d,e⟩:=p
  cases d with
  |int i=>cases hk; exact mkInt i
  |str z=>cases hk; exact mkStr z
  |_=>exact nn hk
theorem Rel.dkeys{K:Qqq}{st:Y2}(h:Rel K m st H)(e:M.dkeys st d=Y ds)(hv:IsD K m H d v):∃a xs,v=.ref a/\Rd H a (.dK xs)/\IsDs K m H ds (xs.map λp=>kV p.1):=by
 cases d with
 |loc l=>
  obtain⟨kvs,b,rfl⟩:=mapD e;obtain⟨a,xs,_,rfl,hr,hk⟩:=h.dict b hv;exact⟨a,xs,rfl,hr,hk.keys⟩
 |_=>exact nn e
def qfb(I:Inv X b d H s)(e:Rd H a (.dK xs)):∃vs c,KV xs vs/\s.heap.DictAt (mixKind X.prog X.w) a vs c/\(a==Qn)=Y6/\vs.length<=sizeLine:=by
 obtain⟨f,lo,vs,kv,o,es,c,r⟩:=qwg I.hok e;exact⟨vs,c,kv,⟨o,es,r⟩,lo,by rw[<- kv.length]; exact f⟩
def qkd(g:X.A.handled=B):qqb X (.type "list") (λxs H Q=>∃p ys,xs=[.ref p]/\Rd H p (.dK ys)/\∀l,H l=B->Q (.ref l) (upd H l (.lst (ys.map λq=>kV q.1)))):=by
 intro pins s σ H xs k Q I r h;obtain⟨p,ys,rfl,f,q⟩:=h;obtain⟨u,rfl,d⟩:=vals1 r;cases d;obtain⟨vs,m,kv,i,lo,hn⟩:=qfb I f;refine PySem.W.kdl_call (PySem.W.kdl_dict lo) g i hn λh' tk a c hk hS b=>?_;have r2:=qj0 kv (by rw[Qz3]; exact b.1) λj v e=>b.2 j v (by rw[<- Qq1]; exact e);refine⟨.ref s.heap.objs.size,_,I.laid hk (Qqv _) (show ObjOk X.prog X.w _ h' _ (.lst (ys.map λq=>kV q.1)) from⟨?_,a.toList,c,r2,hS⟩),rfl,q _ (I.hok.fresh (Qqv _))⟩;rw[Qqz,kv.length]; exact hn
def qyl(K:PySem.W.KdlSrc X.prog X.w T r d n P t)(C:A.handled=B)(hok:t s.heap)(z:n<=sizeLine)(h:∀(a:Heap) (k:Y0) (vs:Array Y8),(∀b o,s.heap.get? b=Y o->a.get? b=Y o)->s.heap.objs.size<a.objs.size->ItemsOf P vs n->R vs.toList { s with heap:=a,toks:=k }):wpAny ?d A (collect (.ref r)) R E s:=by
 have lt:=K.there _ hok
 let g:=s.heap.objs.size
 let p:=s.heap.push { cls:=.type "list",data:=.seq ([]:L Y8).toArray }
 have D:p.get? g=Y { cls:=.type "list",data:=.seq #[] }:=Qqf _ rfl;have ext:=PySem.W.kdl_extend (s:={ s with heap:=p }) (R:=λq m=>∃(a:Heap) (k:Y0) (vs:Array Y8) (c:Y0),q=.ok (.ret (.ref g))/\m={ s with heap:=a,toks:=k }/\(∀b o,s.heap.get? b=Y o->a.get? b=Y o)/\a.get? g=Y { cls:=.type "list",dict:=B,data:=.seq vs c,slots:=#[] }/\ItemsOf P vs n)
  K C (K.keep _ _ hok λb _ o e=>Qqx _ e) g (Qxi lt.1) (Qxi lt.2) (.ref g) 0 D
  (λa k vs c l i j=>⟨a,k,vs,c,rfl,rfl,λb o e=>l b o (Qq6 (Qqe e)) (Qqx _ e),i,j⟩) z
 unfold collect;apply Qq;apply wpAny_runValue;apply Za entry_proto_collect';rw[Around.under_plainId PySem.F.plain_proto_collect _];apply Qq;refine Qi (Qx ⟨plainId_quiet PySem.F.plain_list_iadd _,?_⟩);apply Za entry_list_iadd';rw[Around.under_plainId PySem.F.plain_list_iadd _];refine Qh (ext) (λF m x=>?_) λe m x=>?_
 ·cases F with
  |done f=>
   rcases x with⟨a,k,vs,c,e,rfl,l,i,j⟩
   cases e;apply Qq;apply wpAny_load i;exact Qx (h a k vs l (Qqe i) j)
  |again c=>
   rcases x with⟨v,u⟩
   refine⟨v,Q3 u λw G y=>?_⟩
   rcases y with⟨a,k,vs,c,rfl,rfl,l,i,j⟩
   apply Qq;apply wpAny_load i;exact Qx (h a k vs l (Qqe i) j)
 ·rcases x with⟨_,_,_,_,e,_⟩
  cases e
def qbc(K:PySem.W.KdlSrc X.prog X.w T r d n P t)(u:A.handled=B)(hok:t s.heap)(D:n<64)(x:∀vs:L Y8,vs.length=n->(∀(j:Y0) (v:Y8),vs[j]?=Y v->P j v)->Zr vs ns)(h:∀(a:Y7) (h':Heap) (m e:Y0) (f:Array Y8) (c:L J),(∀b o,s.heap.get? b=Y o->h'.get? b=Y o)->s.heap.objs.size<=a->h'.get? a=Y (seqObj "list" f e)->Zr f.toList c->c.Perm ns->c.Pairwise (· <= ·)->Q (.ref a) { s with heap:=h',toks:=m }):
  wpAny ?d A (call (.builtin "sorted") [.ref r]) Q E s:=by
 have i:n<=sizeLine:=by rw[Q0]; lia
 apply PySem.Calls.call_function_entry kind_sorted plain_sorted entry_sorted (args_sorted1 _);unfold Qs.«sorted»;apply Qq;apply Qx;apply Qq;apply qyl (A:=A.in1) K u hok i;intro h1 m g hk k p;have hl:g.toList.length=n:=by rw[Qz3]; exact p.1
 have hi:=x g.toList hl λj v e=>p.2 j v (by rw[<- Qq1]; exact e);apply Qq;refine wpAny_newList ?_ (by rw[hl]; exact i);have l:(h1.push (seqObj "list" g.toList.toArray 0)).get? h1.objs.size=Y (seqObj "list" g.toList.toArray 0):=Qqf _ rfl;apply Qq;apply Q4;refine Qd slot_list_sort ⟨_,l,rfl⟩ entry_list_sort (list_sort_tree l hi (by lia) λf c C z y=>⟨_,rfl,?_⟩) (args_list_sort _);obtain⟨e,w⟩:=sortedHeap_at l;refine Qx ⟨_,rfl,h _ _ _ e f c (λb o q=>?_) ?_ w C z y⟩
 ·have hb:=Qqe (hk b o q);exact(sortedHeap_old (Qq6 hb) (by rw[size_push']; exact Qx5 hb)).trans (Qqx _ (hk b o q))
 ·exact Qjo k
def qb8(k:X.A.handled=B):qqb X (.type "list") (rC X.K M.bList):=by
 intro pins s σ H xs g Q I r h;refine h.el λm st ds d st' a j e q=>?_;unfold M.bList at e
 split at e
 ·have q:=q.of e;obtain⟨x,rfl,i⟩:=j.one;obtain⟨p,ys,rfl,c,b⟩:=i.tup;exact qx5 pins s σ H _ g Q I r ⟨p,ys,rfl,.inr c,λl hl=>q _ (m++[l]) _ (Sub.app m [l]) (Tr.of_same (qzb hl)) (a.new hl b) a.newLoc⟩
 ·refine qzg e λo f n=>?_;cases n;obtain⟨x,rfl,i⟩:=j.one;rcases orO f with f|f
  ·obtain⟨p,ys,_,rfl,c,b⟩:=a.seq f i;exact qx5 pins s σ H _ g Q I r ⟨p,ys,rfl,.inl c,λl hl=>q _ (m++[l]) _ (Sub.app m [l]) (Tr.of_same (qzb hl)) (a.new hl b) a.newLoc⟩
  ·obtain⟨p,ys,rfl,c,b⟩:=a.dkeys f i;exact qkd k pins s σ H _ g Q I r ⟨p,ys,rfl,c,λl hl=>q _ (m++[l]) _ (Sub.app m [l]) (Tr.of_same (qzb hl)) (a.new hl b) a.newLoc⟩
 ·exact nn e
theorem qve{K:Qqq}:∀{ds}{xs}{a}{bs},M.asBools ds=Y bs->IsDs K m H ds xs->Vals xs a->LSm.BoolsAre a bs
 |[],_,_,_,e,c,r=>by
  rw[c.nil]at r;cases r;cases e;exact .nil
 |d::ds,_,_,_,e,c,r=>by
  obtain⟨x,i,rfl,q,t⟩:=c.cons
  cases d with
  |bl b=>
   simp only[M.asBools]at e;refine qzg e λh g f=>?_;subst f;cases q.bl
   cases r with
   |cons r1 r2=>
    cases r1;exact .cons b (qve g t r2)
  |_=>simp[M.asBools]at e
theorem ints_of{K:Qqq}:∀{ds}{xs}{ns},M.asInts ds=Y ns->IsDs K m H ds xs->xs=ns.map V.int/\ds=ns.map D.int
 |[],_,_,e,a=>by
  cases e;exact⟨a.nil,rfl⟩
 |d::ds,_,_,e,a=>by
  obtain⟨x,h,rfl,q,t⟩:=a.cons
  cases d with
  |int b=>
   simp only[M.asInts]at e;refine qzg e λg f c=>?_;subst c;cases q.int;obtain⟨h1,h2⟩:=ints_of f t;rw[h1,h2];exact⟨rfl,rfl⟩
  |_=>simp[M.asInts]at e
def qf3(hc:X.calm=O):qqb X (.builtin "all") (rC X.K M.bAll):=by
 intro pins s σ H xs D Q I r h;refine h.el λm st ds d st' g n e q=>?_;unfold M.bAll at e
 split at e
 ·refine qzx e λC z e=>qzg e λbs y w=>?_;cases w;obtain⟨x,rfl,i⟩:=n.one;obtain⟨p,ys,_,rfl,o,l⟩:=g.seq z i;obtain⟨u,rfl,k⟩:=vals1 r;cases k;obtain⟨a,j,pl,_⟩:=I.list o;have hb:=qve y l j;have hl:=pl.isList;have c:p<s.heap.objs.size:=by obtain⟨_,e,_⟩:=id hl; exact Qqe e
  refine call_all_walk (Ze hl ?_)
  refine⟨s.heap.objs.size,[s.heap.objs.size,p],[s.heap.objs.size],a.toArray.size,_,_,λi=>(bs[i]?).getD O,rfl,Walks.list (A:=X.A.in1) (I.ok.hd hc) _ p (Qq6 c) a.toArray,
   ⟨⟨_,Qqf _ rfl,rfl,rfl⟩,hl.push _⟩,λi v s' E F t f=>?_,λh' tk hk=>?_⟩
  ·obtain⟨b,e,rfl⟩:=hb.get i v (by simpa using t);simp only[e]at f;exact Qe f
  ·have e:((List.range a.toArray.size).all λi=>(bs[i]?).getD O)=bs.all id:=by
    rw[Qqc,hb.length]; exact LSm.range_all bs
   rw[e];exact⟨.bl _,H,I.kept (LSm.kept_iter hk),rfl,q.here g (mkBl _)⟩
 ·exact nn e
def range_any(bs:L Yb):((List.range bs.length).any λi=>(bs[i]?).getD Y6)=bs.any id:=by
 rw[Qka,Qje,Qje];constructor
 ·rintro⟨i,hi,h⟩;have hi:=Qz8.mp hi;rw[Qqd hi]at h;exact⟨bs[i],Qxk hi,h⟩
 ·rintro⟨b,hb,h⟩;obtain⟨i,hi,rfl⟩:=Qzr hb;exact⟨i,Qz8.mpr hi,by rw[Qqd hi]; exact h⟩
def qf2(hc:X.calm=O):qqb X (.builtin "any") (rC X.K M.bAny):=by
 intro pins s σ H xs D Q I r h;refine h.el λm st ds d st' g n e q=>?_;unfold M.bAny at e
 split at e
 ·refine qzx e λC z e=>qzg e λbs y w=>?_;cases w;obtain⟨x,rfl,i⟩:=n.one;obtain⟨p,ys,_,rfl,o,l⟩:=g.seq z i;obtain⟨u,rfl,k⟩:=vals1 r;cases k;obtain⟨a,j,pl,_⟩:=I.list o;have hb:=qve y l j;have hl:=pl.isList;have c:p<s.heap.objs.size:=by obtain⟨_,e,_⟩:=id hl; exact Qqe e
  refine call_any_walk (Ze hl ?_)
  refine⟨s.heap.objs.size,[s.heap.objs.size,p],[s.heap.objs.size],a.toArray.size,_,_,λi=>(bs[i]?).getD Y6,rfl,Walks.list (A:=X.A.in1) (I.ok.hd hc) _ p (Qq6 c) a.toArray,
   ⟨⟨_,Qqf _ rfl,rfl,rfl⟩,hl.push _⟩,λi v s' E F t f=>?_,λh' tk hk=>?_⟩
  ·obtain⟨b,e,rfl⟩:=hb.get i v (by simpa using t);simp only[e]at f;exact Qe f
  ·have e:((List.range a.toArray.size).any λi=>(bs[i]?).getD Y6)=bs.any id:=by
    rw[Qqc,hb.length]; exact range_any bs
   rw[e];exact⟨.bl _,H,I.kept (LSm.kept_iter hk),rfl,q.here g (mkBl _)⟩
 ·exact nn e
theorem qq6(x):∀l:L J,(M.insInt x l).Perm (x::l)
 |[]=>.refl _
 |y::r=>by
  unfold M.insInt
  split
  ·exact .refl _
  ·exact((qq6 x r).cons y).trans (.swap x y r)
theorem sortInt_perm:∀l:L J,(M.sortInt l).Perm l
 |[]=>.refl _
 |x::r=>by
  unfold M.sortInt;exact(qq6 x _).trans ((sortInt_perm r).cons x)
theorem qxa(x):∀l:L J,l.Pairwise (· <= ·)->(M.insInt x l).Pairwise (· <= ·)
 |[],_=>by unfold M.insInt; simp
 |y::r,h=>by
  unfold M.insInt
  split
  ·rename_i b;refine List.Pairwise.cons (λz a=>?_) h;rcases Qqb.mp a with e|e
   ·rw[e]; exact b
   ·exact Int.le_trans b ((Qxa.mp h).1 z e)
  ·rename_i b;have h':=Qxa.mp h;refine List.Pairwise.cons (λz a=>?_) (qxa x r h'.2);rcases Qqb.mp ((qq6 x r).mem_iff.mp a) with e|e
   ·rw[e]; lia
   ·exact h'.1 z e
theorem sortInt_sorted:∀l:L J,(M.sortInt l).Pairwise (· <= ·)
 |[]=>by unfold M.sortInt; simp
 |x::r=>by
  unfold M.sortInt;exact qxa x _ (sortInt_sorted r)
theorem qxv{K:Qqq}:∀(ns:L J),IsDs K m H (ns.map D.int) (ns.map V.int)
 |[]=>qqk
 |n::r=>qzo (mkInt n) (qxv r)
def qwo(hh:X.A.handled=B):qqb X (.builtin "sorted") (rC X.K M.bSorted):=by
 intro pins s σ H xs us Q I r h;refine h.el λm st ds d st' g W e q=>?_;unfold M.bSorted at e
 split at e
 ·refine qzx e λG l e=>qzg e λns n e3=>?_;cases e3
  split at n
  ·exact nn n
  ·rename_i a0;obtain⟨x,rfl,i⟩:=W.one;rcases orO l with l|l
   case inr=>
    obtain⟨p,ys,rfl,C,j⟩:=g.dkeys l i;obtain⟨u,rfl,t⟩:=vals1 r;cases t;obtain⟨vs,T,kv,da,lo,hn⟩:=qfb I C;obtain⟨F,U⟩:=ints_of n j;have z:=j.length;rw[Qqz]at z;have l5:=kv.length;refine qbc (ns:=ns) (PySem.W.kdl_dict lo) hh da (by lia) (λLq hl hv=>?_) λa h1 tk c f v hk S D P N K=>?_
    ·have r2:=qj0 kv hl hv;rw[F]at r2;exact intsAre_of r2
    ·have E:=PySem.W.ksm_same (N.trans (sortInt_perm ns).symm) K (sortInt_sorted ns);subst E;have y:=(sortInt_perm ns).length_eq;have w:=qqy;have l6:ns.length=G.length:=by
      have:=congrArg List.length U;rw[Qqz]at this;exact this.symm
     have k:=I.hok.fresh S;refine⟨.ref a,upd H a (.lst ((M.sortInt ns).map V.int)),I.laid hk S ⟨?_,f.toList,c,qxz P,?_⟩,rfl,?_⟩
     ·rw[Qqz,y,w];unfold M.lim
      lia
     ·rw[D]
     ·exact q _ (m++[_]) _ (Sub.app m _) (Tr.of_same (qzb k)) (g.new k (qxv _)) g.newLoc
   obtain⟨p,ys,_,rfl,C,j⟩:=g.seq l i;obtain⟨u,rfl,t⟩:=vals1 r;cases t;obtain⟨A,R,pl,_⟩:=I.list C;obtain⟨F,U⟩:=ints_of n j;have z:=j.length;have l2:=R.length;subst F;have hI:=intsAre_of R;refine sorted_ints pl.isList hI (by lia) λf v P N K=>?_;have E:=PySem.W.ksm_same (N.trans (sortInt_perm ns).symm) K (sortInt_sorted ns);subst E;obtain⟨T,D⟩:=sortedAll_at s.heap A f;have k:=I.hok.fresh (Qxh _);have y:=(sortInt_perm ns).length_eq;have w:=qqy;rw[Qqz]at z;refine⟨.ref ?K,upd H ?K (.lst ((M.sortInt ns).map V.int)),I.laid (λb o e=>sortedAll_old e) (Qxh _) ?_,rfl,?_⟩
   ·refine⟨?_,f.toList,T,qxz P,?_⟩
    ·rw[Qqz,y,w];unfold M.lim
     lia
    ·rw[D]
   ·exact q _ (m++[_]) _ (Sub.app m _) (Tr.of_same (qzb k)) (g.new k (qxv _)) g.newLoc
 ·exact nn e
def qeb(K)(n t)(a:t≠.non):PySem.W.kitOne K (.type n.name) (.type t.name)=Y (M.tyIs t n):=by
 cases n<;>cases t<;>first
  |exact absurd rfl a
  |rfl
  |decide +kernel
theorem qec(K)(n):∀ts:L M.Ty,(∀t∈ts,t≠.non)->PySem.W.kitAny K (.type n.name) (ts.map λt=>Value.type t.name)=Y (ts.any λt=>M.tyIs t n)
 |[],_=>rfl
 |t::ts,h=>by
  rw[Qqg,Qxf];unfold PySem.W.kitAny;rw[qeb K n t (h t Qzk)]
  cases M.tyIs t n with
  |true=>rfl
  |false=>exact qec K n ts λa b=>h a (Qq3 _ b)
def qlc{st:Y2}(I:Inv X c v H s)(p:Rel X.K m st H)(h:IsD X.K m H d x)(r:RelV x u)(e:M.tyName st d=Y n):
  ∃q:Heap->Prop,PySem.W.KitX X.K u (.type n.name) q/\q s.heap/\u≠.builtin "__main__.__loader__#opaque":=by
 cases d with
 |non=>cases h.non; cases r; cases e; exact⟨_,PySem.W.kitx_none,True.intro,λz=>nomatch z⟩
 |bl b=>cases h.bl; cases r; cases e; exact⟨_,PySem.W.kitx_bool,True.intro,λz=>nomatch z⟩
 |int b=>cases h.int; obtain⟨t,rfl⟩:=r; cases e; exact⟨_,PySem.W.kitx_int,True.intro,λz=>nomatch z⟩
 |str b=>cases h.str; obtain⟨t,rfl⟩:=r; cases e; exact⟨_,PySem.W.kitx_str,True.intro,λz=>nomatch z⟩
 |tup ds=>
  obtain⟨a,xs,f,rfl,g,k,r1,p1⟩:=qz7 I h;cases r;cases e;obtain⟨o,h1,h2,_⟩:=p1;exact⟨_,PySem.W.kitx_tuple,⟨o,h1,h2⟩,λz=>nomatch z⟩
 |loc l=>
  simp only[M.tyName]at e;refine qzg e λds j i=>?_;subst i;obtain⟨a,xs,_,rfl,g,k⟩:=p.seq j h;cases r;obtain⟨f,w,pl,_⟩:=I.list g;obtain⟨o,h1,h2,_⟩:=pl.isList;exact⟨_,PySem.W.kitx_list,⟨o,h1,h2⟩,λz=>nomatch z⟩
 |lst l=>
  simp only[M.tyName]at e;refine qzg e λds j i=>?_;subst i;obtain⟨a,xs,_,rfl,g,k⟩:=p.seq j h;cases r;obtain⟨f,w,pl,_⟩:=I.list g;obtain⟨o,h1,h2,_⟩:=pl.isList;exact⟨_,PySem.W.kitx_list,⟨o,h1,h2⟩,λz=>nomatch z⟩
def rIsi1(K:Qqq)(t:M.Ty):L V->Hp->VK->Prop:=λxs H Q=>∃m st d n x,xs=[x,.ty t.name]/\Rel K m st H/\IsD K m H d x/\M.tyName st d=Y n/\Q (.bl (M.tyIs t n)) H
def qf1(t)(f:t≠.non):qqb X (.builtin "isinstance") (rIsi1 X.K t):=by
 intro pins s σ H xs k Q I r h;obtain⟨m,st,d,n,x,rfl,j,i,e,q⟩:=h;obtain⟨u,w,rfl,b,a⟩:=vals2 r;cases a;obtain⟨l,g,p,c⟩:=qlc I j i b e;exact PySem.W.kia_one g I.kIn p (qeb X.K n t f) c λtk=>⟨.bl _,H,I.tok tk,rfl,q⟩
def rIsiN(K:Qqq)(ts:L M.Ty):L V->Hp->VK->Prop:=λxs H Q=>∃m st d n x p,xs=[x,.ref p]/\H p=Y (.tup (ts.map λt=>V.ty t.name))/\Rel K m st H/\IsD K m H d x/\M.tyName st d=Y n/\Q (.bl (ts.any λt=>M.tyIs t n)) H
theorem qyo:∀{ts:L M.Ty}{us:L Y8},Vals (ts.map λt=>V.ty t.name) us->us=ts.map λt=>Value.type t.name
 |[],_,.nil=>rfl
 |t::ts,_,.cons r q=>by
  cases r;rw[qyo q]
  rfl
def qf0(ts)(o:∀t∈ts,t≠.non):qqb X (.builtin "isinstance") (rIsiN X.K ts):=by
 intro pins s σ H xs C Q I r h;obtain⟨m,st,d,n,x,p,rfl,v,A,i,e,q⟩:=h;obtain⟨u,w,rfl,g,a⟩:=vals2 r;cases a;obtain⟨E,z,j,l⟩:=qlc I A i g e;obtain⟨_,k,f,⟨cls,D,c,sl⟩,h1,h2,nn,b⟩:=I.hok p _ v;have y:=qyo f;subst y;simp only at h2 b;subst h2 b;exact PySem.W.kia_tup z I.kIn j h1 (qec X.K n ts o) l λtk=>⟨.bl _,H,I.tok tk,rfl,q⟩
end
end MS
end
section
namespace MS
open PySem PySem.Spec PyProof.Rows L2
noncomputable def qxg(cells:L (Y5×Y7)):L (Y5×Ql)->L (Y5×Y7)->L (Y5×Y7)
 |[],acc=>acc
 |(n,k)::r,acc=>qxg cells r (if k==.free then(match cells.lookup n with|some a=>(n,a)::acc|none=>acc) else acc)
def qfg:∀(names:L (Y5×Ql)) (b:L (Y5×Y7)),(∀x∈names,x.2=.free->∃c,env.cells.lookup x.1=Y c)->
  (forIn names b λx r=>match x,r with
   |(name,kind),cs=>if (kind==.free)=O then do let a <- cellOf env name; pure (ForInStep.yield ((name,a)::cs)) else pure (ForInStep.yield cs):Sem (L (Y5×Y7)))=pure (qxg env.cells names b):=by
 intro names
 induction names with
 |nil=>intro b _; rfl
 |cons x r e=>
  intro b h;obtain⟨n,k⟩:=x;rw[List.forIn_cons];have hr:=λb=>e b λy f=>h y (Qq3 _ f)
  by_cases hk:k=.free
  ·subst hk;obtain⟨c,hc⟩:=h (n,.free) Qzk rfl;simp only[ cellOf,hc];simp only[pure_bind];refine(hr ((n,c)::b)).trans ?_;have d:=hc;simp[qxg,d]
  ·have hb:(k==NameKind.free)=false:=by simpa using hk
   simp only[hb,pure_bind];refine(hr b).trans ?_;simp[qxg,hb]
def qvb(h:∀x∈a.names,x.2=.free->∃c,env.cells.lookup x.1=Y c):closureFor a env=pure (qxg env.cells a.names []):=by
 unfold closureFor;have:=qfg a.names [] h;simp only[this]
 rfl
theorem qvc(hc:a.lookup x=Y c):∀(names:L (Y5×Ql)) (b:L (Y5×Y7)),((x,NameKind.free)∈names\/b.lookup x=Y c)->(qxg a names b).lookup x=Y c
 |[],b,h=>by
  rcases h with h|h
  ·cases h
  ·exact h
 |(n,k)::r,b,h=>by
  unfold qxg;refine qvc hc r _ ?_
  by_cases hk:k=.free
  ·subst hk;simp only[beq_self_eq_true,if_true]
   by_cases hn:n=x
   ·subst hn;rw[hc];exact .inr (by simp)
   ·rcases h with h|h
    ·rcases Qqb.mp h with e|e
     ·cases e; exact absurd rfl hn
     ·exact .inl e
    ·refine .inr ?_
     split
     ·have:(x==n)=false:=by simpa using Ne.symm hn
      rw[Qzf,this]; exact h
     ·exact h
  ·have hb:(k==NameKind.free)=false:=by simpa using hk
   rw[hb,Z5 Qq8];rcases h with h|h
   ·rcases Qqb.mp h with e|e
    ·cases e; exact absurd rfl hk
    ·exact .inl e
   ·exact .inr h
theorem qz9:∀(names:L (Y5×Ql)) (f:L (Y5×Y7)),(∀x c,f.lookup x=Y c->b.lookup x=Y c)->∀x c,(qxg b names f).lookup x=Y c->b.lookup x=Y c
 |[],f,h,x,c,e=>h x c e
 |(n,k)::r,f,h,x,c,e=>by
  unfold qxg at e;refine qz9 r _ ?_ x c e;intro y d q
  by_cases hk:(k==NameKind.free)=O
  ·rw[Z6 hk]at q
   split at q
   ·rename_i a i
    by_cases g:(y==n)=O
    ·rw[Qzf,g]at q;rw[eq_of_beq g,i]; exact q
    ·have:(y==n)=false:=by simpa using g
     rw[Qzf,this]at q;exact h y d q
   ·exact h y d q
  ·rw[Z5 hk]at q;exact h y d q
theorem qqj(env:Env):∀(names:L (Y5×Ql)) (x:Y5),(names.map λ(n,k)=>if (k==NameKind.free&&env.scope.kind==.function&&env.kindOf n==Y .cell) then(n,NameKind.cell) else(n,k)).lookup x =
  (names.lookup x).map λk=>if (k==NameKind.free&&env.scope.kind==.function&&env.kindOf x==Y .cell) then NameKind.cell else k
 |[],x=>rfl
 |(n,k)::r,x=>by
  have c:=qqj env r x;rw[Qqg]
  by_cases b:(x==n)=O
  ·have e:=eq_of_beq b;subst e;dsimp only
   split
   ·rename_i hc;rw[Qzf,b,Qzf,b];dsimp only[oMs];rw[Z6 hc]
   ·rename_i hc;rw[Qzf,b,Qzf,b];dsimp only[oMs];rw[Z5 hc]
  ·have a:(x==n)=false:=by simpa using b
   dsimp only
   split
   ·rw[Qzf,a,Qzf,a]; exact c
   ·rw[Qzf,a,Qzf,a]; exact c
section
def qwn(E:∀e s',o e s'->notedBy ?r A env (λe s'=>R (.error e) s') e s')(I:Y0->Qz->Prop)(turn:∀n s,I n s->wpAny ?r A (pyNext it) (λr d=>match r with
   |none=>R (.ok .next) d
   |some v=>wpAny ?r A (Zn a it v) (λ_ s₀=>wpAny ?r A (assign a env v) (λ_ i=>
     wpAny ?r A (forIn ifs O λc r=>if r=O then do let ok <- isTrue c env (Qa c env); pure (ForInStep.yield ok) else pure (ForInStep.yield r)) (λok b=>
      if ok=O then wpAny ?r A (Qa elt env) (λx g=>wpAny ?r A (call (.builtin "list.append") [D,x]) (λ_ f=>∃m,m<n/\I m f) o g) o b
      else ∃m,m<n/\I m b) o i) o s₀) o d) o s)(n)(h:I n s):Zc ?r A (.compLoop (.ListComp elt [⟨a,p,ifs,0⟩] l pos) 0 it D env) R s:=by
 refine codeAny_loop rfl I (λn s F=>?_) n h;refine wpAny_noted (Qh ?_ (λ_ _ q=>q) E);rw[compTurn_list];refine Qq (wpAny_standAt (Qq (Qh (turn n s F) (λr d k=>?_) λ_ _ z=>z)))
 cases r with
 |none=>exact Qx k
 |some v=>
  refine Qq (Qh k (λ_ s₀ C=>?_) λ_ _ z=>z);refine Qq (Qh C (λ_ i y=>Qq (Qh y (λok b j=>?_) λ_ _ z=>z)) λ_ _ z=>z)
  cases ok with
  |false=>exact Qx ⟨rfl,j⟩
  |true=>
   exact Qq (Qq (Qh j (λx g u=>Qq (Qh u (λ_ f t=>Qx (Qx ⟨rfl,t⟩)) λ_ _ z=>z)) λ_ _ z=>z))
end
def HOk.track(x:HOk P w H h)(d:H a=B)(new:ObjOk P w (upd H a o) h a o):HOk P w (upd H a o) h:=λb u e=>by
 by_cases hb:b=a
 ·subst hb; rw[qzw]at e; cases e; exact new
 ·rw[qzq hb]at e;exact(x b u e).stay (λc v _ q=>q) (λc q=>by rw[qzq (qzl q d)]; exact q) λc xs q=>by rw[qzq (qzl q d)]; exact q
theorem Inv.track(I:Inv X c f H s)(hf:FpOk X c H a)(new:ObjOk X.prog X.w (upd H a o) s.heap a o):Inv X c f (upd H a o) s:=by
 obtain⟨d,k,l,j,i,g⟩:=hf;refine I.step (ch:=[a]) (λb hb=>?_) (λb o _ _ _ e _=>e) (λb o _ _ _ e _=>⟨o.slots,e⟩) (λb o hb e n=>?_) (λb o _ e=>⟨o,e⟩)
  (λb xs e=>by rw[qzq (qzl e d)]; exact e) (λb o u e=>by rw[qzq (qzl e d)]; exact e) (λb ps e=>⟨#[],by rw[qzq (qzl e d),e]; simp⟩) (λm h=>h) (HOk.track I.hok d new) I.bare
 ·have e:b=a:=by simpa using hb
  subst e;exact⟨j,k,i,g⟩
 ·rw[qzq (by simpa using hb)]; exact n
noncomputable def qzm(X:Cx)(N:L Y5)(scope:Scope)(C:Y7)(fp:L Y7)(s:Qz)(H:Hp):Cx:=
 { X with N:=N,s₀:=s,H₀:=H,env:=compEnvC scope (qxg X.env.cells scope.names []) C X.env,outer:=X.stack,ex:=fp,fn:=λ_=>Y6,pn:=[],xe:=λ_ _=>False }
noncomputable def qq0(src:L (Y3 Y0))(σ:L2.St):L2.St:=src.map λo=>o.bind λi=>(σ[i]?).bind id
structure CompScope (X:Cx) (N:L Y5) (src:L (Y3 Y0)) (scope:Scope):Prop where
 kind:scope.kind=.function
 cell:∀y∈scope.names,y.2≠.cell
 free:∀y∈scope.names,y.2=.free->X.env.kindOf y.1=Y .cell\/X.env.kindOf y.1=Y .free
 loc:∀y∈scope.names,y.2=.local->scope.names.lookup y.1=Y .local
 len:src.length=N.length
 src:∀(j i:Y0),src[j]?=Y (Y i)->∃x,N[j]?=Y x/\X.N[i]?=Y x/\scope.names.lookup x=Y .free
section
def mem_lookup{names:L (Y5×Ql)}(h:names.lookup x=Y k):(x,k)∈names:=PySem.mem_of_lookup h
def qwm(S:CompScope X N src a)(I:Inv X pins σ H s):closureFor a X.env=pure (qxg X.env.cells a.names []):=
 qvb λx b hk=>I.ok.has x.1 (S.free x b hk)
def qpx(S:CompScope X N src a)(I:Inv X pins σ H s)(j:s.heap.objs.size<=C)(d:∀b∈fp,FpOk X pins H b)(g:∀b∈fp,b<s.heap.objs.size):(qzm X N a C fp s H).Ok where
 mod:=I.ok.mod
 kind:=S.kind
 glob:=I.ok.glob
 blt:=I.ok.blt
 above:=j
 inj:=λx y c h1 h2=>I.ok.inj x y c (qz9 _ [] (λ_ _ z=>nomatch z) x c h1) (qz9 _ [] (λ_ _ z=>nomatch z) y c h2)
 has:=λx h=>by
  have e:(qzm X N a C fp s H).env.kindOf x=(a.names.lookup x).map λk=>if (k==NameKind.free&&X.env.scope.kind==.function&&X.env.kindOf x==Y .cell) then NameKind.cell else k:=qqj X.env a.names x
  rw[e]at h
  cases q:a.names.lookup x with
  |none=>rw[q]at h; rcases h with h|h<;>cases h
  |some k=>
   have hk:k=.free:=by
    rw[q]at h;simp only[oMs,Option.some.injEq]at h
    by_cases hc:(k==NameKind.free&&X.env.scope.kind==.function&&X.env.kindOf x==Y .cell)=O
    ·simp only[Qq2]at hc;exact eq_of_beq hc.1.1
    ·rw[Z5 hc]at h;rcases h with h|h
     ·subst h; exact absurd rfl (S.cell _ (mem_lookup q))
     ·exact h
   subst hk;have i:=mem_lookup q;obtain⟨c,hc⟩:=I.ok.has x (S.free _ i rfl);exact⟨c,qvc hc _ _ (.inl i)⟩
 cab:=λx c h=>by cases h
 hd:=I.ok.hd
 frames:=I.ok.frames
 stk:=.inl rfl
 exf:=λb hb=>⟨Qq6 (Qq7 (g b hb) j),λx c e=>(d b hb).2.2.2.2.1 x c (qz9 _ [] (λ_ _ z=>nomatch z) x c e)⟩
 bs:=I.bs
 bsz:=Qzh I.ok.bsz I.sz
 noex:=λb o e hb=>by
  rcases (d b hb).2.2.2.1 with z|z
  ·exact I.ok.noex b o e z
  ·exact absurd (Qq7 (Qqe e) (Qzh I.ok.bsz z)) (Qxj _)
 exfs:=λb hb hf=>by
  have f:=d b hb;rcases Qqb.mp (I.stkSub b hf) with z|z
  ·exact f.2.1 z
  ·exact f.2.2.1 z
 funs:=I.stack
 frf:=I.stkFree
def qb7(S:CompScope X N src a)(I:Inv X pins σ H s)(D:s.heap.objs.size<=C)(n:∀b∈fp,FpOk X pins H b)(l:∀b∈fp,b<s.heap.objs.size)(kp:∀b o,s.heap.get? b=Y o->h'.get? b=Y o)(ns:h'.Ns C A):Inv (qzm X N a C fp s H) [] (qq0 src σ) H { s with heap:=h',toks:=F }:=by
 have T:=qpx S I D n l;refine⟨T,rfl,I.bare,Un.kept kp,⟨A,ns,λj x v r d hv=>?_⟩,λx c e=>?_,I.hok.fresh D,λx c e=>?_,λp K=>absurd (show p∈([]:L ?qm) from K) (by simp),I.hok.kept kp,?_⟩
 ·unfold qq0 at d;rw[Qqw]at d
  cases q:src[j]? with
  |none=>rw[q]at d; cases d
  |some o=>
   rw[q]at d
   cases o with
   |none=>cases d
   |some i=>
    obtain⟨U,E,Q,t⟩:=S.src j i q;have r:N[j]?=Y x:=r;rw[r]at E;cases E;have hi:σ[i]?=Y (Y v):=by
     cases z:σ[i]? with
     |none=>simp[z]at d
     |some w=>
      cases w with
      |none=>simp[z]at d
      |some w=>simpa[z] using d
    obtain⟨V,P,m⟩:=I.loc;have hk:=S.free _ (mem_lookup t) rfl;have g:Vis X.env.scope x:=by
     rcases hk with z|z
     ·exact .inr (.inl z)
     ·exact .inr (.inr z)
    obtain⟨u,G,lk⟩:=m i x v Q hi g;refine⟨u,G,?_⟩;rcases lk with⟨z,_⟩|⟨_,c,hc,f⟩
    ·rcases hk with y|y
     ·rw[y]at z; cases z
     ·rw[y]at z; cases z
    ·refine .inr ⟨?_,c,qvc hc _ _ (.inl (mem_lookup t)),?_⟩
     ·have e:(qzm X N a C fp s H).env.kindOf x=(a.names.lookup x).map λk=>if (k==NameKind.free&&X.env.scope.kind==.function&&X.env.kindOf x==Y .cell) then NameKind.cell else k:=qqj X.env a.names x
      rw[e,t];simp only[oMs]
      by_cases hc:(NameKind.free==NameKind.free&&X.env.scope.kind==.function&&X.env.kindOf x==Y .cell)=O
      ·rw[Z6 hc]; exact .inl rfl
      ·rw[Z5 hc]; exact .inr rfl
     ·obtain⟨o,h,hd⟩:=f;exact⟨o,kp c o h,hd⟩
 ·have R:=qz9 _ [] (λ_ _ z=>nomatch z) x c e;obtain⟨v,o,h,hd⟩:=I.cell x c R;exact⟨v,o,kp c o h,hd⟩
 ·exact I.freeC x c (qz9 _ [] (λ_ _ z=>nomatch z) x c e)
 ·unfold qq0;rw[Qqz];exact S.len
end
def qcj(X:Cx)(ifs:L Expr)(tt:TT):Prop:=∀(pins:L ?qm) (s:Qz) (σ:L2.St) (H:Hp) (Q:Yb->Hp->Prop),Inv X pins σ H s->tt σ H Q->
 wpAny ?d X.A (forIn ifs O λc r=>if r=O then do let ok <- isTrue c X.env (Qa c X.env); pure (ForInStep.yield ok) else pure (ForInStep.yield r)) (TP X pins σ Q) X.xe s
def qgr:qcj X [] (λ_ H Q=>Q O H):=λpins s σ H Q I h=>by
 exact Qx ⟨H,I,h⟩
def qgp(hc:PT X c tc):qcj X [c] tc:=λpins s σ H Q I h=>by
 rw[List.forIn_cons];simp only[if_true];refine Qq (Qq (thn (hc pins s σ H Q I h) λb a q=>Qx ?_));exact Qx q
def qkt{c4:L V->Hp->Prop}{RR:Y8->Y7->Result->Qz->Prop}{Ex:Y7->Y7->Y8->Qz->Prop}(hc:X.calm=O)(I:Inv X t σ H s)(T:Turn X.prog X.w X.K tg Jq fp it tn)(a5:tn 0 s.heap)(A:∀b∈fp,FpOk X t H b)(S:CompScope X N src scope)(hg:∀C,PG (qzm X N scope C fp s H) tg g)(ht:∀C,qcj (qzm X N scope C fp s H) ifs tt)(he:∀D C,PE ((qzm X N scope C fp s H).wish (Ex D C)) elt te)(c9:∀D C,s.heap.objs.size<=C->∀e s',Ex D C e s'->notedBy ?d X.A (compEnvC scope (qxg X.env.cells scope.names []) C X.env) (λe s'=>RR (.ref D) C (.error e) s') e s')(W:Y0->Y0->L V->L2.St->Hp->Prop)(w0:∃k,W 0 k [] (qq0 src σ) H)(step:∀i k f σ H,W i k f σ H->(Jq.stop i H/\f.length<=sizeLine/\c4 f H)\/(Jq.go i H/\f.length<sizeLine/\∀x H',Jq.yld i H x H'->g x σ H' λU H2=>tt U H2 λb H3=>
   if b=O then te U H3 λv H4=>∃k',k'<k/\W (i+1) k' (f++[v]) U H4 else ∃k',k'<k/\W (i+1) k' f U H3))(c8:∀D C s' H' f,c4 f H'->H' D=B->Inv X t σ (upd H' D (.lst f)) s'->FpOk X t (upd H' D (.lst f)) C->(∃m,s'.heap.Ns C m)->RR (.ref D) C (.ok .next) s'):
  wpAny ?d X.A (newList []) (λf s₃=>wpAny ?d X.A (newFunctionEnv scope X.env.globals (qxg X.env.cells scope.names []) [] X.env.qual B .none (Y X.env)) (λa3 b9=>
   Zc ?d X.A (.compStart (.ListComp elt [⟨tg,a0,ifs,0⟩] scope pos) 0 (.ref it) f { a3 with scope:=relabel scope X.env }) (RR f a3.locals) b9) E s₃) E s:=by
 have c1:∀b∈fp,b<s.heap.objs.size:=λb hb=>by obtain⟨o,e,_⟩:=T.obj 0 _ a5 b hb; exact Qqe e
 refine Qi (wpAny_newFunctionEnv S.cell (by intro y hy; simp at hy) (λa1 l j=>?_) S.kind);generalize a9:s.heap.push { cls:=.type "list",dict:=B,data:=.seq ([]:L Y8).toArray }=H2 at l j ⊢;have hC:H2.objs.size=s.heap.objs.size+1:=by rw[<- a9,Qxv]
 have G:s.heap.objs.size≠H2.objs.size:=by rw[hC]; exact Qq6 (Qzo _)
 have R:s.heap.objs.size<=H2.objs.size:=by rw[hC]; exact Qxh _
 have a6:=λb o e=>j.extBut b o (by rw[hC]; exact Qq6 (Qx5 (Qqe e))) (Qqx _ (a9▸Qqx _ e));have a2:=j.extBut _ _ G (Qqx _ (a9▸Qqf _ rfl));generalize Q:s.heap.objs.size=Dd at G R a2;generalize d5:H2.objs.size=Cc at G R l j hC ⊢;have b0:=Nat.le_of_eq Q;have b5:s.heap.objs.size<=Cc:=by rw[Q]; exact R
 have fD:=I.hok.fresh b0;have I1:Inv ?qc [] (qq0 src σ) H { s with heap:=a1,toks:=s.toks+([]:L (Y5×Y8)).length }:=qb7 S I b5 A c1 a6 l;have c0:∀b∈fp,b≠Dd:=λb hb=>by rw[<- Q]; exact Qq6 (c1 b hb)
 have b6:∀x c,(?qc).env.cells.lookup x=Y c->c≠Dd:=λx c e z=>by
  have e':=qz9 _ [] (λ_ _ z=>nomatch z) x c e;obtain⟨v,o,ho,_⟩:=I.cell x c e';rw[z,<- Q]at ho;exact Qxj _ (Qqe ho)
 have fsD:Dd ∉ (?qc).fs:=λz=>by
  obtain⟨_,o,ho,_⟩:=I1.ok.funs.mem z;rw[<- Q]at ho;exact Qxj _ (Qqe ho)
 have P:∀{pl:L ?qm}{H':Hp},(∀p∈pl,p.1=Dd)->(∀b∈fp,H' b=B)->∀b∈fp,FpOk ?qc pl H' b:=λ{pl H'} c5 hn b hb=>
  ⟨hn b hb,(I1.ok.exf b hb).1,I1.ok.exfs b hb,.inl hb,(I1.ok.exf b hb).2,λp n=>by
   have c6:=n
   rw[c5 p c6]; exact(c0 b hb).symm⟩
 obtain⟨k0,w0⟩:=w0;have loop:∀s₃:Qz,s₃={ s with heap:=a1,toks:=s.toks+([]:L (Y5×Y8)).length }->
   Zc ?d X.A (.compLoop (.ListComp elt [⟨tg,a0,ifs,0⟩] scope pos) 0 (.ref it) (.ref Dd) (compEnvC scope (qxg X.env.cells scope.names []) Cc X.env)) (RR (.ref Dd) Cc) s₃:=by
  rintro s₃ rfl;refine qwn (c9 Dd Cc b5) (λk s'=>∃i f h nn b8 H',Inv ?qc [] b8 H' s'/\tn i s'.heap/\(∀b∈fp,H' b=B)/\W i k f b8 H'/\Vals f h/\s'.heap.get? Dd=Y { cls:=.type "list",data:=.seq h.toArray nn }/\H' Dd=B) ?_ k0
   ⟨0,[],[],0,qq0 src σ,H,I1,T.keep _ _ _ a5 λb _ o e=>a6 b o e,λb hb=>(A b hb).1,w0,.nil,a2,fD⟩
  rintro k s3 ⟨i,f,h,nn,K,H3,I3,t3,c2,w3,rv,c7,a7⟩;have c3:Inv ?qc [(Dd,{ cls:=.type "list",data:=.seq h.toArray nn })] K H3 s3:=I3.pins_of λp n=>by
   have e:p=(Dd,{ cls:=.type "list",data:=.seq h.toArray nn }):=by simpa using n
   subst e
   exact⟨c7,a7,G,fsD,λv z=>by
    have z':=z
    cases z'⟩
  rcases step i k f K H3 w3 with⟨stop,hz,d2⟩|⟨go,hz,next⟩
  ·refine thn (T.done ?qc rfl rfl rfl hc i _ s3 K H3 (Ex Dd Cc) c3 (P (λp n=>by rw[Qqy.mp n]) c2) t3 stop) λr s4 ⟨hr,I4⟩=>?_;subst hr;have p4:=I4.pin (Dd,{ cls:=.type "list",data:=.seq h.toArray nn }) (Qqn _ (by simp));have I5:=I.call' I4.os I4.base I4.hok I4.bare λb hb=>⟨(A b hb).2.2.2.1,(A b hb).2.1,(A b hb).2.2.2.2.1,(A b hb).2.2.2.2.2⟩
   have d1:=I.fpOk b0 a7;refine c8 Dd Cc s4 H3 f d2 a7 (Inv.track I5 d1 ⟨hz,h,nn,rv,p4.1⟩) (I.fpOk b5 (by rw[qzq (Ne.symm G)]; exact I4.free)) ?_;obtain⟨m4,n4,_⟩:=I4.loc;exact⟨m4,n4⟩
  ·refine thn (T.item ?qc rfl rfl rfl hc i _ s3 K H3 (Ex Dd Cc) c3 (P (λp n=>by rw[Qqy.mp n]) c2) t3 go) λr s4 ⟨u,hr,h4⟩=>?_;subst hr;refine thn h4 λ_ s5 ⟨x,H5,I5,r5,y5,t5,d0⟩=>?_;have d3:=I5.pinned (P (λp n=>by rw[Qqy.mp n]) d0) (T.obj _ _ t5);refine Qh (hg Cc _ s5 K H5 x u _ d3 r5 (next x H5 y5)) (λ_ s6 ⟨w,H6,I6,q6⟩=>?_) λ_ _ z=>z.elim;refine Qh (ht Cc _ s6 w H6 _ I6 q6) (λb s7 ⟨H7,I7,q7⟩=>?_) λ_ _ z=>z.elim;have a4:∀{b7:L2.St}{H8:Hp}{s8:Qz},Inv ?qc ([(Dd,{ cls:=.type "list",data:=.seq h.toArray nn })]++qv0 fp s5.heap) b7 H8 s8->
     tn (i+1) s8.heap/\(∀b∈fp,H8 b=B)/\s8.heap.get? Dd=Y { cls:=.type "list",data:=.seq h.toArray nn }/\H8 Dd=none:=λ{b7 H8 s8} I8=>by
    refine⟨T.keep _ _ _ t5 λb hb o e=>(I8.pin (b,o) (Qqn _ (Qqn _ (qqt hb e)))).1,λb hb=>?_,?_,?_⟩
    ·obtain⟨o,e,d⟩:=T.obj _ _ t5 b hb;exact(I8.pin (b,o) (Qqn _ (Qqn _ (qqt hb e)))).2.1
    ·exact(I8.pin (Dd,_) (Qqn _ (Qzb _ (by simp)))).1
    ·exact(I8.pin (Dd,{ cls:=.type "list",data:=.seq h.toArray nn }) (Qqn _ (Qzb _ (by simp)))).2.1
   cases b with
   |false=>
    simp only[Qzm]at q7 ⊢;obtain⟨k',hk,w7⟩:=q7;obtain⟨b1,b2,b3,b4⟩:=a4 I7;exact⟨k',hk,i+1,f,h,nn,w,H7,I7.pins_of λp n=>absurd n (by simp),b1,b2,w7,rv,b3,b4⟩
   |true=>
    simp only[if_true]at q7 ⊢;refine thn (he Dd Cc _ s7 w H7 _ (I7.wish _) q7) λy s8 ⟨v8,H8,I8,r8,k',hk,w8⟩=>?_;have I8:=I8.unwish;obtain⟨b1,b2,b3,b4⟩:=a4 I8;have l1:=rv.length;refine Qr F.slot_list_append ⟨_,b3,rfl⟩ F.entry_list_append (F.args_list_append_2 _ _) (PySem.list_append Dd h.toArray nn y (by rw[Qqc]; lia)) ⟨b3,?_⟩;have q:=PySem.IsL.update b3 (λa=>a.push y);have a8:h.toArray.push y=(h++[y]).toArray:=by simp
    rw[a8]at q;have I9:Inv ?qc [] w H8 s8:=I8.pins_of λp n=>absurd n (by simp);have d4:Inv ?qc [] w H8 { s8 with heap:=s8.heap.update Dd (Obj.mapSeq (·.push y)) }:=
     I9.turned (λb o hb e=>(Qjb s8.heap _ (Ne.symm hb)).trans e) b4 G (.inr b0) b6 λp n=>absurd (show p∈([]:L ?qm) from n) (by simp)
    exact⟨k',hk,i+1,f++[v8],h++[y],_,w,H8,d4,T.keep _ _ _ b1 λb hb o e=>(Qjb s8.heap _ (Ne.symm (c0 b hb))).trans e,b2,w8,rv.append (.cons r8 .nil),q,b4⟩
 exact codeAny_compStart_list (loop _ rfl) (T.self _ 0 _ _ _ (T.keep _ _ _ a5 λb _ o e=>a6 b o e) (loop _ rfl))
noncomputable def qmg(src:L (Y3 Y0))(wi:TI)(g:TG)(tt:TT)(te:TE):TE:=λσ H Q=>wi σ H λJq H1=>∃W:Y0->Y0->L V->L2.St->Hp->Prop,(∃k,W 0 k [] (qq0 src σ) H1)/\
 ∀i k acc σ' H',W i k acc σ' H'->(Jq.stop i H'/\acc.length<=sizeLine/\∀p,H' p=B->Q (.ref p) (upd H' p (.lst acc)))\/(Jq.go i H'/\acc.length<sizeLine/\∀x H2,Jq.yld i H' x H2->g x σ' H2 λσ2 H3=>tt σ2 H3 λb H4=>
  if b=O then te σ2 H4 λv H5=>∃k',k'<k/\W (i+1) k' (acc++[v]) σ2 H5 else ∃k',k'<k/\W (i+1) k' acc σ2 H4)
def qni(hc:X.calm=O)(S:CompScope X N src a)(y:PI X tg c l)(A:∀C fp s H,PG (qzm X N a C fp s H) tg g)(u:∀C fp s H,qcj (qzm X N a C fp s H) ifs m)(E:∀C fp s H,PE (qzm X N a C fp s H) elt n)(hs:∀x,foldedSetIterable c X.env x=pure x):PE X (.ListComp elt [⟨tg,c,ifs,0⟩] a pos) (qmg src l g m n):=by
 intro pins s σ H Q I h;rw[eval_ListComp];refine wpAny_comprehension_free rfl hs (qwm S I) S.kind S.loc (thn (y pins s σ H _ I h) λv U h1=>thn h1 λt i h2=>?_);obtain⟨it,fp,R,V,H2,e,K,T,f,G,W,p,d⟩:=h2;subst e;refine qkt hc K T f G S (λC=>A C fp i H2) (λC=>u C fp i H2) (λ_ C=>E C fp i H2) (λ_ _ _ _ _ z=>z.elim) W p d ?_;intro D C s' H' k j r P F w;obtain⟨m',hn⟩:=w;refine⟨m',hn,λh' q=>⟨.ref D,upd H' D (.lst k),?_,rfl,j D r⟩⟩;obtain⟨c0,c1,c2,c3,c4,c5⟩:=F;exact P.turned (λb o hb e=>(q.2 b hb).trans e) c0 c1 c3 c4 c5
def Inv.turnedL{ch:L Y7}(I:Inv X a f H s)(k:∀b o,b ∉ ch->s.heap.get? b=Y o->h'.get? b=Y o)(hf:∀b∈ch,FpOk X a H b):Inv X a f H { s with heap:=h',toks:=t' }:=by
 have d:∀b u,H b=Y u->b ∉ ch:=λb u e z=>by rw[(hf b z).1]at e; cases e
 refine I.step (λb hb=>?_) (λb o _ _ hc e _=>k b o hc e) (λb o _ _ hc e _=>⟨o.slots,k b o hc e⟩) (λ_ _ _ _ n=>n) (λb o hc e=>⟨o,k b o hc e⟩) (λ_ _ e=>e) (λ_ _ _ e=>e) (λb ps e=>⟨#[],by rw[e]; simp⟩) (λm h=>?_) (λb u e=>?_) I.bare
 ·obtain⟨x,p,w,l,j,i⟩:=hf b hb;exact⟨l,p,j,i⟩
 ·obtain⟨o,es,t,g,r⟩:=h;exact⟨o,es,t,k _ o (λz=>(hf _ z).2.1 rfl) g,r⟩
 ·refine(I.hok b u e).stay (λc v hc q=>k c v ?_ q) (λ_ q=>q) λ_ _ q=>q;rcases hc with z|z
  ·rw[z]; exact d b u e
  ·exact d c _ z
inductive RK where
 |lst|tup
noncomputable def RK.It:RK->Heap->Y7->Y7->Y0->Prop
 |.lst,h,it,a,i=>h.IsListIter it a i
 |.tup,h,it,a,i=>h.IsTupleIter it a i
noncomputable def RK.Sq:RK->Heap->Y7->Array Y8->Prop
 |.lst,h,a,xs=>h.IsList a xs
 |.tup,h,a,xs=>h.IsTuple a xs
def RK.It.on{k:RK}(x:k.It h it a i)(e:∀o,h.get? it=Y o->h'.get? it=Y o):k.It h' it a i:=by
 cases k with
 |lst=>exact Heap.IsListIter.at x e
 |tup=>obtain⟨o,b,r⟩:=x; exact⟨o,e o b,r⟩
def RK.Sq.on{k:RK}(x:k.Sq h a xs)(e:∀o,h.get? a=Y o->h'.get? a=Y o):k.Sq h' a xs:=by
 cases k with
 |lst=>exact Heap.IsList.at x e
 |tup=>obtain⟨o,b,r⟩:=x; exact⟨o,e o b,r⟩
def RK.It.obj{k:RK}(x:k.It h it a i):∃o,h.get? it=Y o/\∀v,o.data≠.cell v:=by
 cases k with
 |lst=>obtain⟨o,b,_,d⟩:=x; exact⟨o,b,λv z=>by rw[d]at z; cases z⟩
 |tup=>obtain⟨o,b,_,d⟩:=x; exact⟨o,b,λv z=>by rw[d]at z; cases z⟩
section
def qxe{k:RK}(d:k.It s.heap it a i)(hs:k.Sq s.heap a xs)(f:xs[i]?=Y x)(g:∀h',k.It h' it a (i+1)->(∀b o,b≠it->s.heap.get? b=Y o->h'.get? b=Y o)->h'.objs.size=s.heap.objs.size->Q x { s with heap:=h' }):wpAny ?r A (Builtin.SmallTypes.nextOf (.ref it)) Q E s:=by
 cases k with
 |lst=>exact wpAny_nextOf_list_item d hs f λh' p h=>g h' p h.extBut h.1
 |tup=>
  obtain⟨o,e,n,c⟩:=id d;obtain⟨q,l,_,m,j⟩:=hs;unfold Builtin.SmallTypes.nextOf;refine Qq (Qb (Heap.IsTupleIter.typeIs d) F.slot_tuple_iterator_next (Qd F.slot_tuple_iterator_next (Heap.IsTupleIter.typeIs d) F.entry_tuple_iterator_next ?_ (F.args_tuple_iterator_next_1 _)));show wpAny _ _ (field (.ref it) 0 >>= _) _ _ _;refine Qq (Qv e c rfl ?_);rw[Z5 (λz=>nomatch z)];refine Qq (Qv e c rfl ?_);refine Qq (Qo l j ?_);simp only[Int.toNat_natCast,f];refine Qq (wpAny_setField e c (by simp) (Qx ⟨x,rfl,Qx (g _ ?_ (Heap.SameBut.update ..).extBut (Heap.SameBut.update ..).1)⟩));exact⟨_,Qji _ e (Obj.isFreed_of_fields (Obj.data_mapFields c _)),(Obj.cls_mapFields ..).trans n,by rw[Obj.data_mapFields c]; simp[rawInt]⟩
def qj9{k:RK}(d:A.handled=B)(c:k.It s.heap it a i)(hs:k.Sq s.heap a xs)(h:xs[i]?=B)(j:∀h' e,(∀b o,b≠it->s.heap.get? b=Y o->h'.get? b=Y o)->(∃o,h'.get? e=Y o/\o.cls=.type "StopIteration")->E (.ref e) { s with heap:=h' }):wpAny ?r A (Builtin.SmallTypes.nextOf (.ref it)) Q E s:=by
 cases k with
 |lst=>exact wpAny_nextOf_list_end d c hs h λh' e r p=>j h' e r p
 |tup=>
  obtain⟨o,g,t,f⟩:=id c;obtain⟨q,n,_,m,l⟩:=hs;unfold Builtin.SmallTypes.nextOf;refine Qq (Qb (Heap.IsTupleIter.typeIs c) F.slot_tuple_iterator_next (Qd F.slot_tuple_iterator_next (Heap.IsTupleIter.typeIs c) F.entry_tuple_iterator_next ?_ (F.args_tuple_iterator_next_1 _)));show wpAny _ _ (field (.ref it) 0 >>= _) _ _ _;refine Qq (Qv g f rfl ?_);rw[Z5 (λz=>nomatch z)];refine Qq (Qv g f rfl ?_);refine Qq (Qo n l ?_);simp only[Int.toNat_natCast,h];refine Qq (Zq (Qq (wpAny_setField g f (by simp) ?_))); show wpAny _ _ (newExc (.type "StopIteration") [] >>= _) _ _ _;refine Qq ?_; simp only[newExc];refine Qq (Qi ?_ (by size_fits)); refine Qq (Zk (by first|rfl|(simp only[firstArgMember]; rfl)) ?_);refine Qi ?_ (by size_fits); simp only[raiseNew];refine Qq (wpAny_handled ?_)
  first|rw[show A.in1.handled=B from d]|(rw[d])
  refine Qq (Qx (wpAny_throw ?_));exact j _ _ (((Heap.SameBut.update ..).extBut.push _).push _) ⟨_,Qqf _ rfl,by rfl⟩
end
section
def qvx(e:IsPair s.heap T a b)(h:∀h',h'.get? T=Y { cls:=.type "tuple",data:=.seq ((#[a,b]:Array Y8).setIfInBounds j x) }->(∀c o,c≠T->s.heap.get? c=Y o->h'.get? c=Y o)->h'.objs.size=s.heap.objs.size->Q () { s with heap:=h' }):
  wpAny ?r A (updateSeq T (·.setIfInBounds j x)) Q E s:=
 wpAny_updateSeq_pair e λh' f d=>h h' f d.extBut d.1
def zip_get{k1 k2:RK}(n1:r<n)(n2:q<n)(f:IsZip s.heap (n+4) (n+2) (n+3) .none)(P:IsPair s.heap (n+2) (.ref n) (.ref (n+1)))(hO:IsPair s.heap (n+3) a b)(h1:k1.It s.heap n r i)(h2:k2.It s.heap (n+1) q i)(V:k1.Sq s.heap r xs)(U:k2.Sq s.heap q ys)(hx:xs[i]?=Y x)(hy:ys[i]?=Y y)(hQ:∀h',IsZip h' (n+4) (n+2) (n+3) (rawInt s.heap.objs.size)->IsPair h' (n+2) (.ref n) (.ref (n+1))->IsPair h' (n+3) x y->k1.It h' n r (i+1)->k2.It h' (n+1) q (i+1)->IsPair h' s.heap.objs.size x y->
   (∀c o,c≠n+4->c≠n+3->c≠n->c≠n+1->s.heap.get? c=Y o->h'.get? c=Y o)->Q (Y ?qd) { s with heap:=h' }):
  wpAny ?r A (pyNext (.ref (n+4))) Q E s:=by
 have N:s.TypeIs (.ref (n+4)) "zip":=⟨_,f,rfl⟩
 unfold pyNext;refine Qq (Q5 (Qb N F.slot_zip_next (Qd F.slot_zip_next N F.entry_zip_next ?_ (F.args_zip_next_1 _))));show wpAny _ _ (field (.ref (n+4)) 2 >>= _) _ _ _;refine Qq (Qv f rfl rfl ?_);refine Qq (Qv f rfl rfl ?_);refine Qq (Qo P rfl ?_);refine Qq ?_;unfold Builtin.SmallTypes.ownedTupleIsFree;refine Qq (Qv f rfl rfl (Qx ?_));simp only[if_true];refine Qq (Zq ?_);refine Qq (Qv f rfl rfl ?_);refine Qq (Qw f (by simp) λg1 z1 H=>?_)
 replace z1:IsZip g1 (n+4) (n+2) (n+3) .ellipsis:=z1
 have d:=H.extBut;refine Qq ?_;simp only[List.zipIdx_cons,List.forIn_nil];refine Qq (Qq (Z1 ?_)); show wpAny _ _ (Builtin.SmallTypes.nextOf (.ref n) >>= _) _ _ _;refine Qq (qxe (h1.on λo e=>d _ o (by show @Ne Y0 _ _; lia) e) (V.on λo e=>d _ o (by show @Ne Y0 _ _; lia) e) hx λg2 i2 j c2=>Qx ?_);have S:=j _ _ (by show @Ne Y0 _ _; lia) (d _ _ (by show @Ne Y0 _ _; lia) hO);refine Qq (Qo S rfl ?_);refine Qq (qvx S λg3 z h c3=>?_)
 replace z:IsPair g3 (n+3) x b:=z
 refine Qq (wpAny_letGo (Qx ?_));refine Qq (Qq (Z1 ?_)); show wpAny _ _ (Builtin.SmallTypes.nextOf (.ref (n+1)) >>= _) _ _ _;refine Qq (qxe (h2.on λo e=>h _ o (by show @Ne Y0 _ _; lia) (j _ o (by show @Ne Y0 _ _; lia) (d _ o (by show @Ne Y0 _ _; lia) e))) (U.on λo e=>h _ o (by show @Ne Y0 _ _; lia) (j _ o (by show @Ne Y0 _ _; lia) (d _ o (by show @Ne Y0 _ _; lia) e))) hy λg4 i4 p c4=>Qx ?_);have R:=p _ _ (by show @Ne Y0 _ _; lia) z;refine Qq (Qo R rfl ?_);refine Qq (qvx R λg t m c5=>?_)
 replace t:IsPair g (n+3) x y:=t
 refine Qq (wpAny_letGo (Qx (Qx ?_)));refine Qq (Qo t rfl ?_);refine Qq (wpAny_newTuple ?_);have sz:=c5.trans (c4.trans (c3.trans (c2.trans H.1)));have C:=m _ _ (by show @Ne Y0 _ _; lia) (p _ _ (by show @Ne Y0 _ _; lia) (h _ _ (by show @Ne Y0 _ _; lia) (j _ _ (by show @Ne Y0 _ _; lia) z1)));have k:∀c o,c≠n+4->c≠n+3->c≠n->c≠n+1->s.heap.get? c=Y o->g.get? c=Y o:=λc o c1 c2 c3 c4 e=>m _ _ c2 (p _ _ c4 (h _ _ c2 (j _ _ c3 (d _ _ c1 e))));have X:=i2.on λo e=>m _ o (by show @Ne Y0 _ _; lia) (p _ o (by show @Ne Y0 _ _; lia) (h _ o (by show @Ne Y0 _ _; lia) e));have W:=i4.on λo e=>m _ o (by show @Ne Y0 _ _; lia) e;have K:=Qqe C;refine Qq ?_;unfold Builtin.SmallTypes.ownedTupleHandOut;have T:IsZip (g.push { cls:=.type "tuple",data:=.seq #[x,y] }) (n+4) (n+2) (n+3) .ellipsis:=Qqx _ C;refine Qq (Qw T (by simp) λg7 u G=>?_)
 replace u:IsZip g7 (n+4) (n+2) (n+3) (rawInt g.objs.size):=u
 refine Qw u (by simp) λv l D=>?_
 replace l:IsZip v (n+4) (n+2) (n+3) (rawInt g.objs.size):=l
 have up:∀c o,c≠n+4->g.get? c=Y o->v.get? c=Y o:=λc o c1 e=>D.extBut _ _ c1 (G.extBut _ _ c1 (Qqx _ e));have I:=D.extBut _ _ (Qxi K) (G.extBut _ _ (Qxi K) (Qqf _ rfl));rw[sz]at l I;refine Qx ⟨_,rfl,Qx ?_⟩;rw[sz];exact hQ v l (up _ _ (by lia) (k _ _ (by lia) (by lia) (by lia) (by lia) P)) (up _ _ (by lia) t) (X.on λo e=>up _ o (by lia) e) (W.on λo e=>up _ o (by lia) e) I λc o c1 c2 c3 c4 e=>up c o c1 (k c o c1 c2 c3 c4 e)
def qgy{k1 k2:RK}(I:A.handled=B)(n1:u<n)(n2:t<n)(j:IsZip s.heap (n+4) (n+2) (n+3) .none)(X:IsPair s.heap (n+2) (.ref n) (.ref (n+1)))(W:IsPair s.heap (n+3) a b)(N:k1.It s.heap n u i)(h2:k2.It s.heap (n+1) t i)(H:k1.Sq s.heap u xs)(T:k2.Sq s.heap t ys)(k:xs[i]?=B\/ys[i]?=B)(V:∀h',(∀c o,c≠n+4->c≠n+3->c≠n->c≠n+1->s.heap.get? c=Y o->h'.get? c=Y o)->Q B { s with heap:=h' }):
  wpAny ?r A (pyNext (.ref (n+4))) Q E s:=by
 have K:s.TypeIs (.ref (n+4)) "zip":=⟨_,j,rfl⟩
 have m:∀(h':Heap) (e:Y7),(∀c o,c≠n+4->c≠n+3->c≠n->c≠n+1->s.heap.get? c=Y o->h'.get? c=Y o)->(∃o,h'.get? e=Y o/\o.cls=.type "StopIteration")->
   wpAny ?r A (do if (<- isInstance (.ref e) (.type "StopIteration")) then pure B else(throw (Value.ref e):Sem (Y3 Y8))) Q E { s with heap:=h' }:=λh' e hk l=>by
  obtain⟨o,f,hc⟩:=l;refine Qq (Zl ⟨o,f,hc⟩ isSubtype_stop ?_);exact Qx (V _ hk)
 unfold pyNext;refine Qq (Q5 (Qb K F.slot_zip_next (Qd F.slot_zip_next K F.entry_zip_next ?_ (F.args_zip_next_1 _))));show wpAny _ _ (field (.ref (n+4)) 2 >>= _) _ _ _;refine Qq (Qv j rfl rfl ?_);refine Qq (Qv j rfl rfl ?_);refine Qq (Qo X rfl ?_);refine Qq ?_;unfold Builtin.SmallTypes.ownedTupleIsFree;refine Qq (Qv j rfl rfl (Qx ?_));simp only[if_true];refine Qq (Zq ?_);refine Qq (Qv j rfl rfl ?_);refine Qq (Qw j (by simp) λg1 z1 S=>?_)
 replace z1:IsZip g1 (n+4) (n+2) (n+3) .ellipsis:=z1
 have d:=S.extBut;refine Qq ?_;simp only[List.zipIdx_cons,List.forIn_nil];refine Qq (Qq (Z1 ?_)); show wpAny _ _ (Builtin.SmallTypes.nextOf (.ref n) >>= _) _ _ _
 cases v:xs[i]? with
 |none=>
  refine Qq (qj9 I (N.on λo e=>d _ o (by show @Ne Y0 _ _; lia) e) (H.on λo e=>d _ o (by show @Ne Y0 _ _; lia) e) v λg2 e g l=>?_);obtain⟨r,f,hc⟩:=l;have z2:=g _ _ (by show @Ne Y0 _ _; lia) z1;have y:e≠n+4:=λq=>by subst q; rw[z2]at f; cases f; simp at hc
  exact Qw z2 (by simp) λP _ G=>m P e (λc o c1 _ c3 _ q=>G.extBut _ _ c1 (g _ _ c3 (d _ _ c1 q))) ⟨r,G.extBut _ _ y f,hc⟩
 |some x=>
  have U:ys[i]?=none:=by
   rcases k with h|h
   ·rw[v]at h; cases h
   ·exact h
  refine Qq (qxe (N.on λo e=>d _ o (by show @Ne Y0 _ _; lia) e) (H.on λo e=>d _ o (by show @Ne Y0 _ _; lia) e) v λg2 i2 g c2=>Qx ?_);have R:=g _ _ (by show @Ne Y0 _ _; lia) (d _ _ (by show @Ne Y0 _ _; lia) W);refine Qq (Qo R rfl ?_);refine Qq (qvx R λP O3 p c3=>Qq (wpAny_letGo (Qx ?_)));refine Qq (Qq (Z1 ?_)); show wpAny _ _ (Builtin.SmallTypes.nextOf (.ref (n+1)) >>= _) _ _ _;refine Qq (qj9 I (h2.on λo e=>p _ o (by show @Ne Y0 _ _; lia) (g _ o (by show @Ne Y0 _ _; lia) (d _ o (by show @Ne Y0 _ _; lia) e))) (T.on λo e=>p _ o (by show @Ne Y0 _ _; lia) (g _ o (by show @Ne Y0 _ _; lia) (d _ o (by show @Ne Y0 _ _; lia) e))) U λg4 e C l=>?_);obtain⟨r,f,hc⟩:=l;have z:=C _ _ (by show @Ne Y0 _ _; lia) (p _ _ (by show @Ne Y0 _ _; lia) (g _ _ (by show @Ne Y0 _ _; lia) z1));have y:e≠n+4:=λq=>by subst q; rw[z]at f; cases f; simp at hc
  exact Qw z (by simp) λg5 _ D=>m g5 e (λc o c1 c2 c3 c4 q=>D.extBut _ _ c1 (C _ _ c4 (p _ _ c2 (g _ _ c3 (d _ _ c1 q))))) ⟨r,D.extBut _ _ y f,hc⟩
end
noncomputable def RK.itO(k:RK)(a:Y7):Obj:=match k with
 |.lst=>{ cls:=.type "list_iterator",data:=.fields #[.ref a,.int 0 0] }
 |.tup=>{ cls:=.type "tuple_iterator",data:=.fields #[.ref a,.int 0 0] }
def qjv{k:RK}(hs:k.Sq s.heap a xs)(b:Q ?qd { s with heap:=s.heap.push (k.itO a) }):wpAny ?r A (pyIter (.ref a)) Q E s:=by
 cases k with
 |lst=>exact Ze hs b
 |tup=>exact wpAny_pyIter_tuple hs b
def row_new{h:Heap}{k:RK}:k.It (h.push (k.itO a)) h.objs.size a 0:=by
 cases k with
 |lst=>exact⟨_,Qqf _ rfl,rfl,rfl⟩
 |tup=>exact⟨_,Qqf _ rfl,rfl,rfl⟩
noncomputable abbrev zh1(k1:RK)(h:Heap)(l1:Y7):Heap:=h.push (k1.itO l1)
noncomputable abbrev zh2(k1 k2:RK)(h:Heap)(l1 l2:Y7):Heap:=(zh1 k1 h l1).push (k2.itO l2)
noncomputable abbrev zh3(k1 k2:RK)(h:Heap)(l1 l2:Y7):Heap:=(zh2 k1 k2 h l1 l2).push { cls:=.type "tuple",data:=.seq #[.ref h.objs.size,.ref (zh1 k1 h l1).objs.size] }
noncomputable abbrev zh4(k1 k2:RK)(h:Heap)(l1 l2:Y7):Heap:=(zh3 k1 k2 h l1 l2).push { cls:=.type "tuple",data:=.seq #[.none,.none] }
noncomputable abbrev zh5(k1 k2:RK)(h:Heap)(l1 l2:Y7):Heap:=(zh4 k1 k2 h l1 l2).push { cls:=.type "zip",data:=.fields #[.none,.bool Y6,.bool Y6,.ref (zh2 k1 k2 h l1 l2).objs.size,.ref (zh3 k1 k2 h l1 l2).objs.size] }
def qga(k1 k2)(b a)(xs ys):Meets (Qs.«zip.__new__» ⟨[.type "zip",.ref b,.ref a],[]⟩) (λ_ R s=>k1.Sq s.heap b xs/\k2.Sq s.heap a ys/\R (.ok (.ret (.ref (zh4 k1 k2 s.heap b a).objs.size))) { s with heap:=zh5 k1 k2 s.heap b a }):=
 .of_wp λprog w A R s h=>by
  obtain⟨j,g,d,tk,os⟩:=s;obtain⟨i,f,h⟩:=h;have c:=sub_zip;have k:=i;have L2:k2.Sq (Shared.heap ⟨j.push (k1.itO b),g,d,tk,os⟩) a ys:=f.on λo e=>Qqx _ e
  wp_walk using qjv k,qjv L2
  exact⟨_,rfl,h⟩
def ZipAt(k1 k2:RK)(n l1 l2:Y0)(i:Y0)(h:Heap):Prop:=
 l1<n/\l2<n/\IsZip h (n+4) (n+2) (n+3) .none/\IsPair h (n+2) (.ref n) (.ref (n+1))/\(∃a b,IsPair h (n+3) a b)/\k1.It h n l1 i/\k2.It h (n+1) l2 i
def qfl(m:k1.Sq s.heap a xs)(l:k2.Sq s.heap b ys)(b1:a<s.heap.objs.size)(b2:b<s.heap.objs.size)(h:∀h',ZipAt k1 k2 s.heap.objs.size a b 0 h'->(∀c o,s.heap.get? c=Y o->h'.get? c=Y o)->Q (.ref (s.heap.objs.size+4)) { s with heap:=h' }):wpAny ?r A (call (.type "zip") [.ref a,.ref b]) Q E s:=by
 refine callType_new F.called_zip (by decide) (F.typeCall_zip_2 _ _) (F.newCall_zip_2 _ _) (λobj=>F.args_object_init_3 obj _ _) F.entry_zip_new (qga k1 k2 a b xs ys) ⟨m,l,?_⟩;have z1:(zh1 k1 s.heap a).objs.size=s.heap.objs.size+1:=Qxv ..;have z2:(zh2 k1 k2 s.heap a b).objs.size=s.heap.objs.size+2:=by rw[Qxv,z1]
 have d:(zh3 k1 k2 s.heap a b).objs.size=s.heap.objs.size+3:=by rw[Qxv,z2]
 have g:(zh4 k1 k2 s.heap a b).objs.size=s.heap.objs.size+4:=by rw[Qxv,d]
 have f:(zh5 k1 k2 s.heap a b).get? (zh4 k1 k2 s.heap a b).objs.size=Y _:=Qqf _ rfl;have i:(zh5 k1 k2 s.heap a b).get? (zh3 k1 k2 s.heap a b).objs.size=Y _:=Qqx _ (Qqf _ rfl);have j:(zh5 k1 k2 s.heap a b).get? (zh2 k1 k2 s.heap a b).objs.size=Y _:=Qqx _ (Qqx _ (Qqf _ rfl));have k:k2.It (zh5 k1 k2 s.heap a b) (zh1 k1 s.heap a).objs.size b 0:=row_new.on λo e=>Qqx _ (Qqx _ (Qqx _ e));have n:k1.It (zh5 k1 k2 s.heap a b) s.heap.objs.size a 0:=row_new.on λo e=>Qqx _ (Qqx _ (Qqx _ (Qqx _ e)));rw[z2,d,g]at f;rw[z1,z2]at j;rw[d]at i;rw[z1]at k;rw[g];exact⟨⟨_,f,rfl⟩,h _ ⟨b1,b2,f,j,⟨_,_,i⟩,n,k⟩ λc o x=>Qqx _ (Qqx _ (Qqx _ (Qqx _ (Qqx _ x))))⟩
def RK.sq(k:RK)(K:Qqq)(H:Hp)(a:Y7)(xs:L V):Prop:=match k with
 |.lst=>SqL K H a xs
 |.tup=>SqT K H a xs
noncomputable def Itz(K:Qqq)(k1 k2:RK)(a b:Y7):It:=
 ⟨λi H=>∃xs ys x y,k1.sq K H a xs/\k2.sq K H b ys/\xs[i]?=Y x/\ys[i]?=Y y,
  λi H v H'=>∃p x y,v=.ref p/\H p=B/\H'=upd H p (.tup [x,y])/\(∀xs,k1.sq K H a xs->xs[i]?=Y x)/\∀ys,k2.sq K H b ys->ys[i]?=Y y,
  λi H=>∃xs ys,k1.sq K H a xs/\k2.sq K H b ys/\(xs.length<=i\/ys.length<=i)⟩
section
def qqu{k:RK}(I:Inv X pins σ H s)(q:k.sq X.K H a xs):∃b,Vals xs b/\k.Sq s.heap a b.toArray:=by
 cases k with
 |lst=>obtain⟨b,c,p,d⟩:=I.list q; exact⟨b,c,p.isList⟩
 |tup=>obtain⟨b,c,p,d⟩:=I.tuple q; exact⟨b,c,show s.heap.IsTuple a b.toArray from p⟩
def qvq{k:RK}(I:Inv X pins σ H s)(q:k.sq X.K H a xs)(b:k.sq X.K H a ys):xs=ys:=by
 cases k with
 |lst=>exact I.list_inj q b
 |tup=>exact I.tuple_inj q b
end
noncomputable def fpZ(n:Y0):L Y7:=[n+4,n+2,n+3,n,n+1]
def qge{K:Qqq}(k1 k2)(n a b):Turn P w K (.Tuple p c pos) (Itz K k1 k2 a b) (fpZ n) (n+4) (ZipAt k1 k2 n a b) where
 mem:=by simp[fpZ]
 obj:=λi h st e V=>by
  obtain⟨b1,b2,f,j,⟨x,y,g⟩,h1,h2⟩:=st;simp only[fpZ,Qqb,Qzi,or_false]at V;rcases V with rfl|rfl|rfl|rfl|rfl
  ·exact⟨_,f,λv z=>nomatch z⟩
  ·exact⟨_,j,λv z=>nomatch z⟩
  ·exact⟨_,g,λv z=>nomatch z⟩
  ·exact h1.obj
  ·exact h2.obj
 keep:=λi h h' st k=>by
  obtain⟨b1,b2,f,j,⟨x,y,g⟩,h1,h2⟩:=st;exact⟨b1,b2,k _ (by simp[fpZ]) _ f,k _ (by simp[fpZ]) _ j,⟨x,y,k _ (by simp[fpZ]) _ g⟩,h1.on λo e=>k _ (by simp[fpZ]) o e,h2.on λo e=>k _ (by simp[fpZ]) o e⟩
 item:=by
  intro X T N U hc i pins s σ H E I hf st S;subst T N U;obtain⟨xs,ys,x,y,t,r,ex,ey⟩:=S;obtain⟨b1,b2,f,j,⟨ua,ub,g⟩,h1,h2⟩:=st;obtain⟨vx,D,A⟩:=qqu I t;obtain⟨vy,C,u⟩:=qqu I r;obtain⟨u1,R,G⟩:=D.get ex;obtain⟨u2,Q,F⟩:=C.get ey;refine zip_get b1 b2 f j g h1 h2 A u (by simpa using R) (by simpa using Q) λh' a1 a2 a3 a4 a5 a6 kp=>⟨_,rfl,?_⟩
  refine wpAny_letOwnedTupleGo_zip a1 λW c1 c2=>?_;have d:=c2.extBut;have lt:∀b∈fpZ n,b≠s.heap.objs.size:=λb hb z=>by
   have q:b<s.heap.objs.size:=by
    simp only[fpZ,Qqb,Qzi,or_false]at hb;rcases hb with rfl|rfl|rfl|rfl|rfl
    ·exact Qqe f
    ·exact Qqe j
    ·exact Qqe g
    ·obtain⟨o,e,_⟩:=h1.obj; exact Qqe e
    ·obtain⟨o,e,_⟩:=h2.obj; exact Qqe e
   rw[z]at q;exact Qxj _ q
  have nz:s.heap.objs.size≠n+4:=λz=>lt (n+4) (by simp[fpZ]) z.symm;have I1:Inv X pins σ H { s with heap:=W,toks:=s.toks }:=Inv.turnedL I (λb o hb e=>d _ _ (λz=>hb (by simp[fpZ,z])) (kp b o (λz=>hb (by simp[fpZ,z])) (λz=>hb (by simp[fpZ,z])) (λz=>hb (by simp[fpZ,z])) (λz=>hb (by simp[fpZ,z])) e)) hf;have fr:=I.hok.fresh (Qqv _);have I2:Inv X pins σ (upd H s.heap.objs.size (.tup [x,y])) { s with heap:=W,toks:=s.toks }:=Inv.track I1 (I.fpOk (Qqv _) fr) ⟨by show 2<=sizeLine; decide,[u1,u2],.cons G (.cons F .nil),⟨_,d _ _ nz a6,rfl,_,rfl⟩⟩;refine⟨.ref s.heap.objs.size,upd H s.heap.objs.size (.tup [x,y]),I2,rfl,⟨_,x,y,rfl,fr,rfl,λzs l=>?_,λzs l=>?_⟩,⟨b1,b2,c1,d _ _ (by show @Ne Y0 _ _; lia) a2,⟨_,_,d _ _ (by show @Ne Y0 _ _; lia) a3⟩,a4.on λo e=>d _ o (by show @Ne Y0 _ _; lia) e,a5.on λo e=>d _ o (by show @Ne Y0 _ _; lia) e⟩,λb hb=>?_⟩
  ·rw[qvq I l t]; exact ex
  ·rw[qvq I l r]; exact ey
  ·rw[qzq (lt b hb)]; exact(hf b hb).1
 done:=by
  intro X T N U hc i pins s σ H E I hf st S;subst T N U;obtain⟨xs,ys,t,r,m⟩:=S;obtain⟨b1,b2,f,j,⟨ua,ub,g⟩,h1,h2⟩:=st;obtain⟨vx,D,A⟩:=qqu I t;obtain⟨vy,C,u⟩:=qqu I r;have lx:=D.length;have ly:=C.length;refine qgy (I.ok.hd hc) b1 b2 f j g h1 h2 A u ?_ λh' kp=>⟨rfl,Inv.turnedL I (λb o hb e=>kp b o (λz=>hb (by simp[fpZ,z])) (λz=>hb (by simp[fpZ,z])) (λz=>hb (by simp[fpZ,z])) (λz=>hb (by simp[fpZ,z])) e) hf⟩
  rcases m with h|h
  ·exact .inl (by simp; lia)
  ·exact .inr (by simp; lia)
 self:=λ_ _ _ _ _ st h=>wpAny_pyIter_zip st.2.2.1 h
noncomputable def iZip(K:Qqq)(ta:TA):TI:=λσ H R=>ta σ H λvs H1=>∃(k1 k2:RK) (a b:Y7),vs=[.ref a,.ref b]/\(∃xs,k1.sq K H1 a xs)/\(∃ys,k2.sq K H1 b ys)/\R (Itz K k1 k2 a b) H1
def pi_zip(A:Gl X "zip")(z:X.mg "zip" = B)(C:PA X [a,b] m)(hs:starEach [a,b] X.env=[(Y6,Qa a X.env),(Y6,Qa b X.env)]:=by rfl)(i:starEach [b] X.env=[(Y6,Qa b X.env)]:=by rfl):
  PI X (.Tuple j c f) (.Call (.Name "zip" p) [a,b] [] pos) (iZip X.K m):=by
 intro pins s σ H R I h;refine Call_ (qx3 I A z boot_zip (PyProof.Rows.callWith_type1 (thn (C pos pins s σ H _ I h) λF g ⟨vs,H1,k,r1,x⟩=>?_) (by rw[hs,i]) (by rw[i]; rfl)));obtain⟨k1,k2,a,b,e,⟨xs,w⟩,⟨ys,v⟩,q⟩:=x;subst e
 cases r1 with
 |cons r l=>
  cases l with
  |cons r' l=>
   cases l;cases r;cases r';obtain⟨E,K,t⟩:=qqu k w;obtain⟨D,G,n⟩:=qqu k v;have la:a<g.heap.objs.size:=by
    cases k1<;>(obtain⟨o,e,_⟩:=t; exact Qqe e)
   have y:b<g.heap.objs.size:=by
    cases k2<;>(obtain⟨o,e,_⟩:=n; exact Qqe e)
   refine qfl t n la y λh' st kp=>wpAny_pyIter_zip st.2.2.1 ?_;refine⟨g.heap.objs.size+4,fpZ g.heap.objs.size,_,_,H1,rfl,k.kept kp,qge k1 k2 _ a b,st,λd hd=>?_,q⟩;have u:g.heap.objs.size<=d:=by
    simp only[fpZ,Qqb,Qzi,or_false]at hd;rcases hd with rfl|rfl|rfl|rfl|rfl<;>(show @LE.le Y0 _ _ _; lia)
   exact k.fpOk u (k.hok.fresh u)
section
end
inductive EntOk (prm:Qp):L Q1->L Y5->L Y8->Prop
 |nil:EntOk prm [] [] []
 |cons {k:Y5}{t:Tok}{u:Y8}{es:L Q1}{ks:L Y5}{us:L Y8}(h:EntOk prm es ks us):EntOk prm (⟨PyData.keyHash prm k,.str k t,u⟩::es) (k::ks) (u::us)
structure FDict (prm:Qp) (K:Qqq) (a:Y7) (ks:L Y5) (ds:L M.D):Prop where
 ex:∃(us:L Y8) (vs:L V) (es:Array Q1) (ep:Y0),K.lookup a=Y { cls:=.type "dict",data:=.dict es ep }/\EntOk prm es.toList ks us/\Vals vs us/\∀m H,IsDs K m H ds vs
 nd:ks.Nodup
 ne:(a==Qn)=Y6
noncomputable def kzip{α:Type}(ks:L Y5)(us:L α):L (Key×α):=(ks.map λk=>(Sum.inr k:Key)).zip us
theorem qa4:∀{es}{ks}{us},EntOk w.params es ks us->(∀e∈es,∃k,(mixKind P w).is k e.key=O/\e.hash=(mixKind P w).hash k)/\PySem.Pairs (mixKind P w) es (kzip ks us)/\(kzip ks us).map (·.1)=ks.map λk=>(Sum.inr k:Key)
 |_,_,_,.nil=>⟨(λe h=>nomatch h),.nil,rfl⟩
 |_,_,_,.cons (k:=k) (t:=t) h=>by
  obtain⟨h1,h2,b⟩:=qa4 h;refine⟨λe a=>?_,?_,?_⟩
  ·rcases Qqb.mp a with q|q
   ·subst q;exact⟨.inr k,qq4 P w k t,rfl⟩
   ·exact h1 e q
  ·exact .cons (qq4 P w k t) rfl h2
  ·exact congrArg (List.cons (Sum.inr k:Key)) b
def qe6(I:Inv X b f H s)(h:FDict X.w.params X.K a ks ds):
  ∃(us:L Y8) (vs:L V),s.heap.DictOf (mixKind X.prog X.w) a (kzip ks us)/\Vals vs us/\(∀m H,IsDs X.K m H ds vs)/\ks.length=us.length:=by
 obtain⟨us,vs,es,l,p,d,o,n⟩:=h.ex;obtain⟨h1,h2,k⟩:=qa4 d;refine⟨us,vs,⟨_,es,l,I.kIn a _ p,⟨rfl,rfl,rfl⟩,rfl,λe j=>h1 e (by simpa using j),h2,?_⟩,o,n,?_⟩
 ·rw[k];exact(List.pairwise_map.mpr (h.nd.imp λc i=>c (Sum.inr.inj i)))
 ·have:∀{es:L Q1}{ks:L Y5}{us:L Y8},EntOk X.w.params es ks us->ks.length=us.length:=by
   intro es ks us q
   induction q with
   |nil=>rfl
   |cons _ g=>rw[Qqh,Qqh,g]
  exact this d
theorem qok(z):∀(ks:L Y5) (us:L α),((kzip ks us).find? λp=>decide (p.1=Sum.inr z)).map (·.2)=((ks.zip us).find? λq=>q.1==z).map (·.2)
 |[],us=>rfl
 |k::ks,[]=>rfl
 |k::ks,u::us=>by
  have a:=qok z ks us;show((((Sum.inr k:Key),u)::kzip ks us).find? λp=>decide (p.1=Sum.inr z)).map (·.2)=(((k,u)::ks.zip us).find? λq=>q.1==z).map (·.2);rw[Qzq,Qzq]
  by_cases h:k=z
  ·have h1:decide ((Sum.inr k:Key)=Sum.inr z)=true:=by rw[h]; simp
   have h2:(k==z)=true:=by rw[h]; simp
   simp only[h1,h2]
   rfl
  ·have h1:decide ((Sum.inr k:Key)=Sum.inr z)=false:=Z4 λq=>h (Sum.inr.inj q);have h2:(k==z)=false:=by simpa using h
   simp only[h1,h2];exact a
theorem qeu{K:Qqq}(z):∀{ks:L Y5}{ds:L M.D}{vs:L V}{us:L Y8},(∀m H,IsDs K m H ds vs)->Vals vs us->ks.length=us.length->
  (((ks.zip ds).find? λq=>q.1==z)=B/\((ks.zip us).find? λq=>q.1==z)=B/\ks.contains z=Y6)\/∃k d v u,((ks.zip ds).find? λq=>q.1==z)=Y (k,d)/\((ks.zip us).find? λq=>q.1==z)=Y (k,u)/\(∀m H,MS.IsD K m H d v)/\RelV v u/\ks.contains z=O
 |[],ds,vs,us,i,r,h=>.inl ⟨rfl,rfl,rfl⟩
 |k::ks,[],vs,us,i,r,h=>by
  rw[(i [] λ_=>B).nil]at r;cases r;cases h
 |k::ks,d::ds,vs,us,i,r,h=>by
  obtain⟨v,vr,e,_,_⟩:=(i [] λ_=>B).cons;subst e;have i1:∀m H,MS.IsD K m H d v:=λm H=>by
   obtain⟨b,a,e,q,_⟩:=(i m H).cons;cases e;exact q
  have i2:∀m H,IsDs K m H ds vr:=λm H=>by
   obtain⟨b,a,e,_,q⟩:=(i m H).cons;cases e;exact q
  cases r with
  |cons r1 r2=>
   rename_i u us
   by_cases hk:k=z
   ·subst hk;refine .inr ⟨k,d,v,u,by simp,by simp,i1,r1,by simp⟩
   ·have h2:(k==z)=false:=by simpa using hk
    have f:(z==k)=false:=by simpa using Ne.symm hk
    have c:=qeu z i2 r2 (by simpa using h);rw[List.zip_cons_cons,List.zip_cons_cons,Qzq,Qzq,List.contains_cons];simp only[h2,f];exact c
section
def qne(C:Gl X x)(A:X.mg x=Y (.ref a))(E:FDict X.w.params X.K a ks ds)(hd:?W=Y6)(hb:PE X b tb)(hs:NoSl b):
  PE X (.Subscript (.Name x p0) b pos) (λσ H Q=>tb σ H λy H2=>∃z d,y=.str z/\(∃k,((ks.zip ds).find? λq=>q.1==z)=Y (k,d))/\∀v,(∀m,MS.IsD X.K m H2 d v)->Q v H2):=by
 intro pins s σ H Q I h;refine qcu PySem.F.slot_dict_getitem.lookup hs (thn (qw9 C A (show RelV (.ref a) (.ref a) from rfl) hd pins s σ H (λx H1=>x=.ref a/\tb σ H1 _) I ⟨rfl,h⟩) λu j ⟨S,H1,R,n,ex,r⟩=>?_);subst ex;cases n;refine thn (hb pins j σ H1 _ R r) λU T ⟨y,H2,g,l,z,d,P,⟨k,c⟩,p⟩=>?_;subst P;obtain⟨i,vs,f,o,D,hl⟩:=qe6 g E;refine⟨f.typeIs,?_⟩;rcases qeu z D o hl with⟨t,_,_⟩|⟨k',V,e,u',N,K,G,F,_⟩
 ·rw[t]at c; cases c
 ·rw[N]at c;cases c;have w:valueAt (kzip ks i) (Sum.inr z)=Y u':=by
   unfold valueAt;rw[qok,K]
   rfl
  exact wpAny_getItem_of (qjz (k:=.inr z) l) f.mapOf w ⟨e,H2,g.tok _,F,p e λm=>G m H2⟩
def gd_has(I:Inv X c e H s)(j:FDict X.w.params X.K a ks ds)(z):
  ∃d,s.heap.DictOf (mixKind X.prog X.w) a (kzip ks d)/\(valueAt (kzip ks d) (Sum.inr z)).isSome=ks.contains z:=by
 obtain⟨d,vs,m,f,i,hl⟩:=qe6 I j;refine⟨d,m,?_⟩;unfold valueAt;rw[qok];rcases qeu z i f hl with⟨_,h,g⟩|⟨k',t,n,o,r,l,q,p,k⟩
 ·rw[h,g]; rfl
 ·rw[l,k]; rfl
def pc_gin(neg)(n:Gl X x)(m:X.mg x=Y (.ref a))(c:FDict X.w.params X.K a ks ds)(hd:?W=Y6)(hb:PE X b tb):
  PC X (if neg then .NotIn else .In) b (.Name x p0) (λσ H Q=>tb σ H λy H2=>∃z,y=.str z/\Q (.bl (ks.contains z != neg)) H2):=by
 intro pins s σ H Q I h;refine thn (hb pins s σ H _ I h) λv i ⟨y,H1,p,e,z,o,l⟩=>?_;subst o;refine thn (qw9 n m (show RelV (.ref a) (.ref a) from rfl) hd pins i σ H1 (λx H2=>x=.ref a/\Q (.bl (ks.contains z != neg)) H2) p ⟨rfl,l⟩) λu t ⟨q,H2,d,j,ex,f⟩=>?_;subst ex;cases j;obtain⟨r,g,hs⟩:=gd_has d c z
 cases neg with
 |false=>
  refine wpAny_in_of (qjz (k:=.inr z) e) c.ne g.mapOf ?_;rw[hs];refine⟨.bl _,H2,d.tok _,rfl,?_⟩;simpa using f
 |true=>
  refine wpAny_notIn_of (qjz (k:=.inr z) e) c.ne g.mapOf ?_;rw[hs];refine⟨.bl _,H2,d.tok _,rfl,?_⟩;simpa using f
open M (D Ya Y2 Sl)
def qdr(neg)(i:Gl X x)(g:X.mg x=Y (.ref a))(j:FDict X.w.params X.K a ks ds)(hd:?W=Y6)(hb:PE X b (tD X.K c)):
  PC X (if neg then .NotIn else .In) b (.Name x p0) (tD X.K λτ st=>(c τ st).bind λp=>match p.1 with
   |.str z=>Y (.bl (ks.contains z != neg),p.2)
   |_=>B):=by
 intro pins s σ H Q I h;refine pc_gin neg i g j hd hb pins s σ H Q I ?_;refine h.el λm st τ d st' o S0 e q=>qzj e λl r k e=>rsI o S0 k λy m1 H1 b1 f n i1=>?_
 cases l with
 |str z=>
  have q:=q.of e;exact⟨z,i1.str,q _ m1 H1 b1 f n (mkBl _)⟩
 |_=>exact nn e
def qhd(i:Gl X x)(g:X.mg x=Y (.ref a))(j:FDict X.w.params X.K a ks ds)(hd:?W=Y6)(hb:PE X b (tD X.K c))(hs:NoSl b):
  PE X (.Subscript (.Name x p0) b pos) (tD X.K λτ st=>(c τ st).bind λp=>match p.1 with
   |.str z=>((ks.zip ds).find? λq=>q.1==z).map λq=>(q.2,p.2)
   |_=>B):=by
 refine(qne i g j hd hb hs).imp λσ H Q h=>h.el λm st τ d st' s S0 e q=>qzj e λo t n e=>rsI s S0 n λy m1 H1 b1 f r i1=>?_
 cases o with
 |str z=>
  refine qzg e λw l k=>?_;cases k;exact⟨z,w.2,i1.str,⟨w.1,l⟩,λv hv=>q _ m1 H1 b1 f r (hv m1)⟩
 |_=>exact nn e
def qyh{K:Qqq}(hk:M.isKey e=O)(f:IsKV K m H kvs xs)(i:Rd H a (.dK xs))(g:MS.IsD K m H e y):
  ∃o,DGet H a y o/\((M.dget kvs e=B/\o=B)\/∃d v,M.dget kvs e=Y d/\o=Y v/\MS.IsD K m H d v):=by
 obtain⟨k,c⟩:=qqo hk;have h:=qh2 c g;subst h;refine⟨valV xs k,.inl ⟨xs,k,i,rfl,rfl⟩,?_⟩;rcases f.get c with⟨h1,h2⟩|⟨d,v,h1,h2,j⟩
 ·exact .inl ⟨h1,h2⟩
 ·exact .inr ⟨d,v,h1,h2,j⟩
def qdt(r:X.A.units+1<cLine)(neg)(t:PE X a (tD X.K i))(hb:PE X b (tD X.K f)):
  PC X (if neg then .NotIn else .In) a b (tD X.K λτ st=>(i τ st).bind λp=>(f τ p.2).bind λq=>match q.1 with
   |.loc l=>(M.dicAt q.2 l).bind λkvs=>if M.isKey p.1 then Y (.bl ((M.dget kvs p.1).isSome != neg),q.2) else B
   |_=>B):=by
 have c:∀{σ:L2.St}{H:Hp}{Q:VK},tD X.K (λτ st=>(i τ st).bind λp=>(f τ p.2).bind λq=>match q.1 with
   |.loc l=>(M.dicAt q.2 l).bind λkvs=>if M.isKey p.1 then Y (.bl ((M.dget kvs p.1).isSome != neg),q.2) else B
   |_=>B) σ H Q->tD X.K i σ H λy H1=>tD X.K f σ H1 λx H2=>∃a o,x=.ref a/\DGet H2 a y o/\Q (.bl (o.isSome != neg)) H2:=by
  intro σ H Q h;refine h.el λm st τ d st' S S0 e q=>qzj e λN U G e=>qzj e λK T F e=>rsI S S0 G λy m1 H1 b1 n R i1=>rsI R (S0.mono b1 n) F λz u H2 b2 k R2 i2=>?_
  cases K with
  |loc l=>
   refine qzx e λkvs E e=>?_
   split at e
   ·rename_i hk;have q:=q.of e;obtain⟨P,xs,_,rfl,A,j⟩:=R2.dict E i2;obtain⟨o,g,w⟩:=qyh hk j A (qzk b2 k _ _ i1);refine⟨P,o,rfl,g,?_⟩;have C:o.isSome=(M.dget kvs N).isSome:=by
     rcases w with⟨h1,h2⟩|⟨d,v,h1,h2,_⟩
     ·rw[h1,h2]; rfl
     ·rw[h1,h2]; rfl
    rw[C];exact q _ u H2 (b1.trans b2) (n.trans k) R2 (mkBl _)
   ·exact nn e
  |_=>exact nn e
 cases neg with
 |false=>
  intro pins s σ H Q I h;refine pc_din r t hb pins s σ H Q I ?_;have:=c h;simpa only[tDIn,Bool.bne_false] using this
 |true=>
  intro pins s σ H Q I h;refine qds r t hb pins s σ H Q I ?_;have:=c h;simpa only[qcs,Bool.bne_true] using this
def qhg(s:X.A.units+1<cLine)(u:PE X a (tD X.K n))(hb:PE X b (tD X.K k))(hs:NoSl b):
  PE X (.Subscript a b pos) (tD X.K λτ st=>(n τ st).bind λp=>(k τ p.2).bind λq=>match p.1 with
   |.loc l=>(M.dicAt q.2 l).bind λkvs=>if M.isKey q.1 then(M.dget kvs q.1).map λd=>(d,q.2) else B
   |_=>B):=by
 refine(qnh s u hb hs).imp λσ H Q h=>h.el λm st τ d st' R S0 e q=>qzj e λK T I e=>qzj e λU S G e=>rsI R S0 I λy m1 H1 b1 j P i1=>rsI P (S0.mono b1 j) G λz r H2 b2 i R2 i2=>?_
 cases K with
 |loc l=>
  refine qzx e λkvs F e=>?_
  split at e
  ·rename_i hk;refine qzg e λw c E=>?_;cases E;obtain⟨N,xs,_,rfl,A,f⟩:=R2.dict F (qzk b2 i _ _ i1);obtain⟨o,g,t⟩:=qyh hk f A i2;rcases t with⟨h1,h2⟩|⟨d,v,h1,h2,C⟩
   ·rw[h1]at c; cases c
   ·rw[h1]at c;cases c;subst h2;exact⟨N,v,rfl,g,q _ r H2 (b1.trans b2) (j.trans i) R2 C⟩
  ·exact nn e
 |_=>exact nn e
def qng(C:X.A.units+1<cLine)(I:PE X a (tD X.K t))(hb:PE X b (tD X.K s))(E:M1 X a "get" f b c):
  PE X (.Call (.Attribute a "get" f) [b] [] c) (tD X.K λτ st=>(t τ st).bind λp=>match p.1 with
   |.loc l=>(M.dicAt p.2 l).bind λ_=>(s τ p.2).bind λq=>(M.dicAt q.2 l).bind λkvs=>if M.isKey q.1 then Y ((M.dget kvs q.1).getD .non,q.2) else B
   |_=>B):=by
 refine(qhh C I hb E).imp λσ H Q h=>h.el λm st τ d st' R0 S0 e q=>qzj e λV s1 T e=>rsI R0 S0 T λy m1 H1 b1 j u i1=>?_
 cases V with
 |loc l=>
  refine qzx e λA U e=>qzj e λd2 s2 S e=>qzx e λkvs R e=>?_
  split at e
  ·rename_i hk;have q:=q.of e;obtain⟨W,w,G,rfl,n,_⟩:=u.dict U i1;refine⟨W,rfl,.inl ⟨_,n⟩,rsI u (S0.mono b1 j) S λz r H2 b2 i R2 i2=>?_⟩;obtain⟨a',xs,_,P,K,k⟩:=R2.dict R (qzk b2 i _ _ i1);cases P;obtain⟨o,g,F⟩:=qyh hk k K i2;refine⟨o,g,?_⟩;rcases F with⟨h1,h2⟩|⟨d,v,h1,h2,N⟩
   ·rw[h1]at q;subst h2;exact q _ r H2 (b1.trans b2) (j.trans i) R2 qvj
   ·rw[h1]at q;subst h2;exact q _ r H2 (b1.trans b2) (j.trans i) R2 N
  ·exact nn e
 |_=>exact nn e
def qhe(N:PE X a (tD X.K A))(hb:PE X b (tD X.K w))(I:M1 X a "pop" f b c):
  PE X (.Call (.Attribute a "pop" f) [b] [] c) (tD X.K λτ st=>(A τ st).bind λp=>match p.1 with
   |.loc l=>(M.dicAt p.2 l).bind λ_=>(w τ p.2).bind λq=>(M.wdicAt q.2 l).bind λkvs=>if M.isKey q.1 then(M.dget kvs q.1).map λd=>(d,q.2.set l (.dic O (M.ddrop kvs q.1))) else B
   |_=>B):=by
 refine(qhf N hb I).imp λσ H Q h=>h.el λm st τ d st' R0 S0 e q=>qzj e λd1 s1 V e=>rsI R0 S0 V λy m1 H1 b1 t C i1=>?_
 cases d1 with
 |loc l=>
  refine qzx e λF W e=>qzj e λd2 s2 U e=>qzx e λkvs T e=>?_
  split at e
  ·rename_i hk;obtain⟨v0,n,S⟩:=mapD e;have q:=q.of (congrArg Y S);obtain⟨a0,E,K,rfl,r,_⟩:=C.dict W i1;refine⟨a0,rfl,.inl ⟨_,r⟩,rsI C (S0.mono b1 t) U λz u H2 b2 s R2 i2=>?_⟩;obtain⟨a',xs,o,R,j,i,hst⟩:=R2.wdict T (qzk b2 s _ _ i1);cases R;obtain⟨k,g⟩:=qqo hk;have G:=qh2 g i2;subst G;rcases i.get g with⟨h1,_⟩|⟨dd,v,h1,h2,P⟩
   ·rw[h1]at n; cases n
   ·rw[h1]at n;cases n;refine⟨xs,k,v,j,rfl,h2,q _ u _ (b1.trans b2) (t.trans (s.trans (Tr.putD j))) (R2.putD hst o j (i.drop g)) (qzk (Sub.refl u) (Tr.putD j) _ _ P)⟩
  ·exact nn e
 |_=>exact nn e
end
section
end
section
open M (D Ya Y2 Sl)
end
end MS
end
section
namespace MS
open PySem PySem.Spec PyProof.Rows L2
open M (D Ya Y2 Sl)
section
variable {K:Qqq}{m m1:L Y7}{H1:Hp}
mutual
theorem qel:∀(d:D) (v:V),M.noLoc d=O->MS.IsD K m1 H1 d v->MS.IsD K m H1 d v
 |.non,_,_,h=>by rw[h.non]; exact qvj
 |.bl _,_,_,h=>by rw[h.bl]; exact mkBl _
 |.int _,_,_,h=>by rw[h.int]; exact mkInt _
 |.str _,_,_,h=>by rw[h.str]; exact mkStr _
 |.tup ds,_,n,h=>by
  obtain⟨a,xs,rfl,q,r⟩:=h.tup;unfold M.noLoc at n;exact qq3 q (qj5 ds xs n r)
 |.lst ds,_,n,h=>by
  obtain⟨a,xs,rfl,q,r⟩:=h.lst;unfold M.noLoc at n;exact qbr q (qj5 ds xs n r)
 |.loc l,_,n,h=>by unfold M.noLoc at n; cases n
theorem qj5:∀(ds:L D) (xs:L V),M.noLocs ds=O->IsDs K m1 H1 ds xs->IsDs K m H1 ds xs
 |[],_,_,h=>by rw[h.nil]; exact qqk
 |d::ds,_,n,h=>by
  obtain⟨x,r,rfl,q,t⟩:=h.cons;unfold M.noLocs at n;rw[Qq2]at n;exact qzo (qel d x n.1 q) (qj5 ds r n.2 t)
end
mutual
theorem qjw(s:Sub m m1):∀(d:D) (v g:V),MS.IsD K m H d v->MS.IsD K m1 H1 d g->MS.IsD K m H1 d g
 |.non,_,_,_,h=>by rw[h.non]; exact qvj
 |.bl _,_,_,_,h=>by rw[h.bl]; exact mkBl _
 |.int _,_,_,_,h=>by rw[h.int]; exact mkInt _
 |.str _,_,_,_,h=>by rw[h.str]; exact mkStr _
 |.tup ds,_,_,h0,h=>by
  obtain⟨a,xs,rfl,q,r⟩:=h.tup;obtain⟨f,b,_,_,c⟩:=h0.tup;exact qq3 q (qqp s ds b xs c r)
 |.lst ds,_,_,h0,h=>by
  obtain⟨a,xs,rfl,q,r⟩:=h.lst;obtain⟨f,b,_,_,c⟩:=h0.lst;exact qbr q (qqp s ds b xs c r)
 |.loc l,_,_,h0,h=>by
  obtain⟨f,i,_⟩:=h0.loc;obtain⟨a,e,rfl⟩:=h.loc;have:=s l f i;rw[e]at this;cases this;exact qhs i
theorem qqp(s:Sub m m1):∀(ds:L D) (xs a:L V),IsDs K m H ds xs->IsDs K m1 H1 ds a->IsDs K m H1 ds a
 |[],_,_,_,h=>by rw[h.nil]; exact qqk
 |d::ds,_,_,h0,h=>by
  obtain⟨x,r,rfl,q,t⟩:=h.cons;obtain⟨b,e,rfl,q0,c⟩:=h0.cons;exact qzo (qjw s d b x q0 q) (qqp s ds e r c t)
end
theorem qj3(s:Sub m m1):∀(kvs:L (D×D)) (xs a:L (Key×V)),IsKV K m H kvs xs->IsKV K m1 H1 kvs a->IsKV K m H1 kvs a
 |[],_,_,_,h=>h
 |p::r,_,_,⟨i,v0,d,j,g,b,c⟩,⟨k,v,f,e,hk,hv,hr⟩=>⟨k,v,f,e,hk,qjw s _ _ _ b hv,qj3 s r _ _ c hr⟩
theorem qww(s:Sub m m1):∀(fs:L (Y5×D)) (ys a:L (Y5×V)),IsFs K m H fs ys->IsFs K m1 H1 fs a->IsFs K m H1 fs a
 |[],_,_,_,h=>h
 |p::r,_,_,⟨v0,d,g,b,c⟩,⟨v,f,e,hv,hr⟩=>⟨v,f,e,qjw s _ _ _ b hv,qww s r _ _ c hr⟩
def qh3(s:Sub m m1)(d:IsC K m H c a)(h:IsC K m1 H1 c a):IsC K m H1 c a:=by
 cases c with
 |lst w ds=>
  cases w with
  |true=>
   obtain⟨xs,e,q⟩:=h;obtain⟨b,_,q0⟩:=d;exact⟨xs,e,qqp s _ _ _ q0 q⟩
  |false=>
   obtain⟨xs,e,q⟩:=h;obtain⟨b,_,q0⟩:=d;exact⟨xs,e,qqp s _ _ _ q0 q⟩
 |dic w kvs=>
  cases w with
  |true=>
   obtain⟨xs,e,q⟩:=h;obtain⟨b,_,q0⟩:=d;exact⟨xs,e,qj3 s _ _ _ q0 q⟩
  |false=>
   obtain⟨o,xs,e,q⟩:=h;obtain⟨_,b,_,q0⟩:=d;exact⟨o,xs,e,qj3 s _ _ _ q0 q⟩
 |obj C fs=>
  obtain⟨dx,ys,e,q⟩:=h;obtain⟨_,f,_,q0⟩:=d;exact⟨dx,ys,e,qww s _ _ _ q0 q⟩
def pre_at{st a:Y2}(h:a.take st.length=st){l:Y0}(e:st[l]?=Y c):a[l]?=Y c:=by
 have hl:=(Qqk.mp e).1;rw[<- h,Qx1,Z6 hl]at e;exact e
def Rel.cutBack{st:Y2}(f:Rel K m st H)(i:Rel K m1 b H1)(s:Sub m m1)(h:b.take st.length=st)(t:Tr H1 H2)(g:∀(l:Y0) (c:Ya) (a:Y7),st[l]?=Y c->m[l]?=Y a->Wr c=O->H2 a=H1 a):Rel K m st H2:=
 ⟨f.len,f.nd,λl c a e d=>qxy ?M t (qh3 s (f.cell l c a e d) (i.cell l c a (pre_at h e) (s l a d))) λw=>g l c a e d w⟩
mutual
theorem qyd(s:Sub m m1):∀(d:D) (v:V),M.lt m.length d=O->IsD K m1 H d v->IsD K m H d v
 |.non,_,_,h=>h
 |.bl _,_,_,h=>h
 |.int _,_,_,h=>h
 |.str _,_,_,h=>h
 |.tup ds,_,hl,h=>by
  unfold M.lt at hl;obtain⟨a,xs,rfl,q,r⟩:=h.tup;exact qq3 q (qxk s ds xs hl r)
 |.lst ds,_,hl,h=>by
  unfold M.lt at hl;obtain⟨a,xs,rfl,q,r⟩:=h.lst;exact qbr q (qxk s ds xs hl r)
 |.loc l,_,hl,h=>by
  unfold M.lt at hl;obtain⟨a,e,rfl⟩:=h.loc;have hl:l<m.length:=by simpa[Nat.blt_eq] using hl
  have c:m[l]?=Y m[l]:=by simp
  have b:=s l _ c;rw[e]at b;cases b;exact qhs c
theorem qxk(s:Sub m m1):∀(ds:L D) (xs:L V),M.lts m.length ds=O->IsDs K m1 H ds xs->IsDs K m H ds xs
 |[],_,_,h=>h
 |d::ds,_,hl,h=>by
  unfold M.lts at hl;rw[Qq2]at hl;obtain⟨x,r,rfl,q,t⟩:=h.cons;exact qzo (qyd s d x hl.1 q) (qxk s ds r hl.2 t)
end
theorem qvy(s:Sub m m1):∀(kvs:L (D×D)) (xs:L (Key×V)),(kvs.all λp=>M.lt m.length p.2)=O->IsKV K m1 H kvs xs->IsKV K m H kvs xs
 |[],_,_,h=>h
 |p::r,_,hl,⟨k,v,a,e,hk,hv,hr⟩=>by
  rw[Qz7,Qq2]at hl;exact⟨k,v,a,e,hk,qyd s _ _ hl.1 hv,qvy s r a hl.2 hr⟩
theorem qan(s:Sub m m1):∀(fs:L (Y5×D)) (ys:L (Y5×V)),(fs.all λp=>M.lt m.length p.2)=O->IsFs K m1 H fs ys->IsFs K m H fs ys
 |[],_,_,h=>h
 |p::r,_,hl,⟨v,a,e,hv,hr⟩=>by
  rw[Qz7,Qq2]at hl;exact⟨v,a,e,qyd s _ _ hl.1 hv,qan s r a hl.2 hr⟩
def qog(s:Sub m m1)(hl:M.ltC m.length c=O)(h:IsC K m1 H c a):IsC K m H c a:=by
 cases c with
 |lst w ds=>
  cases w with
  |true=>obtain⟨xs,e,q⟩:=h; exact⟨xs,e,qxk s _ _ hl q⟩
  |false=>obtain⟨xs,e,q⟩:=h; exact⟨xs,e,qxk s _ _ hl q⟩
 |dic w kvs=>
  cases w with
  |true=>obtain⟨xs,e,q⟩:=h; exact⟨xs,e,qvy s _ _ hl q⟩
  |false=>obtain⟨o,xs,e,q⟩:=h; exact⟨o,xs,e,qvy s _ _ hl q⟩
 |obj C fs=>obtain⟨dx,ys,e,q⟩:=h; exact⟨dx,ys,e,qan s _ _ hl q⟩
def GcOk(st st0:Y2):Prop:=(st0.take st.length).all (M.ltC st.length)=O\/st0.take st.length=st
def gc_el{st:Y2}(e:M.gcD st p=q):p=q\/(GcOk st p.2/\M.gcX st.length p=q):=by
 unfold M.gcD at e
 split at e
 ·rename_i h; exact .inr ⟨.inl h,e⟩
 ·split at e
  ·rename_i h; exact .inr ⟨.inr h,e⟩
  ·exact .inl e
def qje{a:Y2}(e:(a.take n)[l]?=Y c):l<n/\a[l]?=Y c:=by
 rw[Qx1]at e
 split at e
 ·rename_i h; exact⟨h,e⟩
 ·exact nn e
def Rel.cut{st:Y2}(j:Rel K m st H)(f:Rel K m1 b H1)(s:Sub m m1)(h:GcOk st b)(t:Tr H1 H2)(i:∀(l:Y0) (c:Ya) (a:Y7),(b.take st.length)[l]?=Y c->m[l]?=Y a->Wr c=O->H2 a=H1 a):Rel K m (b.take st.length) H2:=by
 rcases h with h|h
 ·have o:=j.len;have p:m.length<=m1.length:=by
   rcases Qxx m1.length m.length with z|z
   ·have g:m[m1.length]?=Y (m[m1.length]'z):=by simp
    have:=(Qqk.mp (s _ _ g)).1
    lia
   ·exact z
  have h1:=f.len;refine⟨by rw[Qq9]; lia,λl n a c v u g r q w k=>f.nd l n a c v (s _ _ u) (s _ _ g) (qje r).2 (qje q).2 w k,λl c a e d=>?_⟩;refine qxy ?M t (qog s ?_ (f.cell l c a (qje e).2 (s l a d))) λw=>i l c a e d w;have:=Qzc.mp h c (Qqi e);rw[o]; exact this
 ·rw[h];exact j.cutBack f s h t λl c a e d w=>i l c a (by rw[h]; exact e) d w
end
section
def qkp(I:Inv X d g H s)(h:H a=Y (.lst xs)):∃o,Inv X d g (upd H a (.frz o (.lst xs))) s:=by
 obtain⟨z,f,n,r,e⟩:=id (I.hok a _ h);refine⟨{ cls:=.type "list",data:=.seq f.toArray n },I.un ⟨λb o q _ _ _=>q,λb o q _ _ _=>⟨o.slots,q⟩,λb o q hn _=>?_,λb o q _=>⟨o,q⟩,λb ys q=>?_,λb o u q=>?_,λb ps q=>⟨#[],?_⟩⟩ ?_⟩
 ·rw[qzq (λz=>by subst z; rw[h]at hn; cases hn)];exact hn
 ·rw[qzq (qzt q h (by intro z; cases z))]; exact q
 ·rw[qzq (qzt q h (by intro z; cases z))]; exact q
 ·rw[qzq (qzt q h (by intro z; cases z)),q]; simp
 ·intro b u q
  by_cases hb:b=a
  ·subst hb;rw[qzw]at q;cases q;exact⟨e,z,f,n,r,e⟩
  ·rw[qzq hb]at q;refine(I.hok b u q).stay (λc v _ w=>w) (λc w=>?_) λc ys w=>?_
   ·rw[qzq (qzt w h (by intro z; cases z))]; exact w
   ·rw[qzq (qzt w h (by intro z; cases z))]; exact w
inductive Di:HO->Prop
 |k (xs:L (Key×V)):Di (.dK xs)
 |t (xs:L (L Key×V)):Di (.dT xs)
def Di.ne(h:Di u):(∀ys,HO.tup ys≠u)/\(∀o v,HO.frz o v≠u)/\(∀p,HO.own p≠u)/\∀ps,HO.tbl ps≠u:=by
 cases h<;>exact⟨λ_ z=>(by cases z),λ_ _ z=>(by cases z),λ_ z=>(by cases z),λ_ z=>(by cases z)⟩
def qoh(i:Di u)(I:Inv X d f H s)(h:H a=Y u):∃o,s.heap.get? a=Y o/\Inv X d f (upd H a (.frz o u)) s:=by
 obtain⟨g,m,l,j⟩:=i.ne;have ok:=I.hok a _ h;obtain⟨o,e⟩:∃o,s.heap.get? a=Y o:=by
  cases i<;>(obtain⟨_,_,vs,_,o,es,n,e,_⟩:=ok; exact⟨o,e⟩)
 have st:∀{b:Y7}{v:HO},ObjOk X.prog X.w H s.heap b v->ObjOk X.prog X.w (upd H a (.frz o u)) s.heap b v:=λk=>k.stay (λc v _ w=>w) (λc w=>by rw[qzq (qzt w h (l _))]; exact w) λc ys w=>by rw[qzq (qzt w h (g _))]; exact w
 refine⟨o,e,I.un ⟨λb o q _ _ _=>q,λb o q _ _ _=>⟨o.slots,q⟩,λb o q hn _=>?_,λb o q _=>⟨o,q⟩,λb ys q=>?_,λb o u q=>?_,λb ps q=>⟨#[],?_⟩⟩ ?_⟩
 ·rw[qzq (λz=>by subst z; rw[h]at hn; cases hn)];exact hn
 ·rw[qzq (qzt q h (g _))]; exact q
 ·rw[qzq (qzt q h (m _ _))]; exact q
 ·rw[qzq (qzt q h (j _)),q]; simp
 ·intro b u q
  by_cases hb:b=a
  ·subst hb;rw[qzw]at q;cases q;exact⟨e,st ok⟩
  ·rw[qzq hb]at q;exact st (I.hok b u q)
def NoFz(X:Cx)(a:Y7):Prop:=∀o u,X.H₀ a≠Y (.frz o u)
def qn5(d:Di u)(I:Inv X b c H s)(h:H a=Y u):NoFz X a:=λo v z=>by
 have:=I.base.frzs a o v z;rw[h]at this;exact absurd (Option.some.inj this).symm (d.ne.2.1 o v)
def qap(I:Inv X e f H s)(i:NoFz X a)(h:H a=Y (.frz o u)):Inv X e f (upd H a u) s:=by
 have ok:=I.hok a _ h;have d:∀{b:Y7},H b=B->(upd H a u) b=none:=λ{b} q=>by
  rw[qzq (λz=>by subst z; rw[h]at q; cases q)];exact q
 have st:∀{b:Y7}{v:HO},ObjOk X.prog X.w H s.heap b v->ObjOk X.prog X.w (upd H a u) s.heap b v:=λk=>k.stay (λc v _ w=>w) (λc w=>by rw[qzq (qzt w h (by intro z; cases z))]; exact w) λc ys w=>by rw[qzq (qzt w h (by intro z; cases z))]; exact w
 refine⟨I.ok,I.os,I.bare,⟨I.base.keep,I.base.slot,λb o q hn j=>d (I.base.free b o q hn j),I.base.there,λb ys q=>?_,λb o u q=>?_,λb ps q=>?_⟩,I.loc,I.cell,d I.free,λx c q=>d (I.freeC x c q),λp l=>?_,?_,I.len⟩
 ·have:=I.base.tups b ys q;rw[qzq (qzt this h (by intro z; cases z))]; exact this
 ·have:=I.base.frzs b o u q
  by_cases hb:b=a
  ·subst hb; exact absurd q (i o u)
  ·rw[qzq hb]; exact this
 ·obtain⟨more,this⟩:=I.base.tbls b ps q;exact⟨more,by rw[qzq (qzt this h (by intro z; cases z))]; exact this⟩
 ·obtain⟨p1,p2,g⟩:=I.pin p l;exact⟨p1,d p2,g⟩
 ·intro b u q
  by_cases hb:b=a
  ·subst hb;rw[qzw]at q;cases q;exact st ok.2
  ·rw[qzq hb]at q;exact st (I.hok b u q)
def Tr.lay(c:H a=Y (.lst xs)):Tr H (upd H a (.frz o (.lst xs))):=
 ⟨λb zs e=>by rw[qzq (qzt e c (by intro z; cases z))]; exact e,λb o u e=>by rw[qzq (qzt e c (by intro z; cases z))]; exact e⟩
def pe_gc(E:PE X p (tD X.K f)):PE X p (tD X.K λτ st=>(f τ st).map λq=>M.gcD st q):=by
 intro pins s σ H Q I h;refine h.el λm st τ d st' k S0 e q=>?_;obtain⟨⟨y,i⟩,N,K⟩:=mapD e;refine thn (E pins s σ H (λv H1=>∃m1,Sub m m1/\Tr H H1/\Rel X.K m1 i H1/\MS.IsD X.K m1 H1 y v) I (rsI k S0 N λv m1 H1 b1 g b i1=>⟨m1,b1,g,b,i1⟩)) λv s1 ⟨x,H1,n,r1,m1,b1,g,b,i1⟩=>?_;have plain:(y,i)=(d,st')->EP X pins σ Q v s1:=λz=>by
  cases z;exact⟨x,H1,n,r1,q x m1 H1 b1 g b i1⟩
 rcases gc_el K with z|⟨ok,z⟩
 ·exact plain z
 ·unfold M.gcX at z
  split at z
  ·rename_i hn;cases z;exact⟨x,H1,n,r1,q x m H1 ?M g (k.cut b b1 ok (Tr.refl H1) λ_ _ _ _ _ _=>rfl) (qel _ _ hn i1)⟩
  ·split at z
   ·rename_i l hd;simp only at hd
    split at z
    ·rename_i hl
     split at z
     ·rename_i ds hc
      split at z
      ·rename_i hn;cases z;subst hd;obtain⟨a,u,rfl⟩:=i1.loc;obtain⟨xs,t,C⟩:=b.cell l _ a hc u;obtain⟨o,P⟩:=qkp n t;have j:=Tr.lay (o:=o) t;refine⟨.ref a,_,P,r1,q _ m _ ?M (g.trans j) (k.cut b b1 ok j λr c A e G w=>?_) ?_⟩
       ·refine qzq λz=>?_;subst z;have F:=qje e;have:=b.nd r l A c _ (b1 r A G) u F.2 hc w rfl
        lia
       ·exact qbr (.inl ⟨o,qzw⟩) (qj5 _ _ hn (qzd (Sub.refl m1) j _ _ C))
      ·exact plain z
     ·exact plain z
    ·exact plain z
   ·exact plain z
end
end MS
end
section
namespace MS
open PySem PySem.Spec PyProof.Rows L2
open M (D Ya Y2 Sl)
def qwq(l)(a)(n)(b)(items2)(i)(f)(c)(m:¬(!a.isEmpty&&Builtin.List.listTooLong (a.size+items2.size))=O)(k:a.size<=sizeLine)(e:a.size+items2.size<=sizeLine+1):
  Meets (Qs.«list.extend» ⟨[.ref l,.ref b],[]⟩) (λ_ R s=>s.heap.get? l=Y { cls:=.type "list",dict:=B,data:=.seq a n,slots:=#[] }/\s.heap.get? b=Y { cls:=.type "list",dict:=f,data:=.seq items2 i,slots:=c }/\R (.ok (.ret Value.none)) { s with heap:=s.heap.update l (Obj.mapSeq λx=>x++items2),toks:=s.toks }):=
 .of_wp λprog w A R s h=>by
  obtain⟨o,g,d,tk,os⟩:=s; obtain⟨hl,hb,h⟩:=h; have u:=AutoSeq1.idx_int; have t:=AutoSeq1.sub_tuple_tuple; have r:=AutoSeq1.sub_list_list; have q:=AutoSeq1.sub_tuple_list; have p:=AutoSeq1.sub_list_tuple;have j:(a++items2).size<=sizeLine+1:=by rw[Qj9]; exact e
  wp_walk using (wpAny_updateSeq hl rfl),Zw hl,Zw hb; exact⟨_,rfl,h⟩
def qwx(l)(a)(n)(b)(items2)(i)(f)(c)(m:¬(!a.isEmpty&&Builtin.List.listTooLong (a.size+items2.size))=O)(k:a.size<=sizeLine)(e:a.size+items2.size<=sizeLine+1):
  Meets (Qs.«list.extend» ⟨[.ref l,.ref b],[]⟩) (λ_ R s=>s.heap.get? l=Y { cls:=.type "list",dict:=B,data:=.seq a n,slots:=#[] }/\s.heap.get? b=Y { cls:=.type "tuple",dict:=f,data:=.seq items2 i,slots:=c }/\R (.ok (.ret Value.none)) { s with heap:=s.heap.update l (Obj.mapSeq λx=>x++items2),toks:=s.toks }):=
 .of_wp λprog w A R s h=>by
  obtain⟨o,g,d,tk,os⟩:=s; obtain⟨hl,hb,h⟩:=h; have u:=AutoSeq1.idx_int; have t:=AutoSeq1.sub_tuple_tuple; have r:=AutoSeq1.sub_list_list; have q:=AutoSeq1.sub_tuple_list; have p:=AutoSeq1.sub_list_tuple;have j:(a++items2).size<=sizeLine+1:=by rw[Qj9]; exact e
  wp_walk using (wpAny_updateSeq hl rfl),Zw hl,Zw hb; exact⟨_,rfl,h⟩
section
def qbo:MtM X "list.extend" (λx xs H Q=>∃m st a ds d st',Rel X.K m st H/\MS.IsD X.K m H a x/\IsDs X.K m H ds xs/\M.mExtend st a ds=Y (d,st')/\Post X.K m H d st' Q):=by
 intro pins s σ H x xs v us Q I S T h;obtain⟨m,st,a,ds,d,st',C,i1,i2,e,q⟩:=h;unfold M.mExtend at e
 split at e
 ·refine qzx e λa0 e1 e=>qzx e λes K e=>?_
  split at e
  ·rename_i hl;have q:=q.of e;obtain⟨p,ys,R,rfl,j,E,hs⟩:=C.wlist e1 i1;obtain⟨y,rfl,P⟩:=i2.one;have l1:=E.length;have l2:=qqy;cases S;obtain⟨u,rfl,N⟩:=T.one;obtain⟨z,c,n,r,W,o⟩:=I.lstM j
   split at K
   ·rename_i ts;cases K;obtain⟨b,zs,rfl,G,t⟩:=P.tup;cases N;obtain⟨its2,r2,⟨⟨A,k,l,g⟩,h1,h2,D,w⟩,_⟩:=I.tuple G;simp only at h2 w;subst h2 w;have V:=t.length;have U:=r2.length;have i:c.toArray.size+its2.toArray.size<=sizeLine:=by rw[Qqc,Qqc]; lia
    have f:¬ (!c.toArray.isEmpty&&Builtin.List.listTooLong (c.toArray.size+its2.toArray.size))=true:=by
     rw[qav i,Bool.and_false];exact Qq8
    refine Qr F.slot_list_extend ⟨_,o,rfl⟩ F.entry_list_extend (F.args_list_extend_2 _ _) (qwx p c.toArray n b its2.toArray D k g f (by rw[Qqc]; lia) (by lia)) ⟨o,h1,?_⟩;refine⟨.non,_,I.lset j o (by simp) (r.append r2) ?_,rfl,?_⟩
    ·rw[Qql]; lia
    ·exact q _ m _ ?M (Tr.put j) (C.put hs R j (E.append t)) qvj
   ·obtain⟨b,zs,_,rfl,G,t⟩:=C.seq K P;cases N;obtain⟨its2,r2,⟨⟨A,k,l,g⟩,D,h1,h2,h4,w⟩,_⟩:=I.list G;simp only at h2 w;subst h2 w;have V:=t.length;have U:=r2.length;have i:c.toArray.size+its2.toArray.size<=sizeLine:=by rw[Qqc,Qqc]; lia
    have f:¬ (!c.toArray.isEmpty&&Builtin.List.listTooLong (c.toArray.size+its2.toArray.size))=true:=by
     rw[qav i,Bool.and_false];exact Qq8
    refine Qr F.slot_list_extend ⟨_,o,rfl⟩ F.entry_list_extend (F.args_list_extend_2 _ _) (qwq p c.toArray n b its2.toArray D k g f (by rw[Qqc]; lia) (by lia)) ⟨o,h1,?_⟩;refine⟨.non,_,I.lset j o (by simp) (r.append r2) ?_,rfl,?_⟩
    ·rw[Qql]; lia
    ·exact q _ m _ ?M (Tr.put j) (C.put hs R j (E.append t)) qvj
  ·exact nn e
 ·exact nn e
def qd8(hu:X.A.units+64<cLine):MtM X "list.index" (λx xs H Q=>∃m st a ds d st',Rel X.K m st H/\MS.IsD X.K m H a x/\IsDs X.K m H ds xs/\M.mIndex st a ds=Y (d,st')/\Post X.K m H d st' Q):=by
 intro pins s σ H x xs v us Q I G N h;obtain⟨m,st,a,ds,d,st',D,i1,i2,e,q⟩:=h;unfold M.mIndex at e
 split at e
 ·rename_i x0;refine qzx e λf e1 e=>?_
  split at e
  ·rename_i hf;rw[Qq2]at hf;refine qzg e λj e2 e3=>?_;cases e3;obtain⟨y,rfl,T⟩:=i2.one;obtain⟨u,rfl,K⟩:=N.one;obtain⟨b,zs,_,rfl,hq,g⟩:=D.seq e1 i1;cases G;obtain⟨c,r,⟨⟨cls,dd,C,sl⟩,n,h1,h2,h4,w⟩,V⟩:=I.list hq;simp only at h2 w;subst h2 w;have l3:=g.length;have l4:=r.length;obtain⟨hj,l,o⟩:=List.findIdx?_eq_some_iff_getElem.mp e2;have U:(sizeLine:Y0)<2 ^ 40:=by decide
   have i:X.A.in1.units+9<cLine:=by have V:X.A.in1.units=X.A.units+1:=rfl; lia
   obtain⟨A,t⟩:=qgk I X.A.in1 i hf.1 T K;obtain⟨k1,k2⟩:=t f zs c hf.2 g r;have at_:∀k (hk:k<c.length),A c[k]=M.eqT f[k] x0:=λk hk=>by
    have z:f[k]?=Y f[k]:=by simp
    obtain⟨E,w1,R⟩:=g.get z;obtain⟨u1,w2,P⟩:=r.get w1;have e5:c[k]=u1:=by
     have:c[k]?=Y c[k]:=by simp
     rw[w2]at this;exact(Option.some.inj this).symm
    rw[e5];obtain⟨_,S⟩:=t [f[k]] [E] [u1] (by simp[Qzc.mp hf.2 _ (Qqi z)]) (qzo R qqk) (.cons P .nil);simpa using S
   refine Qr F.slot_list_index ⟨_,h1,rfl⟩ F.entry_list_index (F.args_list_index_2 _ _) (SeqAt.list_indexAt b c.toArray n dd sl u A j (by rw[Qqc]; lia) (by lia) ?_ ?_) ⟨h1,λy W=>k1 y (by simpa using W),?_⟩
   ·rw[Qjr,at_ j (by lia)];exact l
   ·intro k hk p;rw[Qjr,at_ k (by simpa using hk)];simpa using o k p
   ·exact⟨.int j,H,I.tok _,⟨_,rfl⟩,q.here D (mkInt _)⟩
  ·exact nn e
 ·exact nn e
def qbn:MtM X "list.insert" (λx xs H Q=>∃m st a ds d st',Rel X.K m st H/\MS.IsD X.K m H a x/\IsDs X.K m H ds xs/\M.mInsert st a ds=Y (d,st')/\Post X.K m H d st' Q):=by
 intro pins s σ H x xs v S Q I A C h;obtain⟨m,st,a,ds,d,st',y,i1,i2,e,q⟩:=h;unfold M.mInsert at e
 split at e
 ·rename_i l i W;refine qzx e λR P e=>?_
  split at e
  ·rename_i hl;have q:=q.of e;obtain⟨p,ys,E,rfl,f,u,hs⟩:=y.wlist P i1;obtain⟨y1,y2,rfl,o,k⟩:=i2.two;cases o.int;have V:=u.length;have U:=qqy;cases A;obtain⟨T,u2,rfl,j,g⟩:=C.two;obtain⟨t,rfl⟩:=j;obtain⟨z,b,n,r,G,w⟩:=I.lstM f;have D:(sizeLine:Y0)<2 ^ 40:=by decide
   have c:¬ (!Builtin.List.listFitsIndex i)=true:=by
    have h1:=hl.1;have h2:i<2 ^ 62:=by lia
    simp only[Builtin.List.listFitsIndex,Bool.not_eq_true',Bool.not_eq_false];have:i<9223372036854775808:=by lia
    have:(-9223372036854775808:J)<=i:=by lia
    simp[*]
   refine Qr F.slot_list_insert ⟨_,w,rfl⟩ F.entry_list_insert (F.args_list_insert_3 _ _ _) (AutoSeq1.list_insert_list_int_val_1 p b.toArray n i t u2 c (by rw[Qqc]; lia)) ⟨w,?_⟩;refine⟨.non,_,I.lset (its':=b.take i.toNat++u2::b.drop i.toNat) f w ?_ ((r.take _).append (.cons g (r.drop _))) ?_,rfl,?_⟩
   ·have N:¬ i<0:=by lia
    have K:min i.toNat b.length=i.toNat:=by lia
    rw[Z5 N,Qqc,K];apply Array.ext';simp;exact Qx4 (by rw[Qxg]; lia)
   ·rw[Qql,Qqh,Qq9,Qxg]; lia
   ·exact q _ m _ ?M (Tr.put f) (y.put hs E f ((u.take _).append (qzo k (u.drop _)))) qvj
  ·exact nn e
 ·exact nn e
def qn6:MtM X "list.pop" (λx xs H Q=>∃m st a ds d st',Rel X.K m st H/\MS.IsD X.K m H a x/\IsDs X.K m H ds xs/\M.mPop st a ds=Y (d,st')/\Post X.K m H d st' Q):=by
 intro pins s σ H x xs v j Q I k n h;refine qhp pins s σ H x xs v j Q I k n ?_;obtain⟨m,st,a,ds,d,st',g,i1,i2,e,q⟩:=h;unfold M.mPop at e
 split at e
 ·rename_i l i;refine qzx e λD C e=>?_
  split at e
  ·rename_i hl;obtain⟨E,A,z⟩:=mapD e;have q:=q.of (congrArg Y z);obtain⟨p,ys,y,rfl,c,b,hs⟩:=g.wlist C i1;obtain⟨y1,rfl,f⟩:=i2.one;cases f.int;have o:=b.length;have F:=qqy;have t:(sizeLine:Y0)<2 ^ 40:=by decide
   obtain⟨w,u,r⟩:=b.get A;exact⟨p,ys,i,i.toNat,w,rfl,rfl,c,by lia,by lia,PySem.StrLaws.seqIndex_nonneg hl.1 (by rw[<- o]; exact hl.2.1),u,q _ m _ ?M (Tr.put c) (g.put hs y c (by rw[Qjn,Qjn]; exact(b.take _).append (b.drop _))) (qzk ?M (Tr.put c) _ _ r)⟩
  ·exact nn e
 ·exact nn e
end
section
noncomputable def Itd(a:Y7)(o:Obj)(xs:L (Key×V)):It:=
 ⟨λi H=>H a=Y (.frz o (.dK xs))/\i<xs.length,λi H x H'=>H'=H/\∃p,xs[i]?=Y p/\x=kV p.1,λi H=>H a=Y (.frz o (.dK xs))/\xs.length<=i⟩
def qau(I:Inv X b d H s)(h:H a=Y (.frz o (.dK xs)))(hd:o.data=.dict es ep):∃vs,KV xs vs/\s.heap.DictAt (mixKind X.prog X.w) a vs ep:=by
 obtain⟨h1,_,_,vs,kv,o',f,g,h2,e,c,r⟩:=I.hok a _ h;rw[h1]at h2;cases h2;rw[hd]at c;cases c;exact⟨vs,kv,o,es,h1,e,hd,r⟩
def qcd{K:Qqq}(a it)(o)(xs)(hd:o.data=.dict es T):Turn P w K tg (Itd a o xs) [it] it (λi h=>h.IsKeyIter it a i xs.length T) where
 mem:=by simp
 obj:=λi h st b hb=>by
  have e:b=it:=by simpa using hb
  subst e;obtain⟨o,e,c,d⟩:=st;exact⟨o,e,λv z=>by rw[d]at z; cases z⟩
 keep:=λi h h' st k=>st.at λo e=>k it (by simp) o e
 item:=by
  intro X r n x hc i pins s σ H E I hf st p;subst r n x;obtain⟨y,hi⟩:=p;obtain⟨vs,kv,Q⟩:=qau I y hd;obtain⟨G,F,W,D,C,A⟩:=hf it (by simp);have hl:=kv.length;obtain⟨⟨k,u⟩,R⟩:∃q,vs[i]?=Y q:=⟨vs[i]'(by lia),by simp⟩
  have S:xs[i]?=Y xs[i]:=by simp
  have hk:xs[i].1=k:=by
   have f:=congrArg (λl:L Key=>l[i]?) kv.keys;simp only[Qqw,R,S,oMs,Option.some.injEq]at f;exact f
  rw[hl]at st;refine wpAny_pyNext_dict_item st Q R λm h' g st' U=>?_;have I1:=I.turned (t':=s.toks) (λb o hb e=>(U.2 b hb).trans e) G F D C A;obtain⟨o1,e,c,d⟩:=id st';rw[<- hl]at st';refine⟨m,rfl,qe2 e c d (by decide) ⟨kV xs[i].1,H,I1,?_,⟨rfl,xs[i],S,rfl⟩,st',λb hb=>(hf b hb).1⟩⟩;rw[hk];rcases qzi g with⟨j,t,f,N⟩|⟨z,t,f,N⟩
  ·subst f N; exact⟨t,rfl⟩
  ·subst f N; exact⟨t,rfl⟩
 done:=by
  intro X r n x hc i pins s σ H E I hf st p;subst r n x;obtain⟨y,hi⟩:=p;obtain⟨vs,kv,Q⟩:=qau I y hd;obtain⟨G,F,W,D,C,A⟩:=hf it (by simp);have hl:=kv.length;rw[hl]at st;exact wpAny_pyNext_dict_end (I.ok.hd hc) st Q (Qzu.mpr (by lia)) λh' eb=>⟨rfl,I.turned (λb o hb e=>eb b o hb e) G F D C A⟩
 self:=λ_ _ _ _ _ st h=>wpAny_pyIter_keyiter st h
noncomputable def iDict(X:Cx)(tl:TE):TI:=λσ H R=>tl σ H λx H1=>∃a xs,x=.ref a/\H1 a=Y (.dK xs)/\∀o,NoFz X a->R (Itd a o xs) (upd H1 a (.frz o (.dK xs)))
def qna(hl:PE X l tl):PI X tg l (iDict X tl):=by
 intro pins s σ H R I h;refine thn (hl pins s σ H _ I h) λv c ⟨x,H1,g,r1,a,xs,e,d,q⟩=>?_;subst e;cases r1;obtain⟨o,i,f⟩:=qoh (.k _) g d;obtain⟨_,lo,vs,kv,o',es,k,h2,j,hd,r⟩:=g.hok a _ d;rw[i]at h2;cases h2;have hn:=kv.length;refine wpAny_pyIter_dict lo ⟨o,es,i,j,hd,r⟩ ?_;refine⟨c.heap.objs.size,[c.heap.objs.size],_,_,_,rfl,f.kept λb o e=>Qqx _ e,qcd a _ o xs hd,⟨_,Qqf _ rfl,rfl,by rw[hn]; rfl⟩,λb hb=>?_,q o (qn5 (.k _) g d)⟩;have e:b=c.heap.objs.size:=by simpa using hb
 subst e;exact f.fpOk (Qqv _) (f.hok.fresh (Qqv _))
noncomputable def thawE(X:Cx)(Dn:Ends):Ends:=
 ⟨λσ H=>∃a o xs,NoFz X a/\H a=Y (.frz o (.dK xs))/\Dn.nx σ (upd H a (.dK xs)),λv H=>∃a o xs,NoFz X a/\H a=Y (.frz o (.dK xs))/\Dn.rt v (upd H a (.dK xs)),λ_ _=>False,λ_ _=>False⟩
def qnz(i:PassesOwn ?d X.A X.env X.xe)(hc:X.calm=O)(hl:PE X l tl)(j:PG X tg g)(hb:PSs X body tb)(hs:∀x,foldedSetIterable l X.env x=pure x):
  PS X (.For tg l body [] pos) (λf σ H=>tFor (iDict X tl) g tb (thawE X f) σ H):=by
 intro pins s σ H f I h;refine thn (qi9 i hc (qna hl) j hb hs pins s σ H (thawE X f) I h) λk m q=>?_
 cases k with
 |next=>
  obtain⟨b,H1,d,a,o,xs,c,e,q⟩:=q;exact⟨b,_,qap d c e,q⟩
 |ret u=>
  obtain⟨v,b,H1,d,r,a,o,xs,c,e,q⟩:=q;exact⟨v,b,_,qap d c e,r,q⟩
 |brk=>obtain⟨_,_,_,z⟩:=q; exact z.elim
 |cont=>obtain⟨_,_,_,z⟩:=q; exact z.elim
end
end MS
end
section
namespace MS
open PySem PySem.Spec PyProof.Rows L2
section
def qiv{k:RK}{i:Y0}(v:IsEnum s.heap (n+1) n i old)(S:k.It s.heap n l i)(K:k.Sq s.heap l xs)(P:xs[i]?=Y x)(R:∀h',IsEnumOut h' (n+1) n ((i:J)+1) x s.heap.objs.size->k.It h' n l (i+1)->IsPair h' s.heap.objs.size (.int i s.toks) x->
   (∀c o,c≠n+1->c≠n->s.heap.get? c=Y o->h'.get? c=Y o)->Q (Y ?qd) { s with heap:=h',toks:=s.toks+1 }):
  wpAny ?r A (pyNext (.ref (n+1))) Q E s:=by
 have I:s.TypeIs (.ref (n+1)) "enumerate":=⟨_,v,rfl⟩
 have d:=Qq6 (Qzo n);unfold pyNext;refine Qq (Q5 (Qb I F.slot_enumerate_next (Qd F.slot_enumerate_next I F.entry_enumerate_next ?_ (F.args_enumerate_next_1 _))));show wpAny _ _ (field (.ref (n+1)) 2 >>= _) _ _ _;refine Qq (Qv v rfl rfl ?_);refine Qq (qxe S K P λW i1 z c1=>?_);have z1:=z _ _ d.symm v;refine Qq (Qv z1 rfl rfl ?_);refine Qq (Qv z1 rfl rfl ?_);refine Qq (wpAny_mkInt ?_);refine Qq (Qw z1 (by simp) λV z2 t=>?_)
 replace z2:IsEnum V (n+1) n ((i:J)+1) old:=z2
 refine Qq (Qw z2 (by simp) λf h r=>?_)
 replace h:IsEnum f (n+1) n ((i:J)+1) old:=h
 refine Qq (wpAny_newTuple ?_);have sz:=r.1.trans (t.1.trans c1);have q:∀c o,c≠n+1->c≠n->s.heap.get? c=Y o->f.get? c=Y o:=λc o a b e=>r.extBut _ _ a (t.extBut _ _ a (z _ _ b e));have N:=i1.on λo e=>r.extBut _ _ d (t.extBut _ _ d e);have u:=Qqe h;have p:IsEnum (f.push { cls:=.type "tuple",data:=.seq #[.int i s.toks,x] }) (n+1) n ((i:J)+1) old:=Qqx _ h;refine Qq ?_;unfold Builtin.SmallTypes.ownedTupleIsFree;refine Qq (Qv p rfl rfl (Qx ?_));simp only[if_true];refine Qq (Zq ?_);refine Qq (Qv p rfl rfl ?_);refine Qq (Qw p (by simp) λU m G=>?_)
 replace m:IsEnum U (n+1) n ((i:J)+1) x:=m
 refine Qq ?_;unfold Builtin.SmallTypes.ownedTupleHandOut;refine Qq (Qw m (by simp) λT j D=>?_)
 replace j:IsEnumOut T (n+1) n ((i:J)+1) x f.objs.size:=j
 refine Qw j (by simp) λy g C=>?_
 replace g:IsEnumOut y (n+1) n ((i:J)+1) x f.objs.size:=g
 have up:∀c o,c≠n+1->f.get? c=Y o->y.get? c=Y o:=λc o a e=>C.extBut _ _ a (D.extBut _ _ a (G.extBut _ _ a (Qqx _ e)));have H:=C.extBut _ _ (Qxi u) (D.extBut _ _ (Qxi u) (G.extBut _ _ (Qxi u) (Qqf _ rfl)));rw[sz]at g H;refine Qq (wpAny_letGo (Qx ⟨_,rfl,Qx ?_⟩));rw[sz];exact R y g (N.on λo e=>up _ o d e) H λc o a b e=>up c o a (q c o a b e)
def qfw{k:RK}{i:Y0}(m:A.handled=B)(d:IsEnum s.heap (n+1) n i a)(q:k.It s.heap n l i)(h:k.Sq s.heap l xs)(j:xs[i]?=B)(p:∀h',(∀c o,c≠n->s.heap.get? c=Y o->h'.get? c=Y o)->Q B { s with heap:=h' }):wpAny ?r A (pyNext (.ref (n+1))) Q E s:=by
 have f:s.TypeIs (.ref (n+1)) "enumerate":=⟨_,d,rfl⟩
 unfold pyNext;refine Qq (Q5 (Qb f F.slot_enumerate_next (Qd F.slot_enumerate_next f F.entry_enumerate_next ?_ (F.args_enumerate_next_1 _))));show wpAny _ _ (field (.ref (n+1)) 2 >>= _) _ _ _;refine Qq (Qv d rfl rfl ?_);refine Qq (qj9 m q h j λr e g b=>?_);obtain⟨o,b,hc⟩:=b;exact Qq (Zl ⟨o,b,hc⟩ isSubtype_stop (Qx (p _ g)))
end
noncomputable abbrev eh1(k:RK)(h:Heap)(l:Y7):Heap:=h.push (k.itO l)
noncomputable abbrev eh2(k:RK)(h:Heap)(l:Y7):Heap:=(eh1 k h l).push { cls:=.type "enumerate",data:=.fields #[.none,.bool Y6,.ref h.objs.size,rawInt 0,.none,.none] }
def wp_two[Decidable c]{p q:Sem α}{Q:α->Qz->Prop}(b:wpAny M A p Q E s)(a:wpAny M A q Q E s):wpAny M A (if c then p else q) Q E s:=by
 split
 ·exact b
 ·exact a
def qfy(k)(l)(xs):Meets (Qs.«enumerate.__new__» ⟨[.type "enumerate",.ref l],[]⟩) (λ_ R s=>k.Sq s.heap l xs/\R (.ok (.ret (.ref (eh1 k s.heap l).objs.size))) { s with heap:=eh2 k s.heap l }):=
 .of_wp λprog w A R s h=>by
  obtain⟨e,g,d,tk,os⟩:=s;obtain⟨c,h⟩:=h;have a:=sub_enumerate;have b:=c
  wp_walk using qjv b
  refine wpAny_stack_any λz=>Qx ?_;refine wp_two ?_ ?_<;>(wp_walk using qjv b; exact⟨_,rfl,h⟩)
def EnAt(k:RK)(n l:Y0)(i:Y0)(h:Heap):Prop:=l<n/\(∃old,IsEnum h (n+1) n i old)/\k.It h n l i
def qb9(b:k.Sq s.heap l xs)(b1:l<s.heap.objs.size)(h:∀h',EnAt k s.heap.objs.size l 0 h'->(∀c o,s.heap.get? c=Y o->h'.get? c=Y o)->Q (.ref ?K) { s with heap:=h' }):wpAny ?r A (call (.type "enumerate") [.ref l]) Q E s:=by
 refine callType_new F.called_enumerate (by decide) (F.typeCall_enumerate_1 _) (F.newCall_enumerate_1 _) (λobj=>F.args_object_init_2 obj _) F.entry_enumerate_new (qfy k l xs) ⟨b,?_⟩;have z1:(eh1 k s.heap l).objs.size=s.heap.objs.size+1:=Qxv ..;have a:(eh2 k s.heap l).get? (eh1 k s.heap l).objs.size=Y _:=Qqf _ rfl;have d:k.It (eh2 k s.heap l) s.heap.objs.size l 0:=row_new.on λo e=>Qqx _ e;rw[z1]at a;rw[z1];exact⟨⟨_,a,rfl⟩,h _ ⟨b1,⟨_,a⟩,d⟩ λc o x=>Qqx _ (Qqx _ x)⟩
noncomputable def Ite(K:Qqq)(k:RK)(a:Y7):It:=
 ⟨λi H=>∃xs x,k.sq K H a xs/\xs[i]?=Y x,
  λi H v H'=>∃p x,v=.ref p/\H p=B/\H'=upd H p (.tup [.int i,x])/\∀xs,k.sq K H a xs->xs[i]?=Y x,
  λi H=>∃xs,k.sq K H a xs/\xs.length<=i⟩
noncomputable def fpE(n:Y0):L Y7:=[n+1,n]
def qcc{K:Qqq}(k)(n a):Turn P w K (.Tuple j c pos) (Ite K k a) (fpE n) (n+1) (EnAt k n a) where
 mem:=by simp[fpE]
 obj:=λi h st e G=>by
  obtain⟨b1,⟨d,f⟩,h1⟩:=st;simp only[fpE,Qqb,Qzi,or_false]at G;rcases G with rfl|rfl
  ·exact⟨_,f,λv z=>nomatch z⟩
  ·exact h1.obj
 keep:=λi h h' st q=>by
  obtain⟨b1,⟨d,f⟩,h1⟩:=st;exact⟨b1,⟨d,q _ (by simp[fpE]) _ f⟩,h1.on λo e=>q _ (by simp[fpE]) o e⟩
 item:=by
  intro X C u D hc i pins s σ H E I hf st A;subst C u D;obtain⟨xs,x,l,ex⟩:=A;obtain⟨b1,⟨d,f⟩,h1⟩:=st;obtain⟨R,p,m⟩:=qqu I l;obtain⟨S,y,r⟩:=p.get ex;refine qiv f h1 m (by simpa using y) λh' W V U kp=>⟨_,rfl,?_⟩
  refine wpAny_letOwnedTupleGo_enum W λN c1 c2=>?_;have g:=c2.extBut;have lt:∀b∈fpE n,b≠s.heap.objs.size:=λb hb z=>by
   have q:b<s.heap.objs.size:=by
    simp only[fpE,Qqb,Qzi,or_false]at hb;rcases hb with rfl|rfl
    ·exact Qqe f
    ·obtain⟨o,e,_⟩:=h1.obj; exact Qqe e
   rw[z]at q;exact Qxj _ q
  have T:s.heap.objs.size≠n+1:=λz=>lt (n+1) (by simp[fpE]) z.symm;have I1:Inv X pins σ H { s with heap:=N,toks:=s.toks+1 }:=Inv.turnedL I (λb o hb e=>g _ _ (λz=>hb (by simp[fpE,z])) (kp b o (λz=>hb (by simp[fpE,z])) (λz=>hb (by simp[fpE,z])) e)) hf;have Q:=I.hok.fresh (Qqv _);have I2:Inv X pins σ (upd H s.heap.objs.size (.tup [.int i,x])) { s with heap:=N,toks:=s.toks+1 }:=Inv.track I1 (I.fpOk (Qqv _) Q) ⟨by show 2<=sizeLine; decide,[.int i s.toks,S],.cons ⟨_,rfl⟩ (.cons r .nil),⟨_,g _ _ T U,rfl,_,rfl⟩⟩;refine⟨.ref s.heap.objs.size,upd H s.heap.objs.size (.tup [.int i,x]),I2,rfl,⟨_,x,rfl,Q,rfl,λzs t=>?_⟩,⟨b1,⟨_,c1⟩,V.on λo e=>g _ o (Qq6 (Qzo n)) e⟩,λb hb=>?_⟩
  ·rw[qvq I t l]; exact ex
  ·rw[qzq (lt b hb)]; exact(hf b hb).1
 done:=by
  intro X C u D hc i pins s σ H E I hf st A;subst C u D;obtain⟨xs,l,F⟩:=A;obtain⟨b1,⟨d,f⟩,h1⟩:=st;obtain⟨R,p,m⟩:=qqu I l;have lx:=p.length;exact qfw (I.ok.hd hc) f h1 m (by simp; lia) λh' kp=>⟨rfl,Inv.turnedL I (λb o hb e=>kp b o (λz=>hb (by simp[fpE,z])) e) hf⟩
 self:=λ_ _ _ _ _ st h=>by
  obtain⟨_,⟨d,f⟩,_⟩:=st;exact wpAny_pyIter_enum f h
noncomputable def iEnum(K:Qqq)(ta:TA):TI:=λσ H R=>ta σ H λvs H1=>∃(k:RK) (a:Y7),vs=[.ref a]/\(∃xs,k.sq K H1 a xs)/\R (Ite K k a) H1
def qny(y:Gl X "enumerate")(x:X.mg "enumerate" = B)(z:PA X [a] j)(hs:starEach [a] X.env=[(Y6,Qa a X.env)]:=by rfl):
  PI X (.Tuple f c b) (.Call (.Name "enumerate" p) [a] [] pos) (iEnum X.K j):=by
 intro pins s σ H R I h;refine Call_ (qx3 I y x boot_enumerate (PyProof.Rows.callWith_type1 (thn (z pos pins s σ H _ I h) λC g ⟨vs,H1,i,r1,u⟩=>?_) hs rfl));obtain⟨k,a,e,⟨xs,t⟩,q⟩:=u;subst e
 cases r1 with
 |cons r n=>
  cases n;cases r;obtain⟨A,D,l⟩:=qqu i t;have la:a<g.heap.objs.size:=by
   cases k<;>(obtain⟨o,e,_⟩:=l; exact Qqe e)
  refine qb9 l la λh' st kp=>?_;obtain⟨b1,⟨v,w⟩,h1⟩:=id st;refine wpAny_pyIter_enum w ?_;refine⟨g.heap.objs.size+1,fpE g.heap.objs.size,_,_,H1,rfl,i.kept kp,qcc k _ a,st,λd hd=>?_,q⟩;have m:g.heap.objs.size<=d:=by
   simp only[fpE,Qqb,Qzi,or_false]at hd;rcases hd with rfl|rfl
   ·exact Qxh _
   ·exact Qqv _
  exact i.fpOk m (i.hok.fresh m)
def rv_next:Slot "reversed" "__next__" "reversed.__next__":=.of (owner:="reversed") (n:="__next__") (by rw[Zo,Q9]; kernel_rfl) (by decide +kernel) (by decide +kernel) (by decide +kernel) (.inl (by decide +kernel)) (by rw[Zd]; kernel_rfl)
def qda:Slot "reversed" "__iter__" "reversed.__iter__":=.of (owner:="reversed") (n:="__iter__") (by rw[Zo,Q9]; kernel_rfl) (by decide +kernel) (by decide +kernel) (by decide +kernel) (.inl (by decide +kernel)) (by rw[Zd]; kernel_rfl)
def qm0:Slot "reversed" "__init__" "object.__init__":=.of (owner:="object") (n:="__init__") (by rw[Zo,Q9]; kernel_rfl) (by decide +kernel) (by decide +kernel) (by decide +kernel) (.inl (by decide +kernel)) (by rw[Zd]; kernel_rfl)
def qy5:entryFor table "reversed.__next__" = Y Qs.«reversed.__next__»:=entryFor_of_tree (by kernel_rfl)
def qg4:entryFor table "reversed.__iter__" = Y Qs.«dict_keyiterator.__iter__»:=entryFor_alias (id':="dict_keyiterator.__iter__") (by kernel_rfl) (by first|rfl|decide +kernel) (by decide +kernel) (by kernel_rfl)
def qy6(a):argsOk "reversed.__next__" ⟨[a],[]⟩:=by unfold argsOk; kernel_rfl
def qg5(a):argsOk "reversed.__iter__" ⟨[a],[]⟩:=by unfold argsOk; kernel_rfl
def qdb:TypeCalled "reversed" "reversed.__new__" "object.__init__":=⟨by decide +kernel,by decide +kernel,⟨_,_,F.mro_reversed⟩,F.made_reversed,by decide +kernel,F.sub_reversed_self,qm0⟩
def qce:typeLookup (.type "tuple") "__reversed__" = pure none:=by rw[Zo,Q9]; kernel_rfl
abbrev IsRv(h:Heap)(it a:Y7)(i:J):Prop:=h.get? it=Y { cls:=.type "reversed",data:=.fields #[.ref a,rawInt i] }
def qg8(a)(xs)(i:(xs.size:J)<2 ^ 63):Meets (Qs.«reversed.__new__» ⟨[.type "reversed",.ref a],[]⟩) (λ_ R s=>s.heap.IsTuple a xs/\∀t,R (.ok (.ret ?qd)) { s with heap:=s.heap.push { cls:=.type "reversed",data:=.fields #[.ref a,rawInt ((xs.size:J) - 1)] },toks:=t }):=
 .of_wp λprog w A R s h=>by
  obtain⟨j,g,d,tk,os⟩:=s;obtain⟨f,h⟩:=h;have b:Shared.TypeIs ⟨j,g,d,tk,os⟩ (.ref a) "tuple":=by obtain⟨o,e,c,_⟩:=f; exact⟨o,e,c⟩
  unfold Qs.«reversed.__new__»;refine Qq (Zk (newClass_reversed _) ?_)
  try dsimp only
  refine Qq (Zk (by first|rfl|kernel_rfl) ?_);refine Qq (Zk (by first|rfl|kernel_rfl) ?_)
  try dsimp only
  refine Qq (Zy b qce ?_)
  try dsimp only
  refine Qq ?_;refine Qq (Zl b PySem.F.sub_tuple_dict ?_);refine Qq (Zy b PySem.F.slot_tuple_getitem.lookup ?_);refine Zk (by rfl) ?_;refine Qq (PyProof.Rows.len_tuple f i ?_);refine Qq (Zk (by rfl) ?_)
  wp_walk
  exact⟨_,rfl,h _⟩
def RvAt(n l:Y0)(m i:Y0)(h:Heap):Prop:=l<n/\IsRv h n l ((m:J) - 1 - i)
section
def qfn(a:s.heap.IsTuple l xs)(b:(xs.size:J)<2 ^ 63)(b1:l<s.heap.objs.size)(h:∀h' t,RvAt s.heap.objs.size l xs.size 0 h'->(∀c o,s.heap.get? c=Y o->h'.get? c=Y o)->Q ?qd { s with heap:=h',toks:=t }):wpAny ?r A (call (.type "reversed") [.ref l]) Q E s:=by
 refine callType_new qdb (by decide) (F.typeCall_reversed_1 _) (F.newCall_reversed_1 _) (λobj=>F.args_object_init_2 obj _) F.entry_reversed_new (qg8 l xs b) ⟨a,λt=>?_⟩;have g:IsRv (s.heap.push { cls:=.type "reversed",data:=.fields #[.ref l,rawInt ((xs.size:J) - 1)] }) s.heap.objs.size l ((xs.size:J) - 1):=Qqf _ rfl;exact⟨⟨_,g,rfl⟩,h _ t ⟨b1,by rw[show((xs.size:J) - 1 - ((0:Y0):J))=(xs.size:J) - 1 by lia]; exact g⟩ λc o x=>Qqx _ x⟩
def qm4{i:Y0}(a:IsRv s.heap n l i)(b:s.heap.IsTuple l xs)(k:(xs.size:J)<2 ^ 63)(d:xs[i]?=Y x)(j:∀h' t,IsRv h' n l ((i:J) - 1)->(∀c o,c≠n->s.heap.get? c=Y o->h'.get? c=Y o)->Q (Y x) { s with heap:=h',toks:=t }):wpAny ?r A (pyNext (.ref n)) Q E s:=by
 have f:s.TypeIs (.ref n) "reversed":=⟨_,a,rfl⟩
 have h:s.TypeIs (.ref l) "tuple":=by obtain⟨o,e,c,_⟩:=b; exact⟨o,e,c⟩
 have hi:=(Qzt.mp d).1;unfold pyNext;refine Qq (Q5 (Qb f rv_next (Qd rv_next f qy5 ?_ (qy6 _))));show wpAny _ _ (field (.ref n) 0 >>= _) _ _ _;refine Qq (Qv a rfl rfl ?_);refine Qq (Qv a rfl rfl ?_);show wpAny _ _ (if (i:J)<0 then _ else _) _ _ _;rw[Z5 (by lia)];refine Qq (Zy h PySem.F.slot_tuple_getitem.lookup ?_);refine Qq (wpAny_mkInt ?_);refine Qq (Q5 (getItem_tuple b (by lia) (by lia) (seqIndex_of (by lia) (by lia)) d ?_));refine Qq (Qv a rfl rfl ?_);refine Qq (Qw a (by simp) λg z u=>?_);exact Qx ⟨_,rfl,Qx (j g _ z u.extBut)⟩
def qg7(d:A.handled=B)(b:IsRv s.heap n l (-1))(i:∀h',(∀c o,c≠n->s.heap.get? c=Y o->h'.get? c=Y o)->Q B { s with heap:=h' }):wpAny ?r A (pyNext (.ref n)) Q E s:=by
 have f:s.TypeIs (.ref n) "reversed":=⟨_,b,rfl⟩
 unfold pyNext;refine Qq (Q5 (Qb f rv_next (Qd rv_next f qy5 ?_ (qy6 _))));show wpAny _ _ (field (.ref n) 0 >>= _) _ _ _;refine Qq (Qv b rfl rfl ?_);refine Qq (Qv b rfl rfl ?_);show wpAny _ _ (if (-1:J)<0 then _ else _) _ _ _;rw[Z6 (by decide)];refine Qq (Zq ?_);refine Qq ?_;refine Qq (Qw b (by simp) λk z1 h=>?_);refine Qw z1 (by simp) λj z2 g=>?_;refine Qq ?_;refine Qq ?_; simp only[ newTuple];refine Qq (Qi ?_ (by size_fits)); refine Qq (Zk (by first|rfl|(simp only[firstArgMember]; rfl)) ?_);refine Qi ?_ (by size_fits); simp only[raiseNew];refine Qq (wpAny_handled ?_)
 first|rw[show A.in1.handled=B from d]|(rw[d])
 refine Qq (Qx (wpAny_throw ?_));refine Qq (Zl ⟨_,Qqf _ rfl,rfl⟩ isSubtype_stop ?_);exact Qx (i _ λc o a e=>Qqx _ (Qqx _ (g.extBut _ _ a (h.extBut _ _ a e))))
end
noncomputable def Itv(K:Qqq)(a:Y7)(m:Y0):It:=
 ⟨λi H=>∃xs x,SqT K H a xs/\xs.length=m/\i<m/\xs[m - 1 - i]?=Y x,
  λi H v H'=>H'=H/\∀xs,SqT K H a xs->xs[m - 1 - i]?=Y v,
  λi H=>m<=i⟩
def qgf{K:Qqq}(n a m:Y0)(hz:(m:J)<2 ^ 63):Turn P w K tg (Itv K a m) [n] n (λi h=>i<=m/\RvAt n a m i h) where
 mem:=by simp
 obj:=λi h st e c=>by
  simp only[Qqy]at c;subst c;exact⟨_,st.2.2,λv z=>nomatch z⟩
 keep:=λi h h' st q=>⟨st.1,st.2.1,q _ (by simp) _ st.2.2⟩
 item:=by
  intro X p f r hc i pins s σ H E I hf st j;subst p f r;obtain⟨xs,x,G,el,lt,ex⟩:=j;obtain⟨S,b1,c⟩:=st;obtain⟨W,F,R⟩:=qqu (k:=.tup) I G;obtain⟨Q,g,d⟩:=F.get ex;have lx:=F.length;obtain⟨D,C,U,A,y,u⟩:=hf n (by simp);rw[show(m:J) - 1 - (i:J)=((m - 1 - i:Y0):J) by lia]at c;refine qm4 c R (by simp; lia) (by simpa using g) λh' t z kp=>⟨Q,rfl,?_⟩
  have N:IsRv h' n a ((m:J) - 1 - ((i+1:Y0):J)):=by
   rw[show(m:J) - 1 - ((i+1:Y0):J)=((m - 1 - i:Y0):J) - 1 by lia];exact z
  have V:Inv X pins σ H { s with heap:=h',toks:=t }:=I.turned (λb o hb e=>kp b o hb e) D C A y u;refine qe2 z rfl rfl (by decide) ⟨x,H,V,d,⟨rfl,λys T=>by rw[qvq (k:=.tup) I T G]; exact ex⟩,⟨by lia,b1,N⟩,λb hb=>(hf b hb).1⟩
 done:=by
  intro X p f r hc i pins s σ H E I hf st j;subst p f r;obtain⟨S,b1,c⟩:=st;have hi:m<=i:=j;obtain⟨D,C,U,A,y,u⟩:=hf n (by simp);rw[show(m:J) - 1 - (i:J)=-1 by lia]at c;exact qg7 (I.ok.hd hc) c λh' kp=>⟨rfl,I.turned (λb o hb e=>kp b o hb e) D C A y u⟩
 self:=λ_ _ s _ _ st h=>by
  have l:s.TypeIs (.ref n) "reversed":=⟨_,st.2.2,rfl⟩
  refine wpAny_pyIter_slot l qda (Qd qda l qg4 ?_ (qg5 _));exact Qx ⟨_,rfl,"reversed",_,l,rv_next.lookup,h⟩
noncomputable def iRev(K:Qqq)(ta:TA):TI:=λσ H R=>ta σ H λvs H1=>∃(a:Y7) (xs:L V),vs=[.ref a]/\SqT K H1 a xs/\R (Itv K a xs.length) H1
def pi_rev(y:Gl X "reversed")(x:X.mg "reversed" = B)(z:PA X [a] g)(hs:starEach [a] X.env=[(Y6,Qa a X.env)]:=by rfl):
  PI X tg (.Call (.Name "reversed" p) [a] [] pos) (iRev X.K g):=by
 intro pins s σ H R I h;refine Call_ (qx3 I y x boot_reversed (PyProof.Rows.callWith_type1 (thn (z pos pins s σ H _ I h) λA b ⟨vs,H1,c,r1,n⟩=>?_) hs rfl));obtain⟨a,xs,e,m,q⟩:=n;subst e
 cases r1 with
 |cons r l=>
  cases l;cases r;obtain⟨f,k,i,v⟩:=c.tuple m;have la:a<b.heap.objs.size:=by obtain⟨o,e,_⟩:=i; exact Qqe e
  have u:=k.length;have j:(f.toArray.size:J)<2 ^ 63:=by simp; unfold sizeLine at v; lia
  refine qfn (i) j la λh' t st kp=>?_;have st':RvAt b.heap.objs.size a xs.length 0 h':=by rw[u]; simpa using st
  have T:=qgf (P:=X.prog) (w:=X.w) (K:=X.K) (tg:=tg) b.heap.objs.size a xs.length (by simp at j; lia);refine T.self _ 0 { b with heap:=h',toks:=t } _ _ ⟨Qzl _,st'⟩ ?_;refine⟨b.heap.objs.size,[b.heap.objs.size],_,_,H1,rfl,c.kept kp,T,⟨Qzl _,st'⟩,λd hd=>?_,q⟩;simp only[Qqy]at hd;subst hd;exact c.fpOk (Qqv _) (c.hok.fresh (Qqv _))
end MS
end
section
namespace ST
open PySem SetTable
noncomputable def adv(m:Y0)(p:Probe):Probe:=
 if p.more > 0 then { p with j:=p.j+1,more:=p.more - 1 } else
 { p with j:=(leap m p.i p.perturb).1,more:=runEnd m (leap m p.i p.perturb).1 - (leap m p.i p.perturb).1,i:=(leap m p.i p.perturb).1,perturb:=(leap m p.i p.perturb).2 }
noncomputable def qzs(m:Y0)(h:J):Probe:={ j:=bits h % (m+1),more:=runEnd m (bits h % (m+1)) - bits h % (m+1),i:=bits h % (m+1),perturb:=bits h,dummy:=B }
noncomputable def stp(m:Y0):Y0->Probe->Probe
 |0,p=>p
 |n+1,p=>stp m n (adv m p)
theorem qqc(m):∀(a b:Y0) (p:Probe),stp m (a+b) p=stp m b (stp m a p)
 |0,b,p=>by rw[Qzp]; rfl
 |a+1,b,p=>by rw[Nat.add_right_comm]; exact qqc m a b (adv m p)
def qgu(m n)(p):stp m (n+1) p=adv m (stp m n p):=by rw[qqc]; rfl
noncomputable def runP(m i pt:Y0)(d:Y3 Y0):Probe:={ j:=i,more:=runEnd m i - i,i:=i,perturb:=pt,dummy:=d }
theorem qki(m):∀(k:Y0) (p:Probe),p.more=k->stp m (k+1) p=runP m (leap m p.i p.perturb).1 (leap m p.i p.perturb).2 p.dummy
 |0,p,h=>by
  show adv m p=_;unfold adv;rw[Z5 (by lia)]; rfl
 |k+1,p,h=>by
  show stp m (k+1) (adv m p)=_;have e:adv m p={ p with j:=p.j+1,more:=p.more - 1 }:=by unfold adv; rw[Z6 (by lia)]
  rw[e,qki m k _ (by show p.more - 1=k; lia)]
noncomputable def lp(m:Y0):Y0->Y0×Y0->Y0×Y0
 |0,q=>q
 |n+1,q=>lp m n (leap m q.1 q.2)
def more_le(m i):runEnd m i - i<=9:=by unfold runEnd; split<;>lia
theorem qy7(m)(d):∀(n i pt:Y0),∃N,N<=10*n/\stp m N (runP m i pt d)=runP m (lp m n (i,pt)).1 (lp m n (i,pt)).2 d
 |0,i,pt=>⟨0,Qqv _,rfl⟩
 |n+1,i,pt=>by
  obtain⟨N,a,e⟩:=qy7 m d n (leap m i pt).1 (leap m i pt).2;refine⟨(runP m i pt d).more+1+N,?_,?_⟩
  ·have:=more_le m i;show runEnd m i - i+1+N<=_
   lia
  ·rw[qqc,qki m _ _ rfl];exact e
theorem lp_pt(m):∀(n i pt:Y0),(lp m n (i,pt)).2=pt / 32 ^ n
 |0,i,pt=>by simp[lp]
 |n+1,i,pt=>by
  show(lp m n (leap m i pt)).2=_;have:leap m i pt=((leap m i pt).1,pt / 32):=rfl;rw[this,lp_pt m n,Nat.div_div_eq_div_mul,Nat.pow_succ,Nat.mul_comm]
theorem qlw(m):∀(a b:Y0) (q:Y0×Y0),lp m (a+b) q=lp m b (lp m a q)
 |0,b,q=>by rw[Qzp]; rfl
 |a+1,b,q=>by rw[Nat.add_right_comm]; exact qlw m a b _
theorem lp_le(m):∀(n i pt:Y0),i<=m->(lp m n (i,pt)).1<=m
 |0,i,pt,h=>h
 |n+1,i,pt,h=>by
  exact lp_le m n _ _ (Qxe (Qjs _ (Qjv _)))
noncomputable def lcg(m:Y0):Y0->Y0->Y0
 |0,i=>i
 |n+1,i=>lcg m n ((i*5+1) % (m+1))
theorem qej(m):∀(n i:Y0),(lp m n (i,0)).1=lcg m n i
 |0,i=>rfl
 |n+1,i=>by
  show(lp m n (leap m i 0)).1=_;have:leap m i 0=((i*5+1) % (m+1),0):=by simp[leap]
  rw[this,qej m n]; rfl
def onto7:∀i,i<8->∀e,e<8->∃r,r<8/\lcg 7 r i=e:=by decide +kernel
def onto31:∀i,i<32->∀e,e<32->∃r,r<32/\lcg 31 r i=e:=by decide +kernel
def onto(a:m=7\/m=31)(b:i<=m)(c:e<=m):∃r,r<=m/\lcg m r i=e:=by
 rcases a with rfl|rfl
 ·obtain⟨r,h,q⟩:=onto7 i (by lia) e (by lia); exact⟨r,by lia,q⟩
 ·obtain⟨r,h,q⟩:=onto31 i (by lia) e (by lia); exact⟨r,by lia,q⟩
def qy8(g:m=7\/m=31)(d)(h:i<=m)(f:pt<2 ^ 64)(j:e<=m):∃n N,n<=m+13/\N<=10*n/\stp m N (runP m i pt d)=runP m e (lp m n (i,pt)).2 d/\(lp m n (i,pt)).1=e:=by
 have c:(lp m 13 (i,pt)).2=0:=by
  rw[lp_pt]; exact Nat.div_eq_of_lt (Qq7 f (by decide))
 obtain⟨r,hr,l⟩:=onto g (lp_le m 13 i pt h) j;have b:(lp m (13+r) (i,pt)).1=e:=by
  rw[qlw];have:lp m 13 (i,pt)=((lp m 13 (i,pt)).1,0):=by rw[<- c]
  rw[this,qej]; exact l
 obtain⟨N,k,a⟩:=qy7 m d (13+r) i pt;rw[b]at a;exact⟨13+r,N,by lia,k,a,b⟩
structure Okp (m:Y0) (p:Probe):Prop where
 i:p.i<=m
 pt:p.perturb<2 ^ 64
 more:p.more<=9
 dm:p.dummy=B
def Okp.start(h):Okp m (qzs m h):=by
 refine⟨Qxe (Qjs _ (Qjv _)),?_,more_le _ _,rfl⟩;show bits h<2 ^ 64;unfold bits
 lia
def Okp.next(h:Okp m p):Okp m (adv m p):=by
 unfold adv
 split
 ·exact⟨h.i,h.pt,by have:=h.more; show p.more - 1<=9; lia,h.dm⟩
 ·refine⟨by unfold leap; exact Qxe (Qjs _ (Qjv _)),?_,more_le _ _,h.dm⟩;exact Qxu (Nat.div_le_self _ _) h.pt
theorem Okp.stp:∀(n:Y0){p:Probe},Okp m p->Okp m (stp m n p)
 |0,_,h=>h
 |n+1,_,h=>Okp.stp n h.next
def hits(a:m=7\/m=31)(h:Okp m p)(b:e<=m):∃N,N<10*turns m/\(stp m N p).j=e:=by
 have h1:=(h.stp (p.more+1))
 rw[qki m _ p rfl]at h1;obtain⟨n,N,hn,d,c,_⟩:=qy8 a p.dummy h1.i h1.pt b;refine⟨p.more+1+N,?_,?_⟩
 ·have:=h.more;unfold turns; lia
 ·rw[qqc,qki m _ p rfl];exact congrArg Probe.j c
def Up(xs:Array Y0):Prop:=∀(i k a b:Y0),i<k->xs[i]?=Y a->xs[k]?=Y b->a<b
theorem qvf(hs:Up xs):∀(b c hi:Y0),hi<=xs.size->c<=hi->hi - c<=b->(∀(i a:Y0),i<c->xs[i]?=Y a->a<j)->(∀(i a:Y0),hi<=i->xs[i]?=Y a->j<=a)->
  (∀(i a:Y0),i<below.go xs j b c hi->xs[i]?=Y a->a<j)/\(∀(i a:Y0),below.go xs j b c hi<=i->xs[i]?=Y a->j<=a)/\below.go xs j b c hi<=xs.size
 |0,c,hi,h1,h2,n,k,g=>by
  have:c=hi:=by lia
  subst this;exact⟨k,g,h1⟩
 |b+1,c,hi,h1,h2,n,k,g=>by
  unfold below.go
  by_cases f:c<hi
  ·rw[Z6 f];have m:(c+hi) / 2<xs.size:=by lia
   have e:=Qzj m;have o:xs.getD ((c+hi) / 2) j=xs[(c+hi) / 2]:=by rw[Qxq,e]; rfl
   simp only[o]
   split
   ·rename_i hc;refine qvf hs b _ _ h1 (by lia) (by lia) (λi a l d=>?_) g;rcases Qxx i ((c+hi) / 2) with h|h
    ·exact Nat.lt_trans (hs i _ a _ h d e) hc
    ·have:i=(c+hi) / 2:=by lia
     subst this;rw[e]at d; cases d; exact hc
   ·rename_i hc;refine qvf hs b _ _ (by lia) (by lia) (by lia) k (λi a l d=>?_);rcases Qxx ((c+hi) / 2) i with h|h
    ·have:=hs _ i _ a h e d; lia
    ·have:i=(c+hi) / 2:=by lia
     subst this;rw[e]at d; cases d; lia
  ·rw[Z5 f];have:c=hi:=by lia
   subst this;exact⟨k,g,h1⟩
def qxs(hs:Up xs):(∀(i a:Y0),i<below xs j->xs[i]?=Y a->a<j)/\(∀(i a:Y0),below xs j<=i->xs[i]?=Y a->j<=a)/\below xs j<=xs.size:=
 qvf hs xs.size 0 xs.size (Qqv _) (Qzl _) (by lia) (λi a h=>by lia) λi a h e=>by
  have:=(Qzt.mp e).1; lia
def below_at(hs:Up xs)(h:xs[i]?=Y j):below xs j=i:=by
 obtain⟨b1,b2,b3⟩:=qxs hs;rcases Qja (below xs j) i with h1|h1|h1
 ·have hb:=Nat.lt_trans h1 (Qzt.mp h).1;have e:=Qzj hb;have:=b2 _ _ (Qqv _) e;have:=hs _ _ _ _ h1 e h
  lia
 ·exact h1
 ·have:=b1 _ _ h1 h; lia
structure Tb (t:Qy):Prop where
 mask:t.mask=7\/t.mask=31
 dum:t.dummies=#[]
 up:Up t.place
 le:∀(i j:Y0),t.place[i]?=Y j->j<=t.mask
 few:t.place.size<=t.mask
def Occ(t:Qy)(j:Y0):Prop:=∃i:Y0,t.place[i]?=Y j
def qji(T:Tb t)(h:t.place[i]?=Y j):t.slot j=.live i:=by
 unfold slot;simp only[below_at T.up h,h,beq_self_eq_true,if_true]
def qbd(T:Tb t)(h:¬ Occ t j):t.slot j=.empty:=by
 unfold slot;have:(t.place[below t.place j]?==Y j)=false:=by
  cases e:t.place[below t.place j]?==Y j with
  |false=>rfl
  |true=>exact absurd ⟨_,beq_iff_eq.mp e⟩ h
 have hd:has t.dummies j=false:=by rw[T.dum]; unfold has; simp
 simp[this,hd]
theorem qkr:∀(l:L Y0) (lo:Y0),l.Pairwise (· < ·)->(∀a∈l,lo<=a)->(∀e,lo<=e->e<=m->e∈l)->lo<=m+1->m+1<=lo+l.length
 |[],lo,_,_,c,f=>by
  rcases Qxx m lo with h|h
  ·simp; lia
  ·exact absurd (c lo (Qqv _) h) (by simp)
 |a::l,lo,h1,h2,c,f=>by
  rcases Qxx m lo with h|h
  ·lia
  ·obtain⟨p1,p2⟩:=Qxa.mp h1;have d:a=lo:=by
    rcases Qqb.mp (c lo (Qqv _) h) with e|e
    ·exact e.symm
    ·have:=p1 lo e;have:=h2 a Qzk
     lia
   subst d
   have:=qkr l (a+1) p2 (λb hb=>p1 b hb) (λe i g=>by
    rcases Qqb.mp (c e (by lia) g) with q|q
    ·lia
    ·exact q) (by lia)
   simp only[Qqh]
   lia
def Up.pairwise(h:Up xs):xs.toList.Pairwise (· < ·):=by
 rw[Qxb];intro i j hi hj a;exact h i j _ _ a (by rw[<- Qq1,Qqd hi]) (by rw[<- Qq1,Qqd hj])
def some_free(T:Tb t):∃e,e<=t.mask/\¬ Occ t e:=by
 apply Classical.byContradiction;intro hn;have all:=λe b=>Classical.byContradiction λhc=>hn ⟨e,b,hc⟩
 have:=qkr t.place.toList 0 T.up.pairwise (λa _=>Qzl _) (λe _ b=>by
  obtain⟨i,hi⟩:=all e b
  exact Qqi (by rw[Qq1]; exact hi)) (Qzl _)
 have:=T.few;rw[Qz3]at *
 lia
theorem qe1(T:Tb t):∀(b:Y0) (p:Probe) (N:Y0),p.dummy=B->N<b->¬ Occ t (stp t.mask N p).j->
  ∃n,(∀m,m<n->∃i:Y0,t.place[i]?=Y (stp t.mask m p).j/\a i≠h)/\
   ((¬ Occ t (stp t.mask n p).j/\probe.go t a h b p=Y (.empty (stp t.mask n p).j B))\/
    (∃i:Y0,t.place[i]?=Y (stp t.mask n p).j/\a i=h/\probe.go t a h b p=Y (.candidate (stp t.mask n p).j i (stp t.mask (n+1) p))))
 |0,p,N,_,l,_=>by lia
 |b+1,p,N,hd,l,g=>by
  by_cases d:Occ t p.j
  ·obtain⟨i,hi⟩:=d
   by_cases c:a i=h
   ·refine⟨0,λm f=>by lia,.inr ⟨i,hi,c,?_⟩⟩;unfold probe.go;rw[qji T hi];simp only[c,beq_self_eq_true]
    rfl
   ·cases N with
    |zero=>exact absurd ⟨i,hi⟩ g
    |succ N=>
     have e:(adv t.mask p).dummy=none:=by unfold adv; split<;>exact hd
     obtain⟨n,k,j⟩:=qe1 T b (adv t.mask p) N e (by lia) g;have o:probe.go t a h (b+1) p=probe.go t a h b (adv t.mask p):=by
      conv=>lhs; unfold probe.go
      rw[qji T hi];have:(a i==h)=false:=by simpa using c
      simp only[this,if_false]
      rfl
     refine⟨n+1,λm f=>?_,?_⟩
     ·cases m with
      |zero=>exact⟨i,hi,c⟩
      |succ m=>exact k m (by lia)
     ·rw[o];exact j
  ·refine⟨0,λm f=>by lia,.inl ⟨d,?_⟩⟩;unfold probe.go;rw[qbd T d];rw[hd]; rfl
def qbl(T:Tb t)(b:Okp t.mask p):
  ∃n,(∀m,m<n->∃i:Y0,t.place[i]?=Y (stp t.mask m p).j/\a i≠h)/\
   ((¬ Occ t (stp t.mask n p).j/\t.probe a h p=Y (.empty (stp t.mask n p).j B))\/
    (∃i:Y0,t.place[i]?=Y (stp t.mask n p).j/\a i=h/\t.probe a h p=Y (.candidate (stp t.mask n p).j i (stp t.mask (n+1) p)))):=by
 obtain⟨e,c,hf⟩:=some_free T;obtain⟨N,d,f⟩:=hits T.mask b c;exact qe1 T _ p N b.dm d (by rw[f]; exact hf)
section
def qqv(xs)(p)(x:α)(b:p<=xs.size)(i):(insertAt xs p x)[i]?=if i<p then xs[i]? else if i=p then Y x else xs[i - 1]?:=by
 unfold insertAt;rw[Array.getElem?_append,Array.getElem?_push,Qkc,Qkc];simp only[Array.size_push,Array.size_extract];have e:min p xs.size=p:=by lia
 simp only[e,Qkx,Qzp]
 by_cases h1:i<p
 ·rw[Z6 (by lia),Z5 (by lia),Z6 h1,Z6 h1]
 ·by_cases h2:i=p
  ·subst h2;rw[Z6 (by lia),Z6 rfl,Z5 h1,Z6 rfl]
  ·rw[Z5 (by lia),Z5 h1,Z5 h2]
   by_cases a:i - (p+1)<min xs.size xs.size - p
   ·rw[Z6 a]; congr 1; lia
   ·rw[Z5 a];exact(Qkd (by lia)).symm
def qjy(xs)(p)(x:α)(a:p<=xs.size):(insertAt xs p x).size=xs.size+1:=by
 unfold insertAt;simp only[Qj9,Array.size_push,Array.size_extract]
 lia
def qom(b:p<=xs.size):y∈(insertAt xs p x).toList↔y∈xs.toList\/y=x:=by
 unfold insertAt;simp only[Array.toList_append,Array.toList_push,Array.toList_extract,Qqr,Qqy,List.extract_eq_drop_take,Qkx,Qj1];have e:xs.toList.take p++xs.toList.drop p=xs.toList:=Qjl p _;have a:(xs.toList.drop p).take (xs.size - p)=xs.toList.drop p:=Qx4 (by simp);rw[a]
 conv=>rhs; rw[<- e,Qqr]
 constructor
 ·rintro ((h|h)|h)
  ·exact .inl (.inl h)
  ·exact .inr h
  ·exact .inl (.inr h)
 ·rintro ((h|h)|h)
  ·exact .inl (.inl h)
  ·exact .inr h
  ·exact .inl (.inr h)
end
def Reach(t:Qy)(h:J)(j:Y0):Prop:=∃n,(stp t.mask n (qzs t.mask h)).j=j/\∀m,m<n->Occ t (stp t.mask m (qzs t.mask h)).j
structure SI {α:Type}(t:Qy) (es:Array (J×α)):Prop where
 tb:Tb t
 sz:t.place.size=es.size
 reach:∀(i j:Y0) (e:J×α),t.place[i]?=Y j->es[i]?=Y e->Reach t e.1 j
def qdg(T:Tb t)(j):t.put j=({ t with place:=insertAt t.place (below t.place j) j },below t.place j):=by
 unfold put;have hd:has t.dummies j=false:=by rw[T.dum]; unfold has; simp
 simp only[hd,Qzm,if_false]
def put_ok{es:Array (J×α)}(I:SI t es){x:α}(hj:j<=t.mask)(hf:¬ Occ t j)(hr:Reach t h j)(hs:es.size+1<=t.mask):
  SI (t.put j).1 (insertAt es (t.put j).2 (h,x)):=by
 obtain⟨b1,b2,b3⟩:=qxs I.tb.up;have l:below t.place j<=es.size:=by rw[<- I.sz]; exact b3
 rw[qdg I.tb];have s:∀j',Occ t j'->Occ { t with place:=insertAt t.place (below t.place j) j } j':=λj' ⟨i,hi⟩=>by
  by_cases h1:i<below t.place j
  ·exact⟨i,by rw[qqv _ _ _ b3,Z6 h1]; exact hi⟩
  ·exact⟨i+1,by rw[qqv _ _ _ b3,Z5 (by lia),Z5 (by lia)]; exact hi⟩
 have o:∀h' j',Reach t h' j'->Reach { t with place:=insertAt t.place (below t.place j) j } h' j':=λh' j' ⟨n,e,q⟩=>⟨n,e,λm u=>s _ (q m u)⟩
 refine⟨⟨I.tb.mask,I.tb.dum,?_,?_,?_⟩,?_,?_⟩
 ·intro i k a b r d hb;have d:=d;have hb:=hb;rw[qqv _ _ _ b3]at d hb;have ne:∀(p c:Y0),t.place[p]?=Y c->c≠j:=λp c e z=>hf ⟨p,by rw[<- z]; exact e⟩
  split at d
  ·split at hb
   ·exact I.tb.up _ _ _ _ r d hb
   ·split at hb
    ·cases hb; exact b1 _ _ (by assumption) d
    ·exact I.tb.up _ _ _ _ (by lia) d hb
  ·split at d
   ·cases d;rw[Z5 (by lia),Z5 (by lia)]at hb;have:=b2 _ _ (by lia) hb;have:=ne _ _ hb
    lia
   ·rw[Z5 (by lia),Z5 (by lia)]at hb;exact I.tb.up _ _ _ _ (by lia) d hb
 ·intro i j' e;have e:=e;rw[qqv _ _ _ b3]at e
  split at e
  ·exact I.tb.le _ _ e
  ·split at e
   ·cases e; exact hj
   ·exact I.tb.le _ _ e
 ·rw[qjy _ _ _ b3,I.sz]; exact hs
 ·rw[qjy _ _ _ b3,qjy _ _ _ l,I.sz]
 ·intro i j' e g f;have g:=g;have f:=f;rw[qqv _ _ _ b3]at g;rw[qqv _ _ _ l]at f
  split at g
  ·rename_i h1;rw[Z6 h1]at f;exact o _ _ (I.reach _ _ _ g f)
  ·rename_i h1;rw[Z5 h1]at f
   split at g
   ·rename_i h2;rw[Z6 h2]at f;cases g; cases f;exact o _ _ hr
   ·rename_i h2;rw[Z5 h2]at f;exact o _ _ (I.reach _ _ _ g f)
def qgw{es:Array (J×α)}(I:SI t es){bad:Y0->Prop}(hb:∀m,m<n->∃i:Y0,t.place[i]?=Y (stp t.mask m (qzs t.mask h)).j/\bad i)(g:¬ Occ t (stp t.mask n (qzs t.mask h)).j):
  ∀(i:Y0) (e:J×α),es[i]?=Y e->e.1=h->bad i:=λi e j o=>by
 have hi:i<t.place.size:=by rw[I.sz]; exact(Qzt.mp j).1
 have c:=Qzj hi;obtain⟨f,a,d⟩:=I.reach _ _ _ c j;rw[o]at a d;rcases Qja n f with h1|h1|h1
 ·exact absurd (d n h1) g
 ·subst h1; exact absurd ⟨i,by rw[a]; exact c⟩ g
 ·obtain⟨l,k,b⟩:=hb f h1;rw[a]at k;have:l=i:=(below_at I.tb.up k).symm.trans (below_at I.tb.up c);rw[<- this]; exact b
def qix(c):SI (α:=α) (PySem.SetTable.fresh 0 0 c) #[]:=
 ⟨⟨.inl rfl,rfl,λi k a b _ h=>by simp[PySem.SetTable.fresh]at h,λi j h=>by simp[PySem.SetTable.fresh]at h,by simp[PySem.SetTable.fresh]⟩,rfl,λi j e h=>by simp[PySem.SetTable.fresh]at h⟩
def OcO(ow:Array (Y3 Y0))(j:Y0):Prop:=∃k,ow[j]?=Y (Y k)
def getD_none(hj:j<a.size):(a.getD j (Y 0)).isNone=O↔¬ OcO a j:=by
 have e:=Qzj hj;rw[Qxq,e]
 cases h:a[j] with
 |none=>simp[OcO,e,h]
 |some k=>simp[OcO,e,h]
theorem qvz(m i pt)(d):∀k,k<=runEnd m i - i->(stp m k (runP m i pt d)).j=i+k/\(stp m k (runP m i pt d)).more=runEnd m i - i - k
 |0,_=>⟨rfl,rfl⟩
 |k+1,h=>by
  obtain⟨h1,h2⟩:=qvz m i pt d k (by lia);rw[qgu];have e:adv m (stp m k (runP m i pt d))={ stp m k (runP m i pt d) with j:=(stp m k (runP m i pt d)).j+1,more:=(stp m k (runP m i pt d)).more - 1 }:=by
   conv=>lhs; unfold adv
   rw[Z6 (by lia)]
  rw[e];exact⟨by show(stp m k (runP m i pt d)).j+1=_; lia,by show(stp m k (runP m i pt d)).more - 1=_; lia⟩
def qjn(h:i<=m):i<=runEnd m i/\runEnd m i<=m:=by unfold runEnd; split<;>lia
def qb2(h:(List.range n).find? p=Y k):k<n/\p k=O/\∀k',k'<k->p k'=false:=by
 have h1:=Qxz h;have h2:=Qz0 h;refine⟨Qz8.mp h2,h1,λk' hk=>?_⟩;rw[List.find?_range_eq_some]at h;have:=h.2.2 k' hk;simpa using this
theorem qe3(hs:c.size=m+1):∀(a i pt b:Y0),i<=m->b<a->¬ OcO c (lp m b (i,pt)).1->
  ∃n j,layClean.free m c a i pt=Y j/\(stp m n (runP m i pt B)).j=j/\j<=m/\¬ OcO c j/\∀k,k<n->OcO c (stp m k (runP m i pt B)).j
 |0,i,pt,b,_,hn,_=>by lia
 |a+1,i,pt,b,hi,hn,he=>by
  unfold layClean.free;obtain⟨r1,r2⟩:=qjn hi
  cases hf:(List.range (runEnd m i+1 - i)).find? λk=>(c.getD (i+k) (Y 0)).isNone with
  |some k=>
   obtain⟨r,q,p⟩:=qb2 hf;refine⟨k,i+k,rfl,(qvz m i pt B k (by lia)).1,by lia,(getD_none (by lia)).mp q,λk' hk=>?_⟩;rw[(qvz m i pt B k' (by lia)).1];have:=p k' hk;apply Classical.byContradiction;intro hc;rw[(getD_none (by lia)).mpr hc]at this;cases this
  |none=>
   have all:=λk hk=>by
    have:=Qx2.mp hf k (Qz8.mpr hk);apply Classical.byContradiction;intro hc;exact this ((getD_none (by lia)).mpr hc)
   cases b with
   |zero=>exact absurd (all 0 (by lia)) he
   |succ b=>
    have hl:(leap m i pt).1<=m:=Qxe (Qjs _ (Qjv _));obtain⟨n,j,o,l,g,f,d⟩:=qe3 hs a (leap m i pt).1 (leap m i pt).2 b hl (by lia) he;refine⟨(runEnd m i - i)+1+n,j,o,?_,g,f,λk hk=>?_⟩
    ·rw[qqc,qki m (runEnd m i - i) (runP m i pt B) rfl]; exact l
    ·rcases Qxx k (runEnd m i - i+1) with h|h
     ·rw[(qvz m i pt B k (by lia)).1]; exact all k (by lia)
     ·have e:k=(runEnd m i - i)+1+(k - (runEnd m i - i+1)):=by lia
      rw[e,qqc,qki m (runEnd m i - i) (runP m i pt B) rfl];exact d _ (by lia)
structure FI (m:Y0) (ow:Array (Y3 Y0)) (hs:L J):Prop where
 size:ow.size=m+1
 val:∀(j k:Y0),ow[j]?=Y (Y k)->k<hs.length
 sur:∀k,k<hs.length->∃j:Y0,ow[j]?=Y (Y k)
 reach:∀(j k:Y0) (h:J),ow[j]?=Y (Y k)->hs[k]?=Y h->∃n,(stp m n (qzs m h)).j=j/\∀q,q<n->OcO ow (stp m q (qzs m h)).j
 cnt:ow.toList.countP Option.isSome=hs.length
def FI.zero(m):FI m (Array.replicate (m+1) B) [] where
 size:=by simp
 val:=λj k h=>by
  rw[Qkj]at h
  split at h<;>simp at h
 sur:=λk h=>by simp at h
 reach:=λj k x h=>by
  rw[Qkj]at h
  split at h<;>simp at h
 cnt:=by rw[Array.toList_replicate]; simp
def FI.some_free(I:FI m a hs)(h:hs.length<=m):∃e,e<=m/\¬ OcO a e:=by
 apply Classical.byContradiction;intro hn;have all:∀x∈a.toList,Option.isSome x=true:=λx c=>by
  obtain⟨j,hj,e⟩:=Qzr c;have b:j<a.size:=by simpa using hj
  have:OcO a j:=Classical.byContradiction λhc=>hn ⟨j,by have:=I.size; lia,hc⟩;obtain⟨k,hk⟩:=this;rw[Qzj b]at hk;rw[Array.getElem_toList]at e;rw[<- e,Option.some.inj hk]; rfl
 have:=List.countP_eq_length.mpr all;have f:=I.cnt;have d:=(Qz3).trans I.size
 lia
def FI.more(y:m=7\/m=31)(I:FI m a hs)(hl:hs.length<=m)(h):
  ∃j,layClean.free m a (turns m) (bits h % (m+1)) (bits h)=Y j/\FI m (a.setIfInBounds j (Y hs.length)) (hs++[h]):=by
 obtain⟨e,A,hf⟩:=I.some_free hl;have ok:=Okp.start (m:=m) h;obtain⟨s,_,x,_,_,o⟩:=qy8 y B ok.i ok.pt A;have o:(lp m s (bits h % (m+1),bits h)).1=e:=o;obtain⟨n,j,v,u,E,p,t⟩:=qe3 I.size (turns m) (bits h % (m+1)) (bits h) s ok.i (by unfold turns; lia) (by rw[o]; exact hf);refine⟨j,v,?_⟩;have hj:j<a.size:=by rw[I.size]; lia
 have d:∀j',(a.setIfInBounds j (Y hs.length))[j']?=if j=j' then Y (Y hs.length) else a[j']?:=λj'=>by
  rw[Array.getElem?_setIfInBounds]
  by_cases h:j=j'
  ·subst h; rw[Z6 rfl,Z6 hj,Z6 rfl]
  ·rw[Z5 h,Z5 h]
 have r:∀j',OcO a j'->OcO (a.setIfInBounds j (Y hs.length)) j':=λj' ⟨k,hk⟩=>by
  unfold OcO;rw[d]
  by_cases h:j=j'
  ·exact⟨_,Z6 h⟩
  ·rw[Z5 h]; exact⟨k,hk⟩
 refine⟨by rw[Array.size_setIfInBounds]; exact I.size,λj' k hk=>?_,λk hk=>?_,λj' k h' hk f=>?_,?_⟩
 ·rw[d]at hk;rw[Qql,Qxy]
  split at hk
  ·cases hk; lia
  ·have:=I.val _ _ hk; lia
 ·rw[Qql,Qxy]at hk;rcases Qxx k hs.length with h1|h1
  ·obtain⟨j',c⟩:=I.sur k h1;refine⟨j',?_⟩;rw[d,Z5 (λz=>p (by rw[z]; exact⟨k,c⟩))]; exact c
  ·have:k=hs.length:=by lia
   subst this;exact⟨j,by rw[d,Z6 rfl]⟩
 ·rw[d]at hk
  split at hk
  ·rename_i l;cases hk;rw[Qzw (Qqv _),Nat.sub_self]at f;cases f;exact⟨n,by rw[<- l]; exact u,λq g=>r _ (t q g)⟩
  ·have i:=I.val _ _ hk;rw[Qqs i]at f;obtain⟨w,D,C⟩:=I.reach _ _ _ hk f;exact⟨w,D,λq g=>r _ (C q g)⟩
 ·rw[Array.toList_setIfInBounds,List.countP_set (by simpa using hj)];have b:(a.toList[j]'(by simpa using hj)).isSome=false:=by
   cases e:a.toList[j]'(by simpa using hj) with
   |none=>rfl
   |some k=>exact absurd ⟨k,by rw[<- Qq1,Qqd (by simpa using hj),e]⟩ p
  simp only[b,I.cnt];simp
theorem qag(f:m=7\/m=31):∀(l:L J) (b:Array (Y3 Y0)) (hs:L J),FI m b hs->hs.length+l.length<=m+1->
  ∃a,l.foldl (λc h=>do let (owner,k) <- c; let j <- layClean.free m owner (turns m) (bits h % (m+1)) (bits h); pure (owner.setIfInBounds j (Y k),k+1)) (Y (b,hs.length))=Y (a,hs.length+l.length)/\FI m a (hs++l)
 |[],b,hs,I,_=>⟨b,rfl,by rw[Qzx]; exact I⟩
 |h::l,b,hs,I,hl=>by
  simp only[Qqh]at hl;obtain⟨j,e,i⟩:=I.more f (by lia) h;obtain⟨a,g,d⟩:=qag f l _ _ i (by simp; lia);refine⟨a,?_,by simpa using d⟩;rw[Qjp];have:(do let (owner,k) <- (Y (b,hs.length):Y3 (Array (Y3 Y0)×Y0)); let j <- layClean.free m owner (turns m) (bits h % (m+1)) (bits h); pure (owner.setIfInBounds j (Y k),k+1))=Y (b.setIfInBounds j (Y hs.length),hs.length+1):=by
   show(layClean.free m b (turns m) (bits h % (m+1)) (bits h)).bind _=_;rw[e]; rfl
  rw[this];have el:hs.length+1=(hs++[h]).length:=by simp
  rw[el,g];simp; lia
def lay_ok(b:m=7\/m=31)(hs)(hl:hs.size<=m+1):∃a,layClean m hs=Y a/\FI m a hs.toList:=by
 obtain⟨a,e,I⟩:=qag b hs.toList _ [] (FI.zero m) (by simpa using hl);refine⟨a,?_,by simpa using I⟩;unfold layClean;rw[<- Array.foldl_toList];exact congrArg (Option.map (·.1)) e
noncomputable def qz2(m:Y0)(ow:Array (Y3 Y0)):L (Y0×Y0):=(List.range (m+1)).filterMap λj=>(ow.getD j B).map (j,·)
def qxx(I:FI m a hs):q∈qz2 m a↔a[q.1]?=Y (Y q.2):=by
 unfold qz2;rw[Qxt];constructor
 ·rintro⟨j,hj,e⟩;have b:j<a.size:=by rw[I.size]; exact Qz8.mp hj
  rw[Qxq,Qzj b]at e
  cases h:a[j] with
  |none=>rw[h]at e; cases e
  |some k=>
   rw[h]at e;cases e;rw[Qzj b,h]
 ·intro e;have hj:=(Qzt.mp e).1;refine⟨q.1,Qz8.mpr (by rw[<- I.size]; exact hj),?_⟩;rw[Qxq,e]
  rfl
def qoz(m)(d):(qz2 m d).Pairwise λa b=>a.1<b.1:=by
 unfold qz2;refine List.Pairwise.filterMap _ (λa g h b hb b' c=>?_) (List.pairwise_lt_range)
 cases e:d.getD a B with
 |none=>rw[e]at hb; cases hb
 |some k=>
  cases f:d.getD g B with
  |none=>rw[f]at c; cases c
  |some k'=>
   rw[e]at hb; rw[f]at c;cases hb; cases c;exact h
def qvk(I:FI m a hs):(qz2 m a).length=hs.length:=by
 unfold qz2;rw[List.length_filterMap_eq_countP,<- I.cnt];have e:a.toList=(List.range (m+1)).map λj=>a.getD j none:=by
  apply List.ext_getElem?;intro j;rw[Qq1,Qqw];rcases Qxx j (m+1) with h|h
  ·rw[Qjz h];have hj:j<a.size:=by rw[I.size]; exact h
   rw[Qzj hj];show _=Y (a.getD j B);rw[Qxq,Qzj hj]; rfl
  ·rw[Qkd (by rw[I.size]; exact h),Qz1 (by simpa using h)]; rfl
 rw[e,List.countP_map];refine List.countP_congr λj _=>?_;simp
theorem qaq{α:Type}(es:Array α):∀(l:L Y0),(∀k∈l,k<es.size)->(l.filterMap λk=>es[k]?).length=l.length/\∀i:Y0,(l.filterMap λk=>es[k]?)[i]?=l[i]?.bind λk=>es[k]?
 |[],_=>⟨rfl,λi=>by simp⟩
 |k::l,h=>by
  obtain⟨h1,h2⟩:=qaq es l λk' hk=>h k' (Qq3 _ hk);have hk:=h k Qzk;have e:=Qzj hk;rw[Qqt,e];refine⟨by simp[h1],λi=>?_⟩
  cases i with
  |zero=>simp[e]
  |succ i=>simp only[Qkv]; exact h2 i
def qoj{led plain:Yb}(r:m=7\/m=31)(es:Array (J×α))(hl:es.size<=m):
  ∃t c,laid m f mv led plain (es.map (·.1))=Y (t,c)/\SI t (c.filterMap (es[·]?))/\(c.filterMap (es[·]?)).size=es.size/\(∀e,e∈(c.filterMap (es[·]?)).toList↔e∈es.toList)/\t.mask=m:=by
 obtain⟨g,e,I⟩:=lay_ok r (es.map (·.1)) (by rw[Array.size_map]; lia);have d:(es.map (·.1)).toList.length=es.size:=by simp
 have v:∀k∈(qz2 m g).map (·.2),k<es.size:=λk hk=>by
  obtain⟨q,l,rfl⟩:=Qqj.mp hk;rw[<- d];exact I.val _ _ ((qxx I).mp l)
 obtain⟨p1,p2⟩:=qaq es _ v;have tl:(((qz2 m g).map (·.2)).toArray.filterMap (es[·]?)).toList=((qz2 m g).map (·.2)).filterMap λk=>es[k]?:=by simp
 have at_:∀i:Y0,(((qz2 m g).map (·.2)).toArray.filterMap (es[·]?))[i]?=((qz2 m g)[i]?.map (·.2)).bind λk=>es[k]?:=λi=>by
  rw[<- Qq1,tl,p2,Qqw]
 have pl:∀i:Y0,((qz2 m g).map (·.1)).toArray[i]?=(qz2 m g)[i]?.map (·.1):=λi=>by simp
 have u:∀j,OcO g j->Occ { mask:=m,place:=((qz2 m g).map (·.1)).toArray,dummies:=#[],finger:=f,led:=led,moves:=mv,plain:=plain } j:=λj ⟨k,hk⟩=>by
  obtain⟨i,hi,e⟩:=Qzr ((qxx I (q:=(j,k))).mpr hk);refine⟨i,?_⟩;rw[pl,Qqd hi,e]; rfl
 have ns:(((qz2 m g).map (·.2)).toArray.filterMap (es[·]?)).size=es.size:=by
  rw[<- Qz3,tl,p1,Qqz,qvk I,d]
 refine⟨{ mask:=m,place:=((qz2 m g).map (·.1)).toArray,dummies:=#[],finger:=f,led:=led,moves:=mv,plain:=plain },((qz2 m g).map (·.2)).toArray,?_,⟨⟨r,rfl,?_,?_,?_⟩,?_,?_⟩,ns,?_,rfl⟩
 ·unfold laid;rw[e]; rfl
 ·intro i k a b p s hb;rw[pl]at s hb;obtain⟨x,h,rfl⟩:=Qqa.mp s;obtain⟨y,A,rfl⟩:=Qqa.mp hb;obtain⟨h1,E⟩:=Qqk.mp h;obtain⟨h2,D⟩:=Qqk.mp A;have:=Qxb.mp (qoz m g) i k h1 h2 p;rw[E,D]at this;exact this
 ·intro i j hj;rw[pl]at hj;obtain⟨x,h,rfl⟩:=Qqa.mp hj;have:=(qxx I).mp (Qqi h);have:=(Qzt.mp this).1;rw[I.size]at this;show x.1<=m
  lia
 ·rw[Qqc,Qqz,qvk I,d]; exact hl
 ·rw[Qqc,Qqz,qvk I,d,ns]
 ·intro i j x hj h;rw[pl]at hj;rw[at_]at h;obtain⟨q,l,rfl⟩:=Qqa.mp hj;rw[l]at h;have h:es[q.2]?=Y x:=h;have C:=(qxx I).mp (Qqi l);obtain⟨n,H,G⟩:=I.reach q.1 q.2 x.1 C (by rw[Qq1,Array.getElem?_map,h]; rfl);exact⟨n,H,λz w=>u _ (G z w)⟩
 ·intro x;rw[tl,Qxt];constructor
  ·rintro⟨k,_,hk⟩;exact Qqi (by rw[Qq1]; exact hk)
  ·intro h;obtain⟨k,hk,F⟩:=Qzr h;have o:k<(es.map (·.1)).toList.length:=by rw[d]; simpa using hk
   obtain⟨j,hj⟩:=I.sur k o;refine⟨k,Qqj.mpr ⟨(j,k),(qxx I).mpr hj,rfl⟩,?_⟩;rw[<- Qq1,Qqd hk,F]
def qdh(T:Tb t)(b:Okp t.mask p)(c:t.probe a h p=met):
  ∃n,(∀m,m<n->∃i:Y0,t.place[i]?=Y (stp t.mask m p).j/\a i≠h)/\
   ((¬ Occ t (stp t.mask n p).j/\met=Y (.empty (stp t.mask n p).j B))\/
    (∃i:Y0,t.place[i]?=Y (stp t.mask n p).j/\a i=h/\met=Y (.candidate (stp t.mask n p).j i (stp t.mask (n+1) p)))):=by
 subst c;exact qbl T b
theorem SI.fits(I:SI t es):t.fits es.size=true:=by
 unfold SetTable.fits SetTable.fill;rw[I.tb.dum];have:=I.tb.few;simp[I.sz];rw[<- I.sz]; exact this
def Tb.stays(T:Tb t):t.gaveWay=false:=by
 unfold SetTable.gaveWay;rcases T.mask with h|h<;>rw[h]<;>rfl
section
variable {prog:Program}{w:Qj}{A:Qk}{E:Y8->Qz->Prop}{s:Qz}[DecidableEq K]{knd:KeyKind prog w K}
def qkb(n)(h:carriedByValue v=O):Zf n v=pure false:=by
 cases v with
 |ref a=>simp[carriedByValue]at h
 |_=>unfold Zf; rfl
def qke(hk:IsTupleKey knd s.heap ks b)(h:Q Y6 s):wpAny ?r A (Zf 8 (.ref b)) Q E s:=by
 have f:=hk.typeIs;obtain⟨o,c,n,e,hc,hd,hi⟩:=hk;unfold Zf;refine Qq (wpAny_typeOf f ?_);refine Qq ?_;refine Qx ?_;simp only[ if_false];refine Qq (Qo e hd ?_);refine Qq ?_;rw[<- Array.forIn_toList];refine wpAny_forIn_list _ (λrest r s'=>r.1=B/\s'=s/\∀v∈rest,carriedByValue v=O) _ ?_ ?_ _ _ ⟨rfl,rfl,hi.byValue⟩
 ·rintro v rest r s' ⟨hr,rfl,a⟩;rw[qkb _ (a v Qzk)];refine Qq (Qx ?_);simp only[Qzm];exact Qx ⟨rfl,rfl,λu d=>a u (Qq3 _ d)⟩
 ·rintro⟨r1,r2⟩ s' ⟨hr,rfl,_⟩;simp only at hr;subst hr;exact Qx h
def ql5(d:IsTupleKey knd s.heap ks x)(hl:∀y∈l,∃b k,y=.ref b/\IsTupleKey knd s.heap k b)(h:Q Y6 s):
  wpAny ?r A (searchCouldBeSeen (.ref x) l) Q E s:=by
 unfold searchCouldBeSeen;refine Qq ?_;refine wpAny_forIn_list _ (λrest r s'=>r.1=B/\s'=s/\∀y∈rest,∃b k,y=.ref b/\IsTupleKey knd s.heap k b) _ ?_ ?_ _ _ ⟨rfl,rfl,hl⟩
 ·rintro y rest r s' ⟨hr,rfl,a⟩;obtain⟨b,k,rfl,hb⟩:=a y Qzk;have f:(carriedByValue (Value.ref x)&&carriedByValue (Value.ref b))=false:=rfl;simp only[f,Bool.or_false]
  by_cases e:(x==b)=O
  ·rw[Z6 e];exact Qx ⟨rfl,rfl,λu c=>a u (Qq3 _ c)⟩
  ·rw[Z5 e];refine Qq (wpAny_eqIsQuiet_tuple d ?_);simp only[Qkg,if_false];refine Qq (wpAny_eqIsQuiet_tuple hb ?_);simp only[Qkg,if_false];refine Qq (qke d ?_);simp only[Qzm];refine Qq (qke hb ?_);simp only[Qzm];exact Qx ⟨rfl,rfl,λu c=>a u (Qq3 _ c)⟩
 ·rintro⟨r1,r2⟩ s' ⟨hr,rfl,_⟩;simp only at hr;subst hr;exact Qx h
end
section
def ints_of(h:ItemsAre ?g ks vs):∀v∈vs,∃i t,v=.int i t:=by
 induction h with
 |nil=>intro v hv; simp at hv
 |@cons k b ks vs h1 _ a=>
  intro v hv;rcases Qqb.mp hv with rfl|hv
  ·obtain⟨t,e⟩:=Value.isInt_shape (h1);exact⟨k,t,e⟩
  ·exact a v hv
def qbx(hk:IsTupleKey ?g s.heap ks b)(h:Q O s):wpAny ?r A (hashByValue 8 (.ref b)) Q E s:=by
 have g:=hk.typeIs;obtain⟨o,c,n,f,hc,hd,hi⟩:=hk;unfold hashByValue;refine Qq (Zy g F.slot_tuple_hash.lookup ?_);refine Qq (Qo f hd ?_);refine Qq ?_;show wpAny _ _ (forIn c _ _) _ _ s;rw[<- Array.forIn_toList];refine wpAny_forIn_list _ (λrest r s'=>r.1=B/\s'=s/\∀v∈rest,∃i t,v=.int i t) _ ?_ ?_ _ _ ⟨rfl,rfl,ints_of hi⟩
 ·rintro v rest r s' ⟨hr,rfl,a⟩;obtain⟨i,t,rfl⟩:=a v Qzk;have e:hashByValue 7 (.int i t)=pure true:=by simp[hashByValue]
  rw[e];refine Qq (Qx ?_);simp only[ if_false];exact Qx ⟨rfl,rfl,λu d=>a u (Qq3 _ d)⟩
 ·rintro⟨r1,r2⟩ s' ⟨hr,rfl,_⟩;simp only at hr;subst hr;exact Qx h
def Els(prog:Program)(w:Qj)(h:Heap)(es:Array (J×Y8)):Prop:=∀(i:Y0) (e:J×Y8),es[i]?=Y e->∃b k,e=(tupleKeyHash ?g k,.ref b)/\IsTupleKey ?g h k b
def Bad(prog:Program)(w:Qj)(h:Heap)(es:Array (J×Y8))(k:L J)(i:Y0):Prop:=∀(e:J×Y8) (b:Y7) (k':L J),es[i]?=Y e->e.2=.ref b->IsTupleKey ?g h k' b->k'≠k
theorem qvs(hu:A.units<cLine)(T:s.heap.get? a=Y o)(hd:o.data=.set es ep t)(I:SI t es)(r:Els prog w s.heap es)(S:IsTupleKey ?g s.heap k x)(hf:∀n,(∀m,m<n->∃i:Y0,t.place[i]?=Y (stp t.mask m ?H).j/\Bad prog w s.heap es k i)->¬ Occ t (stp t.mask n ?H).j->
   Q (.free (stp t.mask n ?H).j Y6) s)(ht:(∃(i:Y0) (b:Y7) (g:J),es[i]?=Y (g,.ref b)/\IsTupleKey ?g s.heap k b)->Q (.there B) s)(N)(hN:¬ Occ t (stp t.mask N ?H).j):
  ∀(d c:Y0) (f:Y3 Probe),f.getD (t.probeStart (tupleKeyHash ?g k))=stp t.mask c ?H->c<=N->N - c<d->
   (∀m,m<c->∃i:Y0,t.place[i]?=Y (stp t.mask m ?H).j/\Bad prog w s.heap es k i)->
   wpAny ?r A (Z2 a (.ref x) (tupleKeyHash ?g k) O d f) Q E s
 |0,c,_,_,_,U,_=>by lia
 |d+1,c,f,hst,hle,U,H=>by
  unfold Z2;refine Qq (Q8 T hd I.fits ?_);dsimp only;rw[I.tb.stays];simp only[Qzm];rw[hst];generalize hm:SetTable.probe t _ _ _=met;have R:Okp t.mask (stp t.mask c ?H):=(Okp.start _).stp c;obtain⟨n,p1,p2⟩:=qdh I.tb R hm;have K:∀m,m<n->∃i:Y0,t.place[i]?=Y (stp t.mask (c+m) ?H).j/\Bad prog w s.heap es k i:=λm C=>by
   obtain⟨i,i1,i2⟩:=p1 m C;refine⟨i,by rw[qqc]; exact i1,λe b k' p hb W z=>i2 ?_⟩;obtain⟨b',a2,P,q⟩:=r i e p;have:(es[i]?.map (·.1)).getD 0=tupleKeyHash ?g k:=by
    rw[p,P];rw[P]at hb;cases hb;rw[q.inj W,z]; rfl
   exact this
  have l:∀m,m<c+n->∃i:Y0,t.place[i]?=Y (stp t.mask m ?H).j/\Bad prog w s.heap es k i:=λm C=>by
   rcases Qxx m c with h|h
   ·exact H m h
   ·obtain⟨i,i1,i2⟩:=K (m - c) (by lia);rw[show c+(m - c)=m by lia]at i1;exact⟨i,i1,i2⟩
  rw[<- qqc]at p2;rcases p2 with⟨D,rfl⟩|⟨i,D,q2,rfl⟩
  ·dsimp only;exact Qx (hf _ l D)
  ·dsimp only;have hi:i<es.size:=by rw[<- I.sz]; exact(Qzt.mp D).1
   have p:=Qzj hi;obtain⟨b,k',P,hb⟩:=r i _ p;rw[P]at p;have a3:c+n<N:=by
    rcases Qja (c+n) N with h|h|h
    ·exact h
    ·exact absurd ⟨i,by rw[<- h]; exact D⟩ hN
    ·obtain⟨u,i1,_⟩:=l N h;exact absurd ⟨u,i1⟩ hN
   have rest:wpAny ?r A (do
     let j <- holding [Value.ref b] (eqBool (.ref b) (.ref x))
     let (a1,_,t') <- setState a
     if O&&j then return .there B
     let Y same:=t'.sameMemory t.moves t.mask|unsupported "set.changed-during-lookup:is-the-new-block-at-the-old-address"
     let v <- match (if same then t'.slot (stp t.mask (c+n) ?H).j else .empty) with
      |.live u=>match a1[u]? with
       |some (_,y')=>do pure (if <- isSame y' (.ref b) then Y u else B)
       |none=>pure B
      |_=>pure B
     match v with
     |none=>rule "set.search.anew"; Z2 a (.ref x) (tupleKeyHash ?g k) O d B
     |some u=>if j then return .there (Y u) else Z2 a (.ref x) (tupleKeyHash ?g k) O d (Y (stp t.mask (n+1) (stp t.mask c ?H)))) Q E s:=by
    refine Qq (Q4 (wpAny_eqBool_tuple hu hb S ?_));refine Qq (Q8 T hd I.fits ?_)
    by_cases hk:k'=k
    ·subst hk;simp only[ if_true];exact Qx (ht ⟨i,b,_,p,hb⟩)
    ·have ek:=Z4 hk;simp only[ek,if_false];have em:t.sameMemory t.moves t.mask=Y true:=by unfold SetTable.sameMemory; simp
     rw[em];simp only[if_true];rw[qji I.tb D];dsimp only;rw[p];refine Qq (wpAny_isSame_ref_self ?_);simp only[if_true];refine Qq (Qx ?_);refine qvs hu T hd I r S hf ht N hN d (c+n+1) _ ?_ (by lia) (by lia) λm C=>?_
     ·rw[<- qqc]; rfl
     ·rcases Qxx m (c+n) with h|h
      ·exact l m h
      ·have:m=c+n:=by lia
       subst this;refine⟨i,D,λe b1 k1 G a0 V z=>hk ?_⟩;rw[p]at G;cases G;cases a0;rw[hb.inj V,z]
   have F:∀y∈(es.filter (·.1==tupleKeyHash ?g k)).toList.map (·.2),∃b k,y=.ref b/\IsTupleKey ?g s.heap k b:=λy hy=>by
    obtain⟨e,h1,rfl⟩:=Qqj.mp hy;have h2:e∈es.toList:=by
     rw[Array.toList_filter]at h1;exact(Qzn.mp h1).1
    obtain⟨u,X,e1⟩:=Qzr h2;obtain⟨b',k1,e2,q⟩:=r u e (by rw[<- Qq1,Qqd X,e1]);exact⟨b',k1,by rw[e2],q⟩
   cases hl:t.led with
   |true=>
    simp only[Qkg,if_false];rw[p];exact rest
   |false=>
    simp only[Bool.not_false];refine Qq (ql5 S F ?_);simp only[Qzm];rw[p];exact rest
end
section
def TS(prog:Program)(w:Qj)(h:Heap)(a:Y7)(S:L (L J)):Prop:=∃o es ep t,h.get? a=Y o/\o.ExactSet/\o.data=.set es ep t/\SI t es/\Els prog w h es/\es.size=S.length/\
 (∀k,k∈S↔∃g b,(g,Value.ref b)∈es.toList/\IsTupleKey ?g h k b)/\(t.mask=7->es.size<=4)
def qee(g:h.get? a=Y o)(hd:o.data=.set es i t)(hs:Heap.SameBut a h h')(x:IsTupleKey ?g h k b):IsTupleKey ?g h' k b:=by
 obtain⟨o',c,n,e,hc,d,hi⟩:=x;have f:b≠a:=by
  rintro rfl;obtain rfl:o'=o:=Option.some.inj (e.symm.trans g);rw[hd]at d; exact nomatch d
 exact⟨o',c,n,(hs.2 b f).trans e,hc,d,hi⟩
def qea:SetTable.sizeAbove (SetTable.grown 5)=32:=by decide
def qg9(f:s.heap.get? a=Y o)(hd:o.data=.set es g t)(I:SI t es)(k:es.size=5)(h:∀h' o' c d,Heap.SameBut a s.heap h'->h'.get? a=Y o'->(o.ExactSet->o'.ExactSet)->o'.data=.set c (g+1) d->SI d c->c.size=es.size->(∀e,e∈c.toList↔e∈es.toList)->d.mask=31->Q () { s with heap:=h' }):
  wpAny ?r A (setRelay a (SetTable.grown 5)) Q E s:=by
 unfold setRelay;refine Qq (Q8 f hd I.fits ?_);dsimp only;rw[Z5 (by rw[qea]; decide)];obtain⟨d,b,i,n,z,mem,mk⟩:=qoj (mv:=t.movedTo (SetTable.sizeAbove (SetTable.grown 5) - 1)) (.inr rfl) es (by lia);have m:t.relaid (es.map (·.1)) (SetTable.grown 5)=Y (d,b):=by
  unfold SetTable.relaid;rw[qea]at i ⊢;exact i
 rw[m];refine Qq ?_
 change wpAny _ _ (do
  let Y (t,b):=(Y (d,b):Y3 (Qy×Array Y0))|unsupported "internal:set-table-without-room"
  let c:=b.filterMap (es[·]?)
  if c.size != es.size then unsupported "internal:set-table-lost-an-element"
  pure (c,t)) _ _ _
 dsimp only;have l:((b.filterMap (es[·]?)).size != es.size)=false:=by rw[z]; simp
 rw[l];simp only[Qzm];refine Qx ?_;refine wpAny_storeSet_of f hd ?_ (by rw[z,k,Q0]; decide);have j:(s.heap.update a (Obj.putSet (b.filterMap (es[·]?)) d)).get? a=Y { o with data:=.set (b.filterMap (es[·]?)) (g+1) d }:=by
  have:=Qji (Obj.putSet (b.filterMap (es[·]?)) d) f (by rw[putSet_of _ _ hd]; rfl);rw[putSet_of _ _ hd]at this; exact this
 exact h _ _ _ _ (Heap.SameBut.update _ a _) j (λq=>q) rfl n z mem mk
def qoa(h):(qzs m h).j+(qzs m h).more<=m:=by
 have hi:bits h % (m+1)<=m:=Qxe (Qjs _ (Qjv _));obtain⟨r1,r2⟩:=qjn hi;show bits h % (m+1)+(runEnd m (bits h % (m+1)) - bits h % (m+1))<=m
 lia
def j_next(h:p.j+p.more<=m):(adv m p).j+(adv m p).more<=m:=by
 unfold adv
 split
 ·show p.j+1+(p.more - 1)<=m; lia
 ·have hi:(leap m p.i p.perturb).1<=m:=Qxe (Qjs _ (Qjv _));obtain⟨r1,r2⟩:=qjn hi;show(leap m p.i p.perturb).1+(runEnd m (leap m p.i p.perturb).1 - (leap m p.i p.perturb).1)<=m
  lia
theorem j_stp:∀(n:Y0){p:Probe},p.j+p.more<=m->(stp m n p).j+(stp m n p).more<=m
 |0,_,h=>h
 |n+1,_,h=>j_stp n (j_next h)
def add_ok(hu:A.units<cLine)(hT:TS prog w s.heap a S)(T:IsTupleKey ?g s.heap k x)(hl:S.length<=15)(h:∀b h',Heap.SameBut a s.heap h'->TS prog w h' a (if k∈S then S else S++[k])->Q b { s with heap:=h' }):
  wpAny ?r A (setAddHashed a (.ref x) (tupleKeyHash ?g k)) Q E s:=by
 have b5:=hT;obtain⟨o,es,ep,t,G,a2,hd,I,v,U,f,h4⟩:=hT;have D:∀{e:J×Y8},e∈es.toList->∃i:Y0,es[i]?=Y e:=λ{e} he=>by
  obtain⟨i,hi,e1⟩:=Qzr he;exact⟨i,by rw[<- Qq1,Qqd hi,e1]⟩
 unfold setAddHashed setAddHashedIn;refine Q4 (Qq (Q8 G hd I.fits ?_));dsimp only;have eb:byScan (.ref x) es=false:=rfl;rw[eb];simp only[Qzm];obtain⟨fr,b1,b2⟩:=some_free I.tb;obtain⟨N,hN,eN⟩:=hits I.tb.mask (Okp.start (tupleKeyHash ?g k)) b1;refine Qq ?_;unfold setSearch;refine qvs hu G hd I v T (λn C r=>?_) (λa7=>?_) N (by rw[eN]; exact b2) 100000 0 B rfl (Qzl _) ?_ (λm u=>by lia)
 ·-- b8 element is new
  have W:k ∉ S:=λhk=>by
   obtain⟨g,b,u,hb⟩:=(f k).mp hk;obtain⟨i,hi⟩:=D u;obtain⟨b',k',H,b4⟩:=v i _ hi;have e1:=congrArg Prod.fst H;have e2:=Value.ref.inj (congrArg Prod.snd H);subst e2;obtain rfl:=hb.inj b4;exact qgw I C r i _ hi e1 _ b k hi rfl hb rfl
  have a9:es.size+1<=t.mask:=by
   rcases I.tb.mask with q|q
   ·have:=h4 q; lia
   ·lia
  have X:(stp t.mask n ?H).j<=t.mask:=Qzh (Qjf _ _) (j_stp n (qoa _));generalize hj:(stp t.mask n ?H).j=j at *;have I1:SI (t.put j).1 ?w:=put_ok I X r ⟨n,hj,λm u=>by obtain⟨i,hi,_⟩:=C m u; exact⟨i,hi⟩⟩ a9;refine Qq (Q8 G hd I.fits ?_);have V:(t.put j).2<=es.size:=by rw[qdg I.tb,<- I.sz]; exact(qxs I.tb.up).2.2
  have p:(t.put j).1.mask=t.mask:=by rw[qdg I.tb]
  have c:(?w).size=es.size+1:=qjy _ _ _ V;have y:∀e,e∈(?w).toList↔e∈es.toList\/e=(tupleKeyHash ?g k,Value.ref x):=λe=>qom V;have a4:∀(h':Heap) (d:Array (J×Y8)),Heap.SameBut a s.heap h'->(∀e,e∈d.toList↔e∈es.toList\/e=(tupleKeyHash ?g k,Value.ref x))->
    Els prog w h' d/\∀k',k'∈S++[k]↔∃g b,(g,Value.ref b)∈d.toList/\IsTupleKey ?g h' k' b:=λh' d P u=>by
   have kp:∀{b:Y7}{k':L J},IsTupleKey ?g s.heap k' b->IsTupleKey ?g h' k' b:=λq=>qee G hd P q;refine⟨λi e he=>?_,λk'=>?_⟩
   ·rcases (u e).mp (Qqi (by rw[Qq1]; exact he)) with q|q
    ·obtain⟨i',F⟩:=D q;obtain⟨b,k',H,hb⟩:=v i' _ F;exact⟨b,k',H,kp hb⟩
    ·exact⟨x,k,q,kp T⟩
   ·constructor
    ·intro hk;rcases Qqr.mp hk with q|q
     ·obtain⟨g,b,q1,q2⟩:=(f k').mp q;exact⟨g,b,(u _).mpr (.inl q1),kp q2⟩
     ·rw[Qqy]at q;subst q;exact⟨_,x,(u _).mpr (.inr rfl),kp T⟩
    ·rintro⟨g,b,q1,q2⟩;rcases (u _).mp q1 with q|q
     ·obtain⟨i',F⟩:=D q;obtain⟨b',b9,H,hb⟩:=v i' _ F;have e2:=Value.ref.inj (congrArg Prod.snd H);subst e2;obtain rfl:=q2.inj (kp hb);exact Qzb _ ((f k').mpr ⟨g,b,q,hb⟩)
     ·have e2:=Value.ref.inj (congrArg Prod.snd q);subst e2;obtain rfl:=q2.inj (kp T);exact Qqn _ (by simp)
  have z:∀(b:Yb) (l:Qy),SI l ?w->l.mask=t.mask->
    wpAny ?r A (do
     storeSet a ?w l
     if (!Y6&&l.tooFull)=O then do
      setRelay a (SetTable.grown (es.size+1))
      pure O
     else pure O) Q E s:=λb l I2 b0=>by
   refine Qq (wpAny_storeSet_of G hd ?_ (by rw[c,Q0]; lia));have hg:(s.heap.update a (Obj.putSet ?w l)).get? a=Y { o with data:=.set ?w (ep+1) l }:=by
    have:=Qji (Obj.putSet ?w l) G (by rw[putSet_of _ _ hd]; rfl);rw[putSet_of _ _ hd]at this; exact this
   have P:=Heap.SameBut.update s.heap a (Obj.putSet ?w l);obtain⟨fe,fm⟩:=a4 _ _ P y;have a3:l.tooFull=decide ((es.size+1)*5 >= t.mask*3):=by
    unfold SetTable.tooFull SetTable.fill;rw[I2.tb.dum,I2.sz,c,b0]; rfl
   rw[a3]
   by_cases a0:(es.size+1)*5 >= t.mask*3
   ·have m7:t.mask=7:=by
     rcases I.tb.mask with q|q
     ·exact q
     ·lia
    have e5:es.size+1=5:=by have:=h4 m7; lia
    simp only[Z3 a0,if_true];rw[e5];refine Qq (qg9 hg rfl I2 (by rw[c,e5]) λh' o' d t' a5 a8 a1 b3 I' z' R a6=>Qx ?_);have K:=P.trans a5;obtain⟨b7,b6⟩:=a4 h' d K λe=>(R e).trans (y e);refine h O h' K ?_;rw[Z5 W];exact⟨o',d,_,t',a8,a1 a2,b3,I',b7,by rw[z',c,U]; simp,b6,λq=>by rw[a6]at q; cases q⟩
   ·simp only[Z4 a0,if_false];refine Qx (h O _ P ?_);rw[Z5 W];exact⟨_,_,_,l,hg,a2,rfl,I2,fe,by rw[c,U]; simp,fm,λq=>by rw[c]; lia⟩
  cases c0:(t.put j).1.plain with
  |true=>
   simp only[if_true];refine Qq (qbx T ?_);simp only[if_true];exact z O _ I1 p
  |false=>
   simp only[ if_false];refine Qq (Qx ?_);simp only[if_true];exact z O _ I1 p
 ·-- it is there
  refine Qx ?_;obtain⟨i,b,g,hi,hb⟩:=a7;have hk:=(f k).mpr ⟨g,b,Qqi (by rw[Qq1]; exact hi),hb⟩;have e:s={ s with heap:=s.heap }:=by cases s; rfl
  rw[e];exact h Y6 s.heap (Heap.SameBut.refl a s.heap) (by rw[Z6 hk]; exact b5)
 ·have:t.mask<=31:=by rcases I.tb.mask with q|q<;>lia
  unfold SetTable.turns at hN
  lia
end
end ST
end
section
namespace ST
open PySem SetTable PyProof.Rows
noncomputable def addK(S:L (L J))(k:L J):L (L J):=if k∈S then S else S++[k]
noncomputable def distinct(ks:L (L J)):L (L J):=ks.foldl addK []
def qpa(S)(k):(addK S k).length<=S.length+1:=by unfold addK; split<;>simp
theorem foldK_le:∀(l S:L (L J)),(l.foldl addK S).length<=S.length+l.length
 |[],S=>by simp
 |k::l,S=>by
  have:=foldK_le l (addK S k);have:=qpa S k;rw[Qjp,Qqh]; lia
section
variable {prog:Program}{w:Qj}{A:Qk}{R:Result->Qz->Prop}{I:Y7}{fp wr:L Y7}{G:Array GenState->Array GenState->Prop}{n:Y0}{P:Y0->Y8->Prop}{St:Y0->Qz->Prop}
def TS.keeps(x:TS prog w h a S)(hk:∀b o,(b=a\/∃k,IsTupleKey ?g h k b)->h.get? b=Y o->h'.get? b=Y o):TS prog w h' a S:=by
 obtain⟨o,es,C,t,v,s,hd,I,f,m,d,z⟩:=x;have kp:∀{b:Y7}{k':L J},IsTupleKey ?g h k' b->IsTupleKey ?g h' k' b:=λ{b k'} q=>by
  obtain⟨o',c,n,p,r⟩:=id q;exact⟨o',c,n,hk b o' (.inr ⟨k',q⟩) p,r⟩
 refine⟨o,es,C,t,hk a o ?qp v,s,hd,I,λi e y=>?_,m,λk=>?_,z⟩
 ·obtain⟨b,k,u,q⟩:=f i e y;exact⟨b,k,u,kp q⟩
 ·rw[d k];constructor
  ·rintro⟨g,b,j,l⟩; exact⟨g,b,j,kp l⟩
  ·rintro⟨g,b,j,l⟩;obtain⟨i,hi,E⟩:=Qzr j;obtain⟨b',k',u,q⟩:=f i (g,.ref b) (by rw[<- Qq1,Qqd hi,E]);have D:=Value.ref.inj (congrArg Prod.snd u);subst D;obtain rfl:=l.inj (kp q);exact⟨g,b,j,q⟩
def qn9(hu:A.in1.units<cLine)(W:WalksS prog w A.in1 I fp wr G n P St)(S)(N:S ∉ fp)(l:∀b∈wr,∀s i,St i s->¬ ∃k,IsTupleKey ?g s.heap k b)(ks)(hn:ks.length=n)(a9:n<=16)(p:∀i v,P i v->∃b,v=.ref b)(Kp:Qz->Prop)(a3:∀s i b,Kp s->P i (.ref b)->∃k,ks[i]?=Y k/\IsTupleKey ?g s.heap k b)(E:∀s s',Kp s->(∀b o,(∃k,IsTupleKey ?g s.heap k b)->s.heap.get? b=Y o->s'.heap.get? b=Y o)->Kp s'):
  ∀(k i:Y0) (s:Qz),n - i=k->i<=n->St i s->Kp s->TS prog w s.heap S ((ks.take i).foldl addK [])->
   (∀s',Moved (S::wr) G s s'->TS prog w s'.heap S (distinct ks)->R (.ok (.ret .none)) s')->
   Zc ?r A (.builtin "set.update.loop" ⟨[.ref S,.ref I],[]⟩) R s:=by
 have a6:=λh=>N (W.sub _ h);have c:∀b∈wr,b∈S::wr:=λb hb=>Qq3 _ hb
 have j:∀{s s':Qz}{i:Y0}{Lq:L (L J)},St i s->Moved wr G s s'->TS prog w s.heap S Lq->TS prog w s'.heap S Lq:=λ{s s' i Lq} st d x=>x.keeps λb o hb u=>d.heap b o (λV=>by
  rcases hb with rfl|hb
  ·exact a6 V
  ·exact l b V s i st hb) u
 intro k
 induction k with
 |zero=>
  intro i s hk hi hst U hS hR;have a4:i=n:=by lia
  subst a4;refine Za F.entry_set_update_loop ?_;rw[Around.under_plainId F.plain_set_update_loop _];refine Qq (W.done s _ _ hst λs' d=>Qx (hR s' (d.mono c) (j hst d ?_)));rw[<- hn,Qzg]at hS;exact hS
 |succ k ih=>
  intro i s hk hi hst U hS hR;have C:i<n:=by lia
  refine Za F.entry_set_update_loop ?_;rw[Around.under_plainId F.plain_set_update_loop _];refine Qq (W.item i s _ _ C hst λv s' hP r d=>?_);obtain⟨b,rfl⟩:=p i v hP;have f:=E s s' U λb' o hb u=>d.heap b' o (λV=>l b' V s i hst hb) u;obtain⟨key,H,hb⟩:=a3 s' i b f hP;have T:=j hst d hS;refine Qq (Q4 ?_);unfold setAdd;refine Q4 ?_;refine Qq (wpAny_pyHash_tuple hu hb ?_);have D:((ks.take i).foldl addK []).length<=15:=by
   have:=foldK_le (ks.take i) [];rw[Qq9]at this;simp at this
   lia
  have a2:(ks.take (i+1)).foldl addK []=addK ((ks.take i).foldl addK []) key:=by
   rw[Qj2,H,Qx6]; rfl
  refine add_ok hu T hb D λ_ h' g a8=>?_;have a7:TS prog w h' S ((ks.take (i+1)).foldl addK []):=by rw[a2]; exact a8
  have a0:∀{b':Y7},(∃k,IsTupleKey ?g s'.heap k b')->b'≠S:=λ{b'} ⟨k',q⟩ z=>by
   obtain⟨o,es,ep,t,u,_,hd,_⟩:=T;obtain⟨o',a1,m,a,_,K,_⟩:=q;rw[z]at a;obtain rfl:o'=o:=Option.some.inj (a.symm.trans u);rw[hd]at K; exact nomatch K
  refine Qx ⟨plainId_quiet F.plain_set_update_loop _,ih (i+1) _ (by lia) C (W.frame _ s' _ _ r (Qjf _ _) λb hb o e=>?_) (E s' _ f λb' o a5 a=>(g.2 b' (a0 a5)).trans a) a7 λX y Q=>?_⟩
  ·rw[g.2 b (λh:b=S=>N (by rw[<- h]; exact hb))]; exact e
  ·refine hR X (Moved.trans W.gtrans ((d.mono c).then_heap (Qjf _ _) λb o hb e=>?_) y) Q;rw[g.2 b (λh:b=S=>hb (by rw[h]; exact Qzk))]; exact e
end
end ST
end
section
namespace ST
open PySem SetTable
def qgg:isSubtype (.type "tuple") (.type "set")=pure false:=by rw[Zd]; kernel_rfl
def qw2:isSubtype (.type "tuple") (.type "frozenset")=pure false:=by rw[Zd]; kernel_rfl
noncomputable abbrev bare(led:Yb):Obj:={ cls:=.type "set",dict:=B,data:=.set #[] 0 (.fresh 0 0 led) }
def Cells(prog:Program)(w:Qj)(h:Heap)(items:Array Y8)(ks:L (L J)):Prop:=∀(i:Y0) (v:Y8),items[i]?=Y v->∃b k,v=.ref b/\ks[i]?=Y k/\IsTupleKey ?g h k b
section
def qh5(calm:Bq.handled=B)(room:Bq.units+4<cLine)(tup:c.IsTuple l items)(d:Cells prog w c items ks)(W:ks.length=items.size)(V:items.size<=16)(hs:s.heap=c.push (bare a))(done:∀h1 k1,TS prog w h1 c.objs.size (distinct ks)->(∀b o,b<c.objs.size->c.get? b=Y o->h1.get? b=Y o)->I (.done (.ret .none)) { s with heap:=h1,toks:=k1 }):
  wpAny ?r Bq (Qs.«set.__init__» ⟨[.ref c.objs.size,.ref l],[]⟩) I E s:=by
 obtain⟨H,gs,dr,tk,os⟩:=s;subst hs;obtain⟨⟨tc,td,F,P⟩,G,R,nl,Q⟩:=id tup;subst R Q;have at0:(c.push (bare a)).get? c.objs.size=Y (bare a):=Qqf _ rfl;have A:=Qqx (bare a) G;have a1:=qgg;have a2:=qw2;have a3:(Value.type "tuple" == Value.type "dict")=false:=by decide
 have a0:Shared.TypeIs ⟨c.push (bare a),gs,dr,tk,os⟩ (.ref c.objs.size) "set":=⟨_,at0,rfl⟩
 have g:(c.push (bare a)).IsTuple l items:=⟨_,A,rfl,nl,rfl⟩
 unfold Qs.«set.__init__» noKeywords Builtin.Frozenset.updateFrom;generalize ei:pyIter=C
 wp_walk
 subst ei;refine wpAny_pyIter_tuple g (Qq (wpAny_runValue ?_));have p:=Qqe G;have sz:(c.push (bare a)).objs.size=c.objs.size+1:=Qxv ..;have U:l≠(c.push (bare a)).objs.size:=by rw[sz]; exact Qq6 (Qx5 p)
 have T:c.objs.size ∉ [(c.push (bare a)).objs.size,l]:=by
  rw[sz];simp only[Qqb,Qzi,or_false,not_or];exact⟨Qq6 (Qzo _),Qxi p⟩
 refine qn9 (by show Bq.units+1<cLine; lia) ((Walks.tuple (by simp[calm]) _ l U items).toS) c.objs.size T ?f ks W V (λi v hv=>?isRef)
  (λz=>∀(i:Y0) (b:Y7),items[i]?=Y (.ref b)->∃k,ks[i]?=Y k/\IsTupleKey ?g z.heap k b) (λz i b q H=>q i b H) ?stay items.size 0 _ rfl (Qzl _) ⟨⟨_,Qqf _ rfl,rfl,rfl⟩,?j⟩ ?keys ?empty ?fin
 case isRef=>obtain⟨b,_,e,_⟩:=d i v hv; exact⟨b,e⟩
 case j=>obtain⟨ob,e1,e2⟩:=g; exact⟨ob,Qqx _ e1,e2⟩
 case f=>
  rintro b hb z i ⟨⟨ob,N,_,K⟩,_⟩ ⟨_,n,_,_,h,_,D,_⟩;rw[Qqy.mp hb,N]at h;cases h;rw[K]at D;cases D
 case stay=>
  intro z1 z2 q keep i b hb;obtain⟨k,e,y⟩:=q i b hb;obtain⟨n,it,m,h,r⟩:=id y;exact⟨k,e,n,it,m,keep b n ⟨k,y⟩ h,r⟩
 case keys=>
  intro i b hb;obtain⟨b',k,e,ek,n,it,m,h,r⟩:=d i _ hb;cases e;exact⟨k,ek,n,it,m,Qqx _ (Qqx _ h),r⟩
 case empty=>exact⟨_,#[],0,_,Qqx _ at0,⟨rfl,rfl,rfl⟩,rfl,qix a,λi e he=>by simp at he,rfl,λk=>by simp,λ_=>by simp⟩
 case fin=>
  intro z X q;obtain⟨h1,a4,a5,t,S⟩:=z;obtain⟨m1,rfl,rfl,rfl,_⟩:=X;refine Qx (Qx (done h1 t q λb o hb e=>m1 b o ?_ (Qqx _ (Qqx _ e))));have x:=Qq6 hb;have u:b≠(c.push (bare a)).objs.size:=by rw[sz]; exact Qq6 (Qx5 hb)
  simp only[Qqb,Qzi,or_false,not_or];exact⟨x,u⟩
end
section
theorem TS.size(x:TS prog w h a S)(f:S.length<=16):∃o es c t,h.get? a=Y o/\o.ExactSet/\o.data=.set es c t/\t.fits es.size=O/\(es.size:J)<2 ^ 63/\es.size=S.length:=by
 obtain⟨o,es,c,t,e,b,hd,I,_,d,_⟩:=x;exact⟨o,es,c,t,e,b,hd,I.fits,by omega,d⟩
def set_call(calm:A.handled=B)(room:A.units+12<cLine)(tup:s.heap.IsTuple l c)(f:Cells prog w s.heap c ks)(i:ks.length=c.size)(h:c.size<=16)(k:∀h1 k1,TS prog w h1 s.heap.objs.size (distinct ks)->(∀b o,b<s.heap.objs.size->s.heap.get? b=Y o->h1.get? b=Y o)->Q ?qd { s with heap:=h1,toks:=k1 }):
  wpAny ?r A (call (.type "set") [.ref l]) Q E s:=by
 have e:=F.called_set;obtain⟨_,_,x⟩:=e.mro;have v:=e.made;have u:=e.sub;have t:=e.notType;have p:=e.canCreate;have n:=F.typeCall_set_1 (.ref l);refine wpAny_call (codeAny_of_tree (Qx ⟨Code.quiet_builtin _ (by decide +kernel),Za F.entry_type_call ?_⟩));rw[Around.under_plain (weight_type_call_type "set" [.ref l] []) rfl]
 repeat (any_goals (first|assumption|wp_step))
 refine Q3 (code_set_new_1 (.ref l) (E:=E) (Q₁:=λob z=>∃d,ob=.ref s.heap.objs.size/\z={ s with heap:=s.heap.push (bare d) }) λd=>⟨d,rfl,rfl⟩) λr z hr=>?_
 match r,hr with
 |.error _,hr=>exact hr
 |.ok .next,hr=>exact hr.elim
 |.ok .brk,hr=>exact hr.elim
 |.ok .cont,hr=>exact hr.elim
 |.ok (.ret ob),hr=>
  obtain⟨d,rfl,rfl⟩:=hr;have g:Shared.TypeIs { s with heap:=s.heap.push (bare d) } ?qd "set":=⟨_,Qqf _ rfl,rfl⟩
  have m:=e.init.lookup;have j:=e.init.bind ?qd
  repeat (any_goals (first|assumption|wp_step))
  refine Q3 (codeAny_call_builtin (R:=wants (λr z=>r=.none/\∃h1 k1,z={ s with heap:=h1,toks:=k1 }/\TS prog w h1 s.heap.objs.size (distinct ks)/\∀b o,b<s.heap.objs.size->s.heap.get? b=Y o->h1.get? b=Y o) E) e.init.plain F.entry_set_init (check_set_init_1 g ?_)) λr2 z2 a=>?_
  ·exact qh5 (by simp[calm]) (by show A.units+1+1+4<cLine; omega) tup f i h rfl λh1 k1 q keep=>⟨rfl,h1,k1,rfl,q,keep⟩
  ·match r2,a with
   |.error _,a=>exact a
   |.ok .next,a=>exact a.elim
   |.ok .brk,a=>exact a.elim
   |.ok .cont,a=>exact a.elim
   |.ok (.ret _),a=>
    obtain⟨rfl,h1,k1,rfl,q,keep⟩:=a
    repeat (any_goals (first|assumption|wp_step))
    exact k h1 k1 q keep
end
end ST
end
section
namespace MS
open PySem PySem.Spec PyProof.Rows L2
noncomputable def setO(a:Y7)(n:Y0):HO:=.ext λh=>∃o es ep t,h.get? a=Y o/\o.ExactSet/\o.data=.set es ep t/\t.fits es.size=O/\(es.size:J)<2 ^ 63/\es.size=n
def qpc(K:Qqq)(H:Hp):L V->L (L J)->Prop:=Paired λy k=>∃q,y=.ref q/\SqT K H q (k.map V.int)
theorem items_int:∀{k}{a},Vals (k.map V.int) a->ItemsAre ?g k a
 |[],_,h=>by cases h; exact .nil
 |i::k,_,h=>by
  cases h with
  |cons r t=>
   obtain⟨b,rfl⟩:=r;exact .cons (intKind_is _ _ _ _) (items_int t)
section
def qmy(I:Inv X a c H s)(h:SqT X.K H q (k.map V.int)):IsTupleKey (intKind X.prog X.w) s.heap k q:=by
 obtain⟨b,r,⟨o,d,hc,n,hd⟩,_⟩:=I.tuple h;exact⟨o,b.toArray,n,d,hc,hd,items_int r⟩
theorem qbz(I:Inv X a d H s):∀{ys}{ks}{c},qpc X.K H ys ks->Vals ys c->
  ∀(i:Y0) (v:Y8),c[i]?=Y v->∃b k,v=.ref b/\ks[i]?=Y k/\IsTupleKey (intKind X.prog X.w) s.heap k b
 |_,_,_,.nil,r,i,v,e=>by cases r; simp at e
 |_,_,_,.cons (b:=k) h t,r,i,v,e=>by
  cases r with
  |cons r1 r2=>
   obtain⟨q,rfl,f⟩:=h
   cases i with
   |zero=>
    simp at e;subst e;cases r1;exact⟨q,k,rfl,rfl,qmy I f⟩
   |succ i=>
    simp only[Qkv]at e ⊢;exact qbz I t r2 i v e
def qfm(calm:X.A.handled=B)(room:X.A.units+64<cLine):qqb X (.type "set") (λxs H Q=>∃p ys ks,xs=[.ref p]/\SqT X.K H p ys/\qpc X.K H ys ks/\ys.length<=16/\∀l,H l=B->Q (.ref l) (upd H l (setO l (ST.distinct ks).length))):=by
 intro pins s σ H xs G Q I r h;obtain⟨p,ys,ks,rfl,x,hc,hl,q⟩:=h;obtain⟨u,rfl,m⟩:=vals1 r;cases m;obtain⟨w,r',⟨o,y,a,n,hd⟩,P⟩:=I.tuple x;have N:=r'.length;have K:=Paired.length hc;refine ST.set_call calm (by lia) ⟨o,y,a,n,hd⟩ (λi v e=>qbz I hc r' i v (by simpa using e)) (by simp; lia) (by simp; lia) λh1 k1 T keep=>?_;have le:=ST.foldK_le ks []
 obtain⟨g,es,z,t,j,F,E,D,C,A⟩:=T.size (by
  show(ks.foldl ST.addK []).length<=16
  simp at le; lia)
 refine⟨.ref s.heap.objs.size,_,I.laid (λb o e=>keep b o (Qqe e) e) (Qqv _) ?_,rfl,q _ (I.hok.fresh (Qqv _))⟩;exact⟨⟨g,es,z,t,j,F,E,D,C,A⟩,⟨g,j⟩,λh2 R ⟨f,c,d,k,b1,b2⟩ kp=>⟨f,c,d,k,kp f b1,b2⟩⟩
def qft:qqb X (.builtin "len") (λxs H Q=>∃p n,xs=[.ref p]/\H p=Y (setO p n)/\Q (.int n) H):=by
 intro pins s σ H xs l Q I r h;obtain⟨p,n,rfl,c,q⟩:=h;obtain⟨u,rfl,a⟩:=vals1 r;cases a;obtain⟨⟨o,es,m,t,k,j,i,g,f,d⟩,_⟩:=(I.hok p _ c)
 refine call_len_set k j i g f ?_;exact⟨.int n,H,I.kept (λb o e=>e),⟨_,by rw[d]⟩,q⟩
end
end MS
end
section
namespace MS
open PySem PySem.Spec PyProof.Rows L2
open M (D Y2)
section
theorem qah{K:Qqq}:∀{ds}{xs}{k},IsDs K m H ds xs->(ds.mapM λd=>match d with|.int i=>Y i|_=>B)=Y k->xs=k.map V.int
 |[],xs,k,h,e=>by
  simp at e;subst e;exact Qzs.mp h.length.symm
 |d::ds,xs,k,h,e=>by
  rw[Qkf]at e
  cases d with
  |int i=>
   obtain⟨x,r,rfl,h1,h2⟩:=h.cons
   cases a:(ds.mapM λd=>match d with|M.D.int i=>Y i|_=>B) with
   |none=>rw[a]at e; cases e
   |some k'=>
    rw[a]at e;cases e;rw[h1.int,qah h2 a]; rfl
  |_=>exact nn e
theorem qed{K:Qqq}:∀{ds}{xs}{ks},IsDs K m H ds xs->ds.mapM M.keyD=Y ks->qpc K H xs ks
 |[],xs,ks,h,e=>by
  simp at e;subst e;rw[Qzs.mp h.length.symm];exact .nil
 |d::ds,xs,ks,h,e=>by
  rw[Qkf]at e
  cases d with
  |tup cs=>
   obtain⟨x,r,rfl,h1,h2⟩:=h.cons
   cases a:M.keyD (.tup cs) with
   |none=>rw[a]at e; cases e
   |some k=>
    cases b:ds.mapM M.keyD with
    |none=>rw[a,b]at e; cases e
    |some f=>
     rw[a,b]at e;cases e;obtain⟨c,ys,rfl,i,g⟩:=h1.tup;refine .cons ⟨c,rfl,?_⟩ (qed h2 b);rw[<- qah g a]; exact i
  |_=>exact nn e
end
end MS
end
section
namespace MS
open PySem PySem.Spec PyProof.Rows L2
open M (D Ya Y2 Sl E S T Src Fn Out R)
def qbi{E:TT}(hc:X.calm=O)(S:CompScope X N src c)(hi:PI X tg d A)(hg:∀C fp s H,PG (qzm X N c C fp s H) tg g)(V:∀C fp s H,qcj (qzm X N c C fp s H) ifs E)(he:∀C fp s H,PE (qzm X N c C fp s H) elt F)(hs:∀x,foldedSetIterable d X.env x=pure x)(hN:X.N.Nodup)(U:X.N[i]?=Y x)(hl:Loc X.env.scope x)(hf:X.fn x=O\/X.env.scope.names.lookup x=Y .local)(p:swapsWith (.ListComp elt [⟨tg,d,ifs,0⟩] c j) (Y (.Name x f)) pos.line X.env=pure O):
  PS X (.Assign [.Name x f] (.ListComp elt [⟨tg,d,ifs,0⟩] c j) pos) (tAsg (qmg src A g E F) (qye i)):=by
 intro pins s σ H D I h;rw[exec_Assign_Name_used _ _ _ _ p];refine Qq (wpAny_standAt (Qq ?_));refine Qq (Qh (wpAny_comprehension_free rfl hs (qwm S I) S.kind S.loc (thn (hi pins s σ H _ I h) λv s1 h1=>thn h1 λR n h2=>?_)) (λ_ s' hq=>Qx (Qx hq)) λ_ _ e=>e);obtain⟨it,fp,tn,Jq,H2,e,I2,T,l,f2,W,G,k⟩:=h2;subst e;refine qkt hc I2 T l f2 S (λC=>hg C fp n H2) (λC=>V C fp n H2) (λ_ C=>he C fp n H2) (λ_ _ _ _ _ z=>z.elim) W G k ?_;intro y C s' H' a0 u Q I' fC hm;obtain⟨m',hn⟩:=hm;obtain⟨c0,c1,c2,c3,c4,c5⟩:=fC;refine wpAny_assign_Name (qvm I' hN U hl (show RelV (.ref y) (.ref y) from rfl) (λP w r=>?_) hf);obtain⟨a,K,ha⟩:=r;have t:C≠a:=by
  rcases ha with z|z
  ·rw[z]; exact c1
  ·exact λq=>c4 x a z q.symm
 exact⟨m',hn.sameBut K t,λh' m=>⟨_,_,w.turned (λb o hb e=>(m.2 b hb).trans e) c0 c1 c3 c4 c5,u y Q⟩⟩
noncomputable def iSeq(K:Qqq)(tl:TE):TI:=λσ H R=>tl σ H λx H1=>(∃a,x=.ref a/\(((∃xs,SqL K H1 a xs)/\R (Itl K a) H1)\/((∃xs,SqT K H1 a xs)/\R (Itt K a) H1)))
def pi_seq(hl:PE X l tl):PI X tg l (iSeq X.K tl):=by
 intro pins s σ H R I h;refine thn (hl pins s σ H _ I h) λv d ⟨x,H1,c,r1,j⟩=>?_;obtain⟨a,e,q⟩:=j;subst e;cases r1;rcases q with⟨⟨xs,g⟩,q⟩|⟨⟨xs,g⟩,q⟩
 ·obtain⟨f,i,p,k⟩:=c.list g;refine Ze p.isList ?_;refine⟨d.heap.objs.size,[d.heap.objs.size],_,_,H1,rfl,c.kept λb o e=>Qqx _ e,qcb a _,⟨_,Qqf _ rfl,rfl,rfl⟩,λb hb=>?_,q⟩;have e:b=d.heap.objs.size:=by simpa using hb
  subst e;exact c.fpOk (Qqv _) (c.hok.fresh (Qqv _))
 ·obtain⟨f,i,p,k⟩:=c.tuple g;refine wpAny_pyIter_tuple (p) ?_;refine⟨d.heap.objs.size,[d.heap.objs.size],_,_,H1,rfl,c.kept λb o e=>Qqx _ e,qbk a _,⟨_,Qqf _ rfl,rfl,rfl⟩,λb hb=>?_,q⟩;have e:b=d.heap.objs.size:=by simpa using hb
  subst e;exact c.fpOk (Qqv _) (c.hok.fresh (Qqv _))
structure Glo where
 cs:L (Y5×D)
 ds:L (Y5×L Y5×L D)
 /-- a method's place among the functions,its class,its name -/
 ms:L (Y0×Y7×Y5)
 /-- the classes -/
 cl:L (Y5×Y7)
 /-- attributes of instances -/
 ats:L (Y7×Y5)
structure Ctx where
 N:L Y5
 sc:Scope
 fns:L Y5
 glo:Glo
noncomputable def qpw:M.Bq->String
 |.len=>"len"
 |.min=>"min"
 |.tuple=>"tuple"
 |.list=>"list"
 |.all=>"all"
 |.sorted=>"sorted"
 |.any=>"any"
 |.max=>"max"
noncomputable def bOk:M.Bq->Yb
 |.len=>O
 |.min=>O
 |.tuple=>O
 |.list=>O
 |.all=>O
 |.sorted=>O
 |.any=>O
 |.max=>O
noncomputable def qbh(scope sc:Scope):Scope:={ scope with names:=scope.names.map λ(n,k)=>if (k==NameKind.free&&sc.kind==.function&&sc.names.lookup n==Y .cell) then(n,NameKind.cell) else(n,k) }
noncomputable def tlOk(N:L Y5)(sc:Scope)(t:T):Bool:=t.slots.all λi=>match N[i]? with
 |some x=>sc.names.lookup x==Y .local
 |none=>Y6
def qcn(h:tlOk N sc t=O):∀i∈t.slots,∀x,N[i]?=Y x->sc.names.lookup x=Y .local:=by
 intro i hi x a;unfold tlOk at h;have:=Qzc.mp h i hi;rw[a]at this;simpa using this
noncomputable def qhn(x:Y5):Bool:=!x.cps.toList.contains 46
def MTree(pa:Expr)(m:Y5)(apos:Pos)(ps:L Expr)(pos:Pos):Prop:=∀env,∃pl:Sem Yb,Qa (.Call (.Attribute pa m apos) ps [] pos) env=(do
 let ov <- Qa pa env
 standAt apos.atName
 let (f,first) <- holding [ov] (Zu ov m pl)
 callWith pos f first (backTo pos (starEach ps env)) (backToKw pos (keywordEach [] env)))
def Star(p:Expr):Prop:=∀es env,starEach (p::es) env=(Y6,Qa p env)::starEach es env
inductive CkTys (c:Ctx):L M.Ty->L Expr->Prop
 |nil:CkTys c [] []
 |cons {t ts ps pos} (ht:t≠.non) (hg:c.sc.names.lookup (Str.ofString t.name)=Y .globalImplicit) (h:CkTys c ts ps):CkTys c (t::ts) (.Name (Str.ofString t.name) pos::ps)
inductive CkTs (c:Ctx):L Y0->L Expr->Prop
 |nil:CkTs c [] []
 |cons {i x pos is es} (hN:c.N[i]?=Y x) (hl:c.sc.names.lookup x=Y .local\/c.sc.names.lookup x=Y .cell) (h:CkTs c is es):CkTs c (i::is) (.Name x pos::es)
inductive CkT (c:Ctx):T->Expr->Prop
 |tup {is es k pos} (h:CkTs c is es):CkT c (.tup is) (.Tuple es k pos)
 |var {i x pos} (hN:c.N[i]?=Y x) (hl:c.sc.names.lookup x=Y .local\/c.sc.names.lookup x=Y .cell):CkT c (.var i) (.Name x pos)
noncomputable def gcOk:Expr->Yb
 |.Call _ _ _ _=>O
 |.ListComp _ _ _ _=>O
 |.List _ _=>O
 |.BinOp _ _ _ _=>O
 |.Subscript _ _ _=>O
 |_=>Y6
inductive CkL (R:E->Expr->Prop):L E->L Expr->Prop
 |nil:CkL R [] []
 |cons {e es p ps} (h:R e p) (t:CkL R es ps):CkL R (e::es) (p::ps)
inductive CkP (R:E->Expr->Prop):L E->L (Y3 Expr)->L Expr->Prop
 |nil:CkP R [] [] []
 |cons {k v es pk pv ks vs} (hk:R k pk) (hv:R v pv) (t:CkP R es ks vs):CkP R (k::v::es) (Y pk::ks) (pv::vs)
inductive CkO (R:E->Expr->Prop):Y3 E->Y3 Expr->Prop
 |none:CkO R B B
 |some {e p} (h:R e p):CkO R (Y e) (Y p)
inductive CkI (R:E->Expr->Prop):Ctx->Expr->E->Expr->Prop
 |rng1 {c tg a pa p0 pos} (hg:c.sc.names.lookup ("range" : Y5)=Y .globalImplicit) (ha:R a pa):CkI R c tg (.rng1 a) (.Call (.Name "range" p0) [pa] [] pos)
 |rng2 {c tg a b pa pb p0 pos} (hg:c.sc.names.lookup ("range" : Y5)=Y .globalImplicit) (ha:R a pa) (hb:R b pb):CkI R c tg (.rng2 a b) (.Call (.Name "range" p0) [pa,pb] [] pos)
 |zip {c es k tp a b pa pb p0 pos} (hg:c.sc.names.lookup ("zip" : Y5)=Y .globalImplicit) (ha:R a pa) (hb:R b pb):CkI R c (.Tuple es k tp) (.zip a b) (.Call (.Name "zip" p0) [pa,pb] [] pos)
 |enu {c es k tp a pa p0 pos} (hg:c.sc.names.lookup ("enumerate" : Y5)=Y .globalImplicit) (ha:R a pa):CkI R c (.Tuple es k tp) (.enu a) (.Call (.Name "enumerate" p0) [pa] [] pos)
 |rev {c tg a pa p0 pos} (hg:c.sc.names.lookup ("reversed" : Y5)=Y .globalImplicit) (ha:R a pa):CkI R c tg (.rev a) (.Call (.Name "reversed" p0) [pa] [] pos)
 |seq {c tg e p} (h:R e p):CkI R c tg e p
noncomputable abbrev inOp(neg:Yb):CmpOp:=if neg then .NotIn else .In
noncomputable abbrev Ctx.inn(c:Ctx)(N:L Y5)(sc:Scope):Ctx:=⟨N,qbh sc c.sc,c.fns,c.glo⟩
structure CpOk (c:Ctx) (sc:Scope) (sr:L (Y3 Y0)) (N:L Y5) (iter:Expr) (t:T):Prop where
 kind:sc.kind=.function
 cell:∀y∈sc.names,y.2≠.cell
 free:∀y∈sc.names,y.2=.free->c.sc.names.lookup y.1=Y .cell\/c.sc.names.lookup y.1=Y .free
 loc:∀y∈sc.names,y.2=.local->sc.names.lookup y.1=Y .local
 len:sr.length=N.length
 src:∀(j i:Y0),sr[j]?=Y (Y i)->∃x,N[j]?=Y x/\c.N[i]?=Y x/\sc.names.lookup x=Y .free
 nd:N.Nodup
 fs:∀env x,foldedSetIterable iter env x=pure x
 tl:tlOk N (qbh sc c.sc) t=O
noncomputable def boT(op:BoolOp)(pos:Pos):L Expr->Expr
 |[p]=>p
 |ps=>.BoolOp op ps pos
noncomputable def mName:M.Mt->Y5
 |.append=>"append"
 |.extend=>"extend"
 |.index=>"index"
 |.insert=>"insert"
 |.pop=>"pop"
noncomputable def shOk:Expr->Yb
 |.Starred ..=>Y6
 |.Slice ..=>Y6
 |.Set ..=>Y6
 |.SetComp ..=>Y6
 |.DictComp ..=>Y6
 |.Call (.Name _ _) [] _ _=>Y6
 |_=>O
noncomputable def qvu:E->Yb
 |.rng1 _=>Y6
 |.rng2 _ _=>Y6
 |.zip _ _=>Y6
 |.enu _=>Y6
 |.rev _=>Y6
 |_=>O
inductive CkV:Ctx->E->Y5->Prop
 |var {c i x} (hN:c.N[i]?=Y x) (hv:Vis c.sc x) (hd:(x==("__debug__" : Y5))=Y6) (hcd:(x==("__classdict__" : Y5))=Y6):CkV c (.var i) x
 |glo {c x d} (hg:c.sc.names.lookup x=Y .globalImplicit) (hm:(x,d)∈c.glo.cs) (hd:(x==("__debug__" : Y5))=Y6):CkV c (.glo x d) x
inductive CkG (R:Ctx->E->Expr->Prop):Ctx->E->Expr->Prop
 |nm {c a x pos} (h:CkV c a x):CkG R c a (.Name x pos)
 |int {c i j pos}:CkG R c (.lit (.int i)) (.Constant (.int i) j pos)
 |bl {c i j pos}:CkG R c (.lit (.bl i)) (.Constant (.bool i) j pos)
 |non {c j pos}:CkG R c (.lit .non) (.Constant .none j pos)
 |str {c i j pos}:CkG R c (.lit (.str i)) (.Constant (.str i) j pos)
 |bin {c op a b pa pb pos} (ha:R c a pa) (hb:R c b pb):CkG R c (.bin op a b) (.BinOp pa op pb pos)
 |lenset {c a pa p0 p1 pos1 pos} (hg:c.sc.names.lookup ("len" : Y5)=Y .globalImplicit) (hs:c.sc.names.lookup ("set" : Y5)=Y .globalImplicit) (ha:R c a pa):CkG R c (.lenset a) (.Call (.Name "len" p0) [.Call (.Name "set" p1) [pa] [] pos1] [] pos)
 |neg {c a pa pos} (ha:R c a pa):CkG R c (.neg a) (.UnaryOp .USub pa pos)
 |not {c a pa pos} (ha:R c a pa):CkG R c (.not a) (.UnaryOp .Not pa pos)
 |cmp {c op a b pa pb pos} (ha:R c a pa) (hb:R c b pb):CkG R c (.cmp op a b) (.Compare pa [op] [pb] pos)
 |cmp2 {c op op' a b d pa pb pd pos} (ha:R c a pa) (hb:R c b pb) (hd:R c d pd):CkG R c (.cmp2 op op' a b d) (.Compare pa [op,op'] [pb,pd] pos)
 |ite {c q a b pq pa pb pos} (hq:R c q pq) (ha:R c a pa) (hb:R c b pb):CkG R c (.ite q a b) (.IfExp pq pa pb pos)
 |tup {c es ps k pos} (h:CkL (R c) es ps):CkG R c (.tup es) (.Tuple ps k pos)
 |lst {c es ps pos} (h:CkL (R c) es ps):CkG R c (.lst es) (.List ps pos)
 |idx {c a b pa pb pos} (ha:R c a pa) (hb:R c b pb):CkG R c (.idx a b) (.Subscript pa pb pos)
 |call {c f x es p ps p0 pos} (hg:c.sc.names.lookup x=Y .globalImplicit) (hf:c.fns[f]?=Y x) (hd:(x==("__debug__" : Y5))=Y6) (hn:qhn x=O) (h:CkL (R c) es (p::ps)):CkG R c (.call f es) (.Call (.Name x p0) (p::ps) [] pos)
 |bcall {c b es p ps p0 pos} (hg:c.sc.names.lookup (Str.ofString (qpw b))=Y .globalImplicit) (hb:bOk b=O) (h:CkL (R c) es (p::ps)):CkG R c (.bcall b es) (.Call (.Name (Str.ofString (qpw b)) p0) (p::ps) [] pos)
 |isi1 {c t a pa p0 p1 pos} (hg:c.sc.names.lookup ("isinstance" : Y5)=Y .globalImplicit) (ht:t≠.non) (hgt:c.sc.names.lookup (Str.ofString t.name)=Y .globalImplicit) (ha:R c a pa):CkG R c (.isi a [t] Y6) (.Call (.Name "isinstance" p0) [pa,.Name (Str.ofString t.name) p1] [] pos)
 |isiN {c ts a pa p0 ps k p1 pos} (hl:ts.length<=1000) (hg:c.sc.names.lookup ("isinstance" : Y5)=Y .globalImplicit) (ht:CkTys c ts ps) (ha:R c a pa):CkG R c (.isi a ts O) (.Call (.Name "isinstance" p0) [pa,.Tuple ps k p1] [] pos)
 |dgt {c a b pa pb apos cpos} (ha:R c a pa) (hb:R c b pb) (hl:(apos.endLine==cpos.line)=O):CkG R c (.dgt a b) (.Call (.Attribute pa "get" apos) [pb] [] cpos)
 |dpop {c a b pa pb apos cpos} (ha:R c a pa) (hb:R c b pb) (hl:(apos.endLine==cpos.line)=O):CkG R c (.dpop a b) (.Call (.Attribute pa "pop" apos) [pb] [] cpos)
 |dic0 {c pos}:CkG R c (.dic []) (.Dict [] [] pos)
 |dic {c es k v ks vs pos} (h:CkP (R c) es (k::ks) (v::vs)) (h15:(k::ks).length<=15):CkG R c (.dic es) (.Dict (k::ks) (v::vs) pos)
 |didx {c a b pa pb pos} (ha:R c a pa) (hb:R c b pb):CkG R c (.didx a b) (.Subscript pa pb pos)
 |gidx {c x ks ds b pb p0 pos} (hg:c.sc.names.lookup x=Y .globalImplicit) (hm:(x,ks,ds)∈c.glo.ds) (hd:(x==("__debug__" : Y5))=Y6) (hb:R c b pb):CkG R c (.gidx x ks ds b) (.Subscript (.Name x p0) pb pos)
 |sli {c a lo hi pa pl ph p2 pos} (ha:R c a pa) (hl:CkO (R c) lo pl) (hh:CkO (R c) hi ph):CkG R c (.sli a lo hi) (.Subscript pa (.Slice pl ph B p2) pos)
 |attr {c C a f pa pos} (ha:R c a pa) (hc:(C,f)∈c.glo.ats):CkG R c (.attr C a f) (.Attribute pa f pos)
 |mcall {c C f m x cn a es pa ps apos pos} (ha:R c a pa) (hf:c.fns[f]?=Y x) (hm:(f,C,m)∈c.glo.ms) (hc:(cn,C)∈c.glo.cl) (h:CkL (R c) es ps) (hn:ps.length<30) (hl:(apos.endLine==pos.line)=O):CkG R c (.mcall C f m a es) (.Call (.Attribute pa m apos) ps [] pos)
 |new {c C f x cn es p ps p0 pos} (hg:c.sc.names.lookup cn=Y .globalImplicit) (hf:c.fns[f]?=Y x) (hm:(f,C,("__init__" : Y5))∈c.glo.ms) (hc:(cn,C)∈c.glo.cl) (hd:(cn==("__debug__" : Y5))=Y6) (h:CkL (R c) es (p::ps)):CkG R c (.new C f es) (.Call (.Name cn p0) (p::ps) [] pos)
 |and {c a b pa pb r pos} (ha:R c a pa) (hb:R c b (boT .And pos (pb::r))):CkG R c (.and a b) (.BoolOp .And (pa::pb::r) pos)
 |or {c a b pa pb r pos} (ha:R c a pa) (hb:R c b (boT .Or pos (pb::r))):CkG R c (.or a b) (.BoolOp .Or (pa::pb::r) pos)
 |meth {c a k es pa p ps apos cpos} (ha:R c a pa) (h:CkL (R c) es (p::ps)) (hn:(p::ps).length<30) (hl:(apos.endLine==cpos.line)=O):CkG R c (.meth a k es) (.Call (.Attribute pa (mName k) apos) (p::ps) [] cpos)
 |comp {c t it q elt sr tg iter pq pelt scope pos N} (ok:CpOk c scope sr N iter t) (hi:CkI (R c) c tg it iter) (ht:CkT (c.inn N scope) t tg) (hq:CkO (R (c.inn N scope)) q pq) (he:R (c.inn N scope) elt pelt):CkG R c (.comp t it q elt sr) (.ListComp pelt [⟨tg,iter,pq.toList,0⟩] scope pos)
 |din {c neg a b pa pb pos} (ha:R c a pa) (hb:R c b pb):CkG R c (.din neg a b) (.Compare pa [inOp neg] [pb] pos)
 |gin {c neg x ks ds b pb p0 pos} (hg:c.sc.names.lookup x=Y .globalImplicit) (hm:(x,ks,ds)∈c.glo.ds) (hd:(x==("__debug__" : Y5))=Y6) (hb:R c b pb):CkG R c (.gin neg x ks b) (.Compare pb [inOp neg] [.Name x p0] pos)
inductive CkF (R:Ctx->E->Expr->Prop):Ctx->E->Expr->Prop
 |of {c e p} (hs:shOk p=O) (hq:qvu e=O) (h:CkG R c e p):CkF R c e p
 |gc {c a p} (hs:shOk p=O) (hq:qvu a=O) (hp:gcOk p=O) (hg:∀b,a≠.gc b) (h:CkG R c a p):CkF R c (.gc a) p
noncomputable def CkN:Y0->Ctx->E->Expr->Prop
 |0=>λ_ _ _=>False
 |j+1=>CkF (CkN j)
abbrev CkE:=CkN 30
mutual
inductive CkS:Ctx->S->Stmt->Prop
 |set {c i e x p pos pos'} (hN:c.N[i]?=Y x) (hl:c.sc.names.lookup x=Y .local\/c.sc.names.lookup x=Y .cell) (h:CkE c e p) (hs:∀env,swapsWith p (Y (.Name x pos')) pos.line env=pure Y6):CkS c (.set (.var i) e) (.Assign [.Name x pos'] p pos)
 |setC {c i e x p pos pos'} (hN:c.N[i]?=Y x) (hl:c.sc.names.lookup x=Y .local\/c.sc.names.lookup x=Y .cell) (h:CkE c e p) (hc:∃elt gs sc q,p=.ListComp elt gs sc q) (hs:∀env:Env,env.scope=c.sc->(swapsWith p (Y (.Name x pos')) pos.line env=pure Y6\/swapsWith p (Y (.Name x pos')) pos.line env=pure O)):CkS c (.set (.var i) e) (.Assign [.Name x pos'] p pos)
 |dset {c a i e pa pi pe tpos pos} (ha:CkE c a pa) (hi:CkE c i pi) (he:CkE c e pe):CkS c (.dset a i e) (.Assign [.Subscript pa pi tpos] pe pos)
 |expr {c e p pos} (h:CkE c e p) (hs:∀env,swapsWith p B pos.line env=pure Y6):CkS c (.expr e) (.Expr p pos)
 |ret {c e p pos} (h:CkE c e p):CkS c (.ret e) (.Return (Y p) pos)
 |ite {c q a b pq pa pb pos} (hq:CkE c q pq) (ha:CkSs c a pa) (hb:CkSs c b pb):CkS c (.ite q a b) (.If pq pa pb pos)
 |forr {c t it body tg iter pb pos} (ht:CkT c t tg) (hi:CkI (CkE c) c tg it iter) (hs:∀env x,foldedSetIterable iter env x=pure x) (hb:CkSs c body pb):CkS c (.forr t it body) (.For tg iter pb [] pos)
 |setA {c C a f e pa pe tpos pos} (ha:CkE c a pa) (he:CkE c e pe) (hc:(C,f)∈c.glo.ats):CkS c (.setA C a f e) (.Assign [.Attribute pa f tpos] pe pos)
 |ford {c t a body tg pa pb pos} (ht:CkT c t tg) (ha:CkE c a pa) (hb:CkSs c body pb):CkS c (.ford t a body) (.For tg pa pb [] pos)
 |bad {c p}:CkS c .bad p
 |setT {c is e es k p pos tpos} (ht:CkTs c is es) (h:CkE c e p) (hw:∀env,swappedStores [.Tuple es k tpos] p env=pure B):CkS c (.set (.tup is) e) (.Assign [.Tuple es k tpos] p pos)
inductive CkSs:Ctx->L S->L Stmt->Prop
 |nil {c}:CkSs c [] []
 |cons {c s ss p ps} (h:CkS c s p) (t:CkSs c ss ps):CkSs c (s::ss) (p::ps)
 |doc {c ss x j pos pos' ps} (t:CkSs c ss ps):CkSs c ss (.Expr (.Constant (.str x) j pos) pos'::ps)
end
def qmr(h:shOk p=O):Star p:=λes env=>by cases p<;>first|rfl|cases h
def CkN.sh(h:CkN j c e p):shOk p=true:=by
 cases j with
 |zero=>cases h
 |succ j=>
  cases h with
  |of hs=>exact hs
  |gc hs=>exact hs
def CkN.star(h:CkN j c e p):Star p:=qmr h.sh
def sh_sw(h:shOk p=O)(l)(env):swapsWith p (Y (.Subscript a i tp)) l env=pure false:=by
 cases p<;>first|rfl|cases h
def sh_swT(h:shOk p=O)(l)(env):swapsWith p (Y (.Tuple es k tp)) l env=pure false:=by
 cases p<;>first|rfl|cases h
def sh_swA(h:shOk p=O)(l)(env):swapsWith p (Y (.Attribute a f tp)) l env=pure false:=by
 cases p<;>first|rfl|cases h
def qms(h:shOk p=O)(o i):subscripted p Y6 o i=operate [o,i] (Zx o i):=by
 cases p<;>first|rfl|cases h
def qbe(h:shOk p=O)(a):Zg a p=false:=by
 cases p<;>first|rfl|cases h
def qmt(h:shOk p=O)(env)(x):foldedSetIterable p env x=pure x:=by
 cases p<;>first|rfl|cases h
def qjl(h:shOk p=O)(a)(env)(w):Zz p a env w=w:=by
 cases p with
 |Call f ps ks pos=>
  cases f with
  |Name x q=>
   cases ps with
   |nil=>cases h
   |cons _ _=>rfl
  |_=>rfl
 |_=>rfl
theorem qi6:∀{ps},ps.all shOk=O->(backTo pos (starEach ps env)).all (λx=>!x.1)=O
 |[],_=>rfl
 |p::r,h=>by
  rw[Qz7,Qq2]at h;have e:backTo pos (starEach (p::r) env)=(Y6,Qa p env)::backTo pos (starEach r env):=by
   cases p<;>first|rfl|cases h.1
  rw[e,Qz7,qi6 h.2]
  rfl
def sh_mt(h:shOk b=O)(hs:ps.all shOk=O)(hl:ps.length<30)(d:(a.endLine==pos.line)=O):MTree b m a ps pos:=by
 intro env;refine⟨(do return (<- importBound b env).getD O),?_⟩
 have e:Qa (.Call (.Attribute b m a) ps [] pos) env=(do
  let c <- Zz b m env (Qa b env)
  standAt a.atName
  methodCall b m a pos env c (ps.length+0) (backTo pos (starEach ps env)) (backToKw pos (keywordEach [] env))):=rfl
 have f:methodCallForm (ps.length+0) (backTo pos (starEach ps env)) (backToKw pos (keywordEach [] env))=true:=by
  unfold methodCallForm;rw[qi6 hs];simpa[keywordEach,backToKw] using hl
 rw[e,qjl h];unfold methodCall calleeOf methodCallPos;rw[f,d]
 rfl
theorem CkL.sh(h:CkL (CkN j c) es ps):ps.all shOk=true:=by
 induction h with
 |nil=>rfl
 |cons h _ t=>rw[Qz7,h.sh,t]; rfl
noncomputable def spN(K:Qqq)(fns:L Fn)(n f:Y0):Sp:=λvs H Q _=>∃m st ds d st',Rel K m st H/\IsDs K m H ds vs/\M.callD fns n f ds st=Y (d,st')/\Post K m H d st' Q
def Lc(K:Qqq)(mg:Y5->Y3 Y8)(glo:Glo)(f:Y0)(x:Y5)(fa:Y7):Prop:=(qhn x=O->mg x=Y (.ref fa))/\∀C m,(f,C,m)∈glo.ms->Meth K C m fa
def FTab(P:Program)(w:Qj)(K:Qqq)(mg:Y5->Y3 Y8)(base:Heap)(glo:Glo)(fns:L Fn)(names:L Y5)(n:Y0):Prop:=∀(f:Y0) (x:Y5),names[f]?=Y x->∃(fa:Y7) (fd:Qm) (ps:L Y5),
 Lc K mg glo f x fa/\FnOk P w K mg base CX0 (2*n) fa fd ps (spN K fns n f)/\Qz2 K (.ref fa)=O/\Binds K fd ps []
noncomputable abbrev bNm:L Y5:=["len","min","max","tuple","list","all","sorted","isinstance","range","int","bool","str","zip","any","enumerate","reversed","set"]
structure Mo (K:Qqq) (mg:Y5->Y3 Y8) (glo:Glo) (prm:Qp):Prop where
 cls:∀cn C,(cn,C)∈glo.cl->mg cn=Y (.ref C)/\Cls K C/\PySem.W.makesIn K C=O/\Qz2 K (.ref C)=O
 ats:∀C f,(C,f)∈glo.ats->Cls K C/\NoAttr K C f
 gds:∀x ks ds,(x,ks,ds)∈glo.ds->∃a,mg x=Y (.ref a)/\FDict prm K a ks ds
 glo:∀x d,(x,d)∈glo.cs->∃u v,mg x=Y u/\RelV v u/\∀m H,IsD K m H d v
 no:∀x∈bNm,mg x=B
structure Good (fns:L Fn) (dl:Y0) (c:Ctx) (X:Cx):Prop where
 room:Room (2*dl+1) X.A
 calm:X.calm=O
 N:X.N=c.N
 sc:X.env.scope=c.sc
 nd:c.N.Nodup
 kind:c.sc.kind=.function
 tab:FTab X.prog X.w X.K X.mg X.base c.glo fns c.fns dl
 mo:Mo X.K X.mg c.glo X.w.params
 xe:X.xe=λ_ _=>False
theorem Good.no{dl:Y0}(G:Good fns dl c X)(h:bNm.contains x=O):X.mg x=none:=G.mo.no x (Qxm.mp h)
end MS
end
section
namespace MS
open PySem PySem.Spec PyProof.Rows L2
open M (D Ya Y2 Sl E S T Src Fn Out R)
theorem qq2:∀{es}{ps},CkL (CkN j c) es ps->∀(pos:Pos) (env:Env),(backTo pos (starEach ps env)).any (·.1)=Y6
 |_,_,.nil,_,_=>rfl
 |_,_,.cons h t,pos,env=>by
  rw[h.star];show(Y6||(backTo pos (starEach _ env)).any (·.1))=Y6;rw[qq2 t pos env]
  rfl
def Good.gl{dl:Y0}(G:Good fns dl c X)(h:c.sc.names.lookup x=Y .globalImplicit):Gl X x:=by
 show X.env.scope.names.lookup x=_;rw[G.sc]; exact h
def qbg(h:env.scope=sc):relabel a env=qbh a sc:=by
 unfold relabel qbh Env.kindOf;rw[h]
def Good.inner{fns:L Fn}{dl:Y0}{c:Ctx}{X:Cx}(G:Good fns dl c X){N:L Y5}{a:Scope}{C:Y7}{fp:L Y7}{s:Qz}{H:Hp}(hk:a.kind=.function)(b:N.Nodup):Good fns dl ⟨N,qbh a c.sc,c.fns,c.glo⟩ (qzm X N a C fp s H):=
 ⟨G.room,G.calm,rfl,qbg G.sc,b,hk,G.tab,G.mo,rfl⟩
noncomputable def IsRow(K:Qqq)(m:L Y7)(H:Hp)(k:RK)(a:Y7):D->Prop
 |.tup ds=>k=.tup/\∃xs,SqT K H a xs/\IsDs K m H ds xs
 |.loc l=>k=.lst/\m[l]?=Y a
 |.lst ds=>k=.lst/\∃xs,SqF K H a xs/\IsDs K m H ds xs
 |_=>False
def IsRow.mono{K:Qqq}(h:IsRow K m H k a d)(b:Sub m c)(t:Tr H H'):IsRow K c H' k a d:=by
 cases d with
 |tup ds=>obtain⟨e,xs,q,r⟩:=h; exact⟨e,xs,t.sqT q,qzd b t ds xs r⟩
 |loc l=>exact⟨h.1,b l a h.2⟩
 |lst ds=>obtain⟨e,xs,q,r⟩:=h; exact⟨e,xs,t.sqF q,qzd b t ds xs r⟩
 |_=>exact h.elim
theorem IsRow.sq{K:Qqq}{st:Y2}(h:IsRow K m H k a d)(f:Rel K m st H)(e:M.rowAt st d=Y ds):∃xs,k.sq K H a xs/\IsDs K m H ds xs:=by
 cases d with
 |tup es=>
  cases e;obtain⟨rfl,xs,q,r⟩:=h;exact⟨xs,q,r⟩
 |loc l=>
  obtain⟨rfl,c⟩:=h;obtain⟨g,xs,b,z,q,r⟩:=f.list e (qhs c);cases z;exact⟨xs,q,r⟩
 |lst es=>
  cases e;obtain⟨rfl,xs,q,r⟩:=h;exact⟨xs,q.sq,r⟩
 |_=>exact h.elim
def qvw{K:Qqq}{st:Y2}(b:MS.IsD K m H d v)(f:Rel K m st H)(e:M.rowAt st d=Y ds):∃k a,v=.ref a/\IsRow K m H k a d/\∃xs,k.sq K H a xs:=by
 cases d with
 |tup es=>
  obtain⟨a,xs,rfl,q,r⟩:=b.tup;exact⟨.tup,a,rfl,⟨rfl,xs,q,r⟩,xs,q⟩
 |loc l=>
  obtain⟨a,xs,c,rfl,q,r⟩:=f.list e b;exact⟨.lst,a,rfl,⟨rfl,c⟩,xs,q⟩
 |lst es=>
  obtain⟨a,xs,rfl,q,r⟩:=b.lst;exact⟨.lst,a,rfl,⟨rfl,xs,q,r⟩,xs,q.sq⟩
 |_=>exact nn e
def IsRow.sq'{K:Qqq}{st:Y2}(h:IsRow K m H .lst a d)(b:Rel K m st H)(e:M.seqAt st d=Y ds):∃xs,SqL K H a xs/\IsDs K m H ds xs:=by
 cases d with
 |loc l=>exact h.sq b e
 |lst l=>exact h.sq b e
 |_=>exact nn e
def qwv{K:Qqq}{st:Y2}(b:MS.IsD K m H d v)(f:Rel K m st H)(e:M.seqAt st d=Y ds):∃a,v=.ref a/\IsRow K m H .lst a d/\∃xs,SqL K H a xs:=by
 cases d with
 |loc l=>
  obtain⟨a,xs,c,rfl,q,r⟩:=f.list e b;exact⟨a,rfl,⟨rfl,c⟩,xs,q⟩
 |lst l=>
  obtain⟨a,xs,rfl,q,r⟩:=b.lst;exact⟨a,rfl,⟨rfl,xs,q,r⟩,xs,q.sq⟩
 |_=>exact nn e
noncomputable def IsSrc(K:Qqq)(m:L Y7)(H:Hp):Src->It->Prop
 |.rng lo n,Jq=>Jq=Itr lo n
 |.tup ds,Jq=>∃a xs,Jq=Itt K a/\SqT K H a xs/\IsDs K m H ds xs
 |.lst d,Jq=>∃a,IsRow K m H .lst a d/\Jq=Itl K a
 |.zip x y,Jq=>∃(k1 k2:RK) (a b:Y7),Jq=Itz K k1 k2 a b/\IsRow K m H k1 a x/\IsRow K m H k2 b y
 |.enu x,Jq=>∃(k:RK) (a:Y7),Jq=Ite K k a/\IsRow K m H k a x
 |.rev ds,Jq=>∃a xs,Jq=Itv K a xs.length/\SqT K H a xs/\IsDs K m H ds xs
theorem IsSrc.mono{K:Qqq}(h:IsSrc K m H s Jq)(b:Sub m c)(t:Tr H H'):IsSrc K c H' s Jq:=by
 cases s with
 |rng lo n=>exact h
 |tup ds=>obtain⟨a,xs,e,q,r⟩:=h; exact⟨a,xs,e,t.sqT q,qzd b t ds xs r⟩
 |lst l=>obtain⟨a,e,q⟩:=h; exact⟨a,e.mono b t,q⟩
 |zip x y=>obtain⟨k1,k2,a,d,e,h1,h2⟩:=h; exact⟨k1,k2,a,d,e,h1.mono b t,h2.mono b t⟩
 |enu x=>obtain⟨k,a,e,h⟩:=h; exact⟨k,a,e,h.mono b t⟩
 |rev ds=>obtain⟨a,xs,e,q,r⟩:=h; exact⟨a,xs,e,t.sqT q,qzd b t ds xs r⟩
def IsSrc.done{K:Qqq}{st:Y2}(h:IsSrc K m H s j)(f:Rel K m st H)(e:s.at st i=Y B):j.stop i H:=by
 cases s with
 |rng lo n=>
  cases h;simp only[Src.at]at e
  split at e
  ·cases e
  ·rename_i q;exact Nat.not_lt.mp q
 |tup ds=>
  obtain⟨a,xs,rfl,q,r⟩:=h;simp only[Src.at,Option.some.injEq]at e;exact⟨xs,q,by rw[<- r.length]; exact Qzu.mp e⟩
 |lst l=>
  obtain⟨a,t,rfl⟩:=h;simp only[Src.at]at e;refine qzg e λds d c=>?_;obtain⟨xs,q,r⟩:=t.sq' f d;exact⟨xs,q,by rw[<- r.length]; exact Qzu.mp c⟩
 |zip x y=>
  obtain⟨k1,k2,a,b,rfl,h1,h2⟩:=h;simp only[Src.at]at e;refine qzx e λds d e=>qzg e λes c g=>?_;obtain⟨xs,p,r1⟩:=h1.sq f d;obtain⟨ys,o,r2⟩:=h2.sq f c;refine⟨xs,ys,p,o,?_⟩;unfold M.pairAt at g;rw[<- r1.length,<- r2.length]
  cases z1:ds[i]? with
  |none=>exact .inl (Qzu.mp z1)
  |some v=>
   cases z2:es[i]? with
   |none=>exact .inr (Qzu.mp z2)
   |some u=>rw[z1,z2]at g; cases g
 |enu x=>
  obtain⟨k,a,rfl,h⟩:=h;simp only[Src.at]at e;refine qzg e λds d c=>?_;obtain⟨xs,q,r⟩:=h.sq f d;exact⟨xs,q,by rw[<- r.length]; exact Qzu.mp (Option.map_eq_none_iff.mp c)⟩
 |rev ds=>
  obtain⟨a,xs,rfl,q,r⟩:=h;simp only[Src.at]at e;show xs.length<=i;rw[<- r.length]
  split at e
  ·rw[Qqd (by omega)]at e; cases e
  ·omega
def IsSrc.next{K:Qqq}{st:Y2}(h:IsSrc K m H s G)(C:Rel K m st H)(e:s.at st i=Y (Y d)):G.go i H/\∀x H',G.yld i H x H'->Same H H'/\MS.IsD K m H' d x:=by
 cases s with
 |rng lo n=>
  cases h;simp only[Src.at]at e
  split at e
  ·rename_i q;cases e;refine⟨q,?_⟩;rintro x H' ⟨rfl,rfl⟩;exact⟨λ_ _ z=>z,mkInt _⟩
  ·cases e
 |tup ds=>
  obtain⟨a,xs,rfl,q,r⟩:=h;simp only[Src.at,Option.some.injEq]at e;obtain⟨x,ex,c⟩:=r.get e;refine⟨⟨xs,x,q,ex⟩,?_⟩;rintro y H' ⟨rfl,z⟩;have:=z xs q;rw[ex]at this;cases this;exact⟨λ_ _ z=>z,c⟩
 |lst l=>
  obtain⟨a,T,rfl⟩:=h;simp only[Src.at]at e;refine qzg e λds A t=>?_;obtain⟨xs,q,r⟩:=T.sq' C A;obtain⟨x,ex,c⟩:=r.get t;refine⟨⟨xs,x,q,ex⟩,?_⟩;rintro y H' ⟨rfl,z⟩;have:=z xs q;rw[ex]at this;cases this;exact⟨λ_ _ z=>z,c⟩
 |zip u v=>
  obtain⟨k1,k2,a,b,rfl,h1,h2⟩:=h;simp only[Src.at]at e;refine qzx e λds A e=>qzg e λes t f=>?_;obtain⟨xs,N,r1⟩:=h1.sq C A;obtain⟨ys,I,r2⟩:=h2.sq C t;unfold M.pairAt at f
  cases z1:ds[i]? with
  |none=>rw[z1]at f; cases f
  |some d1=>
   cases z2:es[i]? with
   |none=>rw[z1,z2]at f; cases f
   |some X=>
    rw[z1,z2]at f;cases f;obtain⟨x,ex,c⟩:=r1.get z1;obtain⟨y,Q,S⟩:=r2.get z2;refine⟨⟨xs,ys,x,y,N,I,ex,Q⟩,?_⟩;rintro w H' ⟨p,R,W,rfl,E,rfl,F,U⟩;have j:=F xs N;rw[ex]at j;cases j;have P:=U ys I;rw[Q]at P;cases P;have g:=qzb (o:=.tup [x,y]) E;exact⟨g,qq3 (SqT.of qzw) (qzd (Sub.refl _) (Tr.of_same g) _ _ (qzo c (qzo S qqk)))⟩
 |enu u=>
  obtain⟨k,a,rfl,h⟩:=h;simp only[Src.at]at e;refine qzg e λds A t=>qzg t λd0 f V=>?_;cases V;obtain⟨xs,q,r⟩:=h.sq C A;obtain⟨x,ex,c⟩:=r.get f;refine⟨⟨xs,x,q,ex⟩,?_⟩;rintro w H' ⟨p,R,rfl,E,rfl,F⟩;have j:=F xs q;rw[ex]at j;cases j;have g:=qzb (o:=.tup [.int i,x]) E;exact⟨g,qq3 (SqT.of qzw) (qzd (Sub.refl _) (Tr.of_same g) _ _ (qzo (mkInt _) (qzo c qqk)))⟩
 |rev ds=>
  obtain⟨a,xs,rfl,q,r⟩:=h;simp only[Src.at,Option.some.injEq]at e;have rl:=r.length
  split at e
  ·obtain⟨x,ex,c⟩:=r.get e;rw[rl]at ex;refine⟨⟨xs,x,q,rfl,by omega,ex⟩,?_⟩;rintro y H' ⟨rfl,z⟩;have:=z xs q;rw[ex]at this;cases this;exact⟨λ_ _ z=>z,c⟩
  ·exact nn e
noncomputable def tI(K:Qqq)(f:Sl->Y2->Y3 (Src×Y2)):TI:=λσ H R=>∃m st τ s st',Rel K m st H/\SlotOk K m H τ σ/\f τ st=Y (s,st')/\∀m' H' Jq,Sub m m'->Tr H H'->Rel K m' st' H'->IsSrc K m' H' s Jq->R Jq H'
def tI.el{K:Qqq}{P:Prop}(h:tI K f g H Q)(k:∀m st τ s st',Rel K m st H->SlotOk K m H τ g->f τ st=Y (s,st')->(∀m' H' i,Sub m m'->Tr H H'->Rel K m' st' H'->IsSrc K m' H' s i->Q i H')->P):P:=by
 rcases h with⟨m,st,τ,d,st',a,b,c,e⟩
 exact k m st τ d st' a b c e
def _root_.L2.PI.imp(h:PI X tg e t)(f:∀σ H R,t' σ H R->t σ H R):PI X tg e t':=λpins s σ H Q I q=>h pins s σ H Q I (f σ H Q q)
def PostO(K:Qqq)(m:L Y7)(H:Hp)(o:Out)(st':Y2)(Dn:Ends):Prop:=∀m' H',Sub m m'->Tr H H'->Rel K m' st' H'->match o with
 |.nx τ=>∀σ',SlotOk K m' H' τ σ'->Dn.nx σ' H'
 |.rt d=>∀v,IsD K m' H' d v->Dn.rt v H'
def PostO.mono{K:Qqq}(p:PostO K m H o st' Dn)(s:Sub m a)(t:Tr H b):PostO K a b o st' Dn:=λm' H' s' c r=>p m' H' (s.trans s') (t.trans c) r
noncomputable def tS(K:Qqq)(f:Sl->Y2->Y3 (Out×Y2)):TS:=λDn σ H=>∃m st τ o st',Rel K m st H/\SlotOk K m H τ σ/\f τ st=Y (o,st')/\PostO K m H o st' Dn
def PostO.of{K:Qqq}(q:PostO K m H d s Q)(e:Y (d',a)=Y (d,s)):PostO K m H d' a Q:=by cases e; exact q
def tS.el{K:Qqq}{P:Prop}(h:tS K f i g H)(k:∀m st τ o st',Rel K m st H->SlotOk K m H τ g->f τ st=Y (o,st')->PostO K m H o st' i->P):P:=by
 rcases h with⟨m,st,τ,d,st',a,b,c,e⟩
 exact k m st τ d st' a b c e
structure AllOk (fns:L Fn) (dl n:Y0):Prop where
 e:∀c X,Good fns dl c X->∀{j} e p,CkN j c e p->PE X p (tD X.K λτ st=>(M.rn fns dl n).ev τ st e)
 t:∀c X,Good fns dl c X->∀{j} e p,CkN j c e p->PT X p (tTs X.K λτ st=>(M.rn fns dl n).tst τ st e)
 w:∀c X,Good fns dl c X->∀{j} e op ps pos,CkN j c e (.BoolOp op ps pos)->PW X (.BoolOp op ps pos) (tTs X.K λτ st=>(M.rn fns dl n).tst τ st e)
 s:∀c X,Good fns dl c X->(∀x,X.fn x=O)->∀ss ps,CkSs c ss ps->PSs X ps (tS X.K λτ st=>(M.rn fns dl n).ex τ st ss)
def qcq(fns)(dl):AllOk fns dl 0 where
 e:=λc X G j e p h pins s σ H Q I q=>by obtain⟨m,st,τ,d,st',_,_,z,_⟩:=q; cases z
 t:=λc X G j e p h pins s σ H Q I q=>by obtain⟨m,st,τ,d,st',_,_,z,_⟩:=q; cases z
 w:=λc X G j e f ps pos h a pins s σ H Q I q=>by obtain⟨m,st,τ,d,st',_,_,z,_⟩:=q; cases z
 s:=λc X G hf b ps h pins s σ H Q I q=>by obtain⟨m,st,τ,d,st',_,_,z,_⟩:=q; cases z
section
variable {fns:L Fn}{dl n j:Y0}{c:Ctx}{X:Cx}
theorem qzp(A:AllOk fns dl n)(G:Good fns dl c X):∀{es}{ps},CkL (CkN j c) es ps->PA X ps (tL X.K λτ st=>M.evs ((?z).ev τ) es st)
 |_,_,.nil=>pa_nil.imp λ_ _ _ h=>tL_nil h
 |_,_,.cons h t=>(qqn (A.e c X G _ _ h) (qzp A G t) (h.star _ _)).imp λ_ _ _ q=>
   qme q
def CkN.plain(h:CkN j c e p):qvu e=true:=by
 cases j with
 |zero=>cases h
 |succ j=>
  cases h with
  |of _ a=>exact a
  |gc=>rfl
def qc9(h:qvu e=O)(r)(τ)(st):M.src r τ st e=(?qj).bind λp=>match p.1 with
   |.tup ds=>Y (.tup ds,p.2)
   |d=>(M.seqAt p.2 d).map λ_=>(.lst d,p.2):=by
 cases e with
 |rng1 _=>cases h
 |rng2 _ _=>cases h
 |zip _ _=>cases h
 |enu _=>cases h
 |rev _=>cases h
 |_=>rfl
def qya(A:AllOk fns dl n)(G:Good fns dl c X)(h:CkI (CkN j c) c tg it F):PI X tg F (tI X.K λτ st=>M.src ?z τ st it):=by
 have seq:∀{e p},CkN j c e p->(∀τ st,M.src ?z τ st e=((?z).ev τ st e).bind λp=>match p.1 with
   |.tup ds=>Y (.tup ds,p.2)
   |d=>(M.seqAt p.2 d).map λ_=>(.lst d,p.2))->PI X tg p (tI X.K λτ st=>M.src ?z τ st e):=by
  intro e p T P;refine(pi_seq (A.e c X G e p T)).imp λσ H R q=>q.el λm st τ s st' v S0 f q=>?_;have f:=(P τ st).symm.trans f;refine qzj f λd w u f=>rsI v S0 u λx m1 H1 b1 r o i1=>?_
  cases d with
  |tup ds=>
   cases f;obtain⟨a,xs,rfl,z,t⟩:=i1.tup;exact⟨a,rfl,.inr ⟨⟨xs,z⟩,q m1 H1 _ b1 r o ⟨a,xs,rfl,z,t⟩⟩⟩
  |loc l=>
   refine qzg f λds K I=>?_;cases I;obtain⟨a,rfl,g,xs,z⟩:=qwv i1 o K;exact⟨a,rfl,.inl ⟨⟨xs,z⟩,q m1 H1 _ b1 r o ⟨a,g,rfl⟩⟩⟩
  |lst l=>
   refine qzg f λds K I=>?_;cases I;obtain⟨a,rfl,g,xs,z⟩:=qwv i1 o K;exact⟨a,rfl,.inl ⟨⟨xs,z⟩,q m1 H1 _ b1 r o ⟨a,g,rfl⟩⟩⟩
  |_=>exact nn f
 cases h with
 |@rng1 _ a S p0 pos C g=>
  refine(qdm (G.gl C) (G.no rfl) (qzp A G (.cons g .nil)) (by rw[g.star]; rfl)).imp λσ H R q=>?_;refine q.el λm st τ s st' v S0 f q=>qzj f λd w u f=>?_
  cases d with
  |int k=>
   dsimp only at f
   split at f
   ·exact nn f
   ·rename_i hb;cases f;unfold M.big at hb;simp only[Qxl,decide_eq_true_eq]at hb;refine rsI (d:=[.int k]) (st':=st') v S0 ?_ λxs m1 H1 b1 r o i1=>?_
    ·show(((?z).ev τ st a).bind λp=>(Y (([]:L D),p.2)).bind λq=>Y (p.1::q.1,q.2))=_;rw[u]; rfl
    ·obtain⟨x,rfl,t⟩:=i1.one;cases t.int;exact⟨k,rfl,by omega,by omega,q m1 H1 _ b1 r o rfl⟩
  |_=>exact nn f
 |@rng2 _ a b S pb p0 pos C g hb=>
  refine(qdl (G.gl C) (G.no rfl) (qzp A G (.cons g (.cons hb .nil))) (by rw[g.star,hb.star]; rfl) (by rw[hb.star]; rfl)).imp λσ H R q=>?_;refine q.el λm st τ s st' v S0 f q=>qzj f λd w u f=>qzj f λW V K f=>?_;dsimp only at f
  split at f
  ·rename_i i j _
   split at f
   ·exact nn f
   ·rename_i hb;cases f;unfold M.big at hb;simp only[Qxl,decide_eq_true_eq]at hb;refine rsI (d:=[.int i,.int j]) (st':=st') v S0 ?_ λxs m1 H1 b1 r o i1=>?_
    ·show(((?z).ev τ st a).bind λp=>(((?z).ev τ p.2 b).bind λp=>(Y (([]:L D),p.2)).bind λq=>Y (p.1::q.1,q.2)).bind λq=>Y (p.1::q.1,q.2))=_;rw[u];show(((?z).ev τ w b).bind λp=>(Y (([]:L D),p.2)).bind λq=>Y (p.1::q.1,q.2)).bind _=_;rw[K]; rfl
    ·obtain⟨x,y,rfl,t,N⟩:=i1.two;cases t.int;cases N.int;exact⟨i,j,rfl,⟨by omega,by omega,by omega,by omega⟩,q m1 H1 _ b1 r o rfl⟩
  ·exact nn f
 |@zip ts k tp a b S pb p0 pos C g hb=>
  refine(pi_zip (G.gl C) (G.no rfl) (qzp A G (.cons g (.cons hb .nil))) (by rw[g.star,hb.star]; rfl) (by rw[hb.star]; rfl)).imp λσ H R q=>?_;obtain⟨m,st,τ,s,st',v,S0,f,q⟩:=q;refine qzj f λd w u f=>qzj f λW V K f=>qzx f λds I f=>qzg f λes e5 U=>?_;cases U;refine rsI (d:=[d,W]) (st':=V) v S0 ?_ λxs m1 H1 b1 r o i1=>?_
  ·show(((?z).ev τ st a).bind λp=>(((?z).ev τ p.2 b).bind λp=>(Y (([]:L D),p.2)).bind λq=>Y (p.1::q.1,q.2)).bind λq=>Y (p.1::q.1,q.2))=_;rw[u];show(((?z).ev τ w b).bind λp=>(Y (([]:L D),p.2)).bind λq=>Y (p.1::q.1,q.2)).bind _=_;rw[K]; rfl
  ·obtain⟨x,y,rfl,t,N⟩:=i1.two;obtain⟨k1,Q,rfl,h1,w1⟩:=qvw t o I;obtain⟨k2,a2,rfl,h2,w2⟩:=qvw N o e5;exact⟨k1,k2,Q,a2,rfl,w1,w2,q m1 H1 _ b1 r o ⟨k1,k2,Q,a2,rfl,h1,h2⟩⟩
 |@enu ts k tp a S p0 pos C g=>
  refine(qny (G.gl C) (G.no rfl) (qzp A G (.cons g .nil)) (by rw[g.star]; rfl)).imp λσ H R q=>?_;refine q.el λm st τ s st' v S0 f q=>qzj f λd w u f=>qzg f λds I U=>?_;cases U;refine rsI (d:=[d]) (st':=w) v S0 ?_ λxs m1 H1 b1 r o i1=>?_
  ·show(((?z).ev τ st a).bind λp=>(Y (([]:L D),p.2)).bind λq=>Y (p.1::q.1,q.2))=_;rw[u]; rfl
  ·obtain⟨x,rfl,t⟩:=i1.one;obtain⟨k1,Q,rfl,h1,w1⟩:=qvw t o I;exact⟨k1,Q,rfl,w1,q m1 H1 _ b1 r o ⟨k1,Q,rfl,h1⟩⟩
 |@rev _ a S p0 pos C g=>
  refine(pi_rev (G.gl C) (G.no rfl) (qzp A G (.cons g .nil)) (by rw[g.star]; rfl)).imp λσ H R q=>?_;refine q.el λm st τ s st' v S0 f q=>qzj f λd w u f=>?_
  cases d with
  |tup ds=>
   cases f;refine rsI (d:=[.tup ds]) (st':=w) v S0 ?_ λxs m1 H1 b1 r o i1=>?_
   ·show(((?z).ev τ st a).bind λp=>(Y (([]:L D),p.2)).bind λq=>Y (p.1::q.1,q.2))=_;rw[u]; rfl
   ·obtain⟨x,rfl,t⟩:=i1.one;obtain⟨a,xs,rfl,z,N⟩:=t.tup;exact⟨a,xs,rfl,z,q m1 H1 _ b1 r o ⟨a,xs,rfl,z,N⟩⟩
  |_=>exact nn f
 |@seq _ e p T=>
  exact seq T (qc9 (CkN.plain T) _)
def po_ok(A:AllOk fns dl n)(G:Good fns dl c X)(h:CkO (CkN j c) o p):PO X p (λσ H Q=>∃m st τ l st',Rel X.K m st H/\SlotOk X.K m H τ σ/\M.part ?z τ st o=Y (l,st')/\∀m' H',Sub m m'->Tr H H'->Rel X.K m' st' H'->Q l H'):=by
 cases h with
 |none=>
  intro pins s σ H Q I q;obtain⟨m,st,τ,l,st',a,S0,e,k⟩:=q;cases e;exact qnv pins s σ H Q I (k m H ?M (Tr.refl H) a)
 |@some e p h=>
  intro pins s σ H Q I q;obtain⟨m,st,τ,l,st',a,S0,u,k⟩:=q;refine qzj u λd x r f=>?_
  cases d with
  |int i=>
   cases f;exact qnk (A.e c X G e p h) pins s σ H Q I (rsI a S0 r λv m' H' b t w g=>⟨i,g.int,k m' H' b t w⟩)
  |_=>exact nn f
noncomputable def gIs:L Y0->TGs
 |[]=>gNil
 |i::is=>gCons (qye i) (gIs is)
noncomputable def gT(K:Qqq):T->TG
 |.var i=>qye i
 |.tup is=>gTup K is.length (gIs is)
theorem qln{K:Qqq}:∀{is}{ds}{xs}{τ a}{f},IsDs K m H ds xs->SlotOk K m H τ f->M.setIs is ds τ=Y a->(∀b,SlotOk K m H a b->Q b H)->gIs is xs f H Q
 |[],[],xs,τ,a,f,g,S0,e,k=>by
  cases e;exact⟨g.nil,k f S0⟩
 |i::is,d::ds,xs,τ,a,f,g,S0,e,k=>by
  obtain⟨x,r,rfl,q,t⟩:=g.cons;unfold M.setIs at e
  split at e
  ·exact⟨x,r,rfl,qln t (S0.put q) e k⟩
  ·exact nn e
 |[],_::_,_,_,_,_,_,_,e,_=>by cases e
 |_::_,[],_,_,_,_,_,_,e,_=>by cases e
theorem qvr:∀{is}{ds}{τ a},M.setIs is ds τ=Y a->is.length=ds.length
 |[],[],_,_,_=>rfl
 |i::is,d::ds,τ,a,e=>by
  unfold M.setIs at e
  split at e
  ·rw[Qqh,Qqh,qvr e]
  ·exact nn e
 |[],_::_,_,_,e=>by cases e
 |_::_,[],_,_,e=>by cases e
def qiq{K:Qqq}(h:IsD K m H d v)(l:SlotOk K m H τ f)(e:M.setT t d τ=Y τ')(k:∀b,SlotOk K m H τ' b->Q b H):gT K t v f H Q:=by
 cases t with
 |var i=>
  have e:(if i<τ.length then Y (τ.set i (Y d)) else B)=Y τ':=e
  split at e
  ·cases e;exact k _ (l.put h)
  ·exact nn e
 |tup p=>
  cases d with
  |tup ds=>
   obtain⟨a,xs,rfl,o,g⟩:=h.tup;exact⟨a,xs,rfl,o,by rw[<- g.length,qvr e],qln g l e k⟩
  |_=>exact nn e
def qjc(G:Good fns dl c X){i:Y0}(h:c.N[i]?=Y x):X.N[i]?=Y x:=by rw[G.N]; exact h
def qgz:Qc ("any" : Y5)=Y (.builtin "any"):=by decide +kernel
def qgq:Qc ("all" : Y5)=Y (.builtin "all"):=by decide +kernel
def qf9:Qc ("int" : Y5)=Y (.type "int"):=by decide +kernel
def qcz:Qc ("bool" : Y5)=Y (.type "bool"):=by decide +kernel
def qf5:Qc ("str" : Y5)=Y (.type "str"):=by decide +kernel
def qws:Qc ("isinstance" : Y5)=Y (.builtin "isinstance"):=by decide +kernel
def qwp:Qc ("sorted" : Y5)=Y (.builtin "sorted"):=by decide +kernel
def qf6:Qc ("set" : Y5)=Y (.type "set"):=by decide +kernel
def qwr:Qc ("len" : Y5)=Y (.builtin "len"):=by decide +kernel
def qf7:Qc ("min" : Y5)=Y (.builtin "min"):=by decide +kernel
def qf8:Qc ("max" : Y5)=Y (.builtin "max"):=by decide +kernel
def qk0:Qc ("list" : Y5)=Y (.type "list"):=by decide +kernel
def qkk:Qc ("tuple" : Y5)=Y (.type "tuple"):=by decide +kernel
def ty_ok(G:Good fns dl c X){t:M.Ty}(b:t≠.non)(a:c.sc.names.lookup (Str.ofString t.name)=Y .globalImplicit):PE X (.Name (Str.ofString t.name) pos) (tC (.ty t.name)):=by
 cases t with
 |non=>exact absurd rfl b
 |bl=>exact qjp (G.gl a) (G.no rfl) qcz rfl (by decide) (by decide)
 |int=>exact qjp (G.gl a) (G.no rfl) qf9 rfl (by decide) (by decide)
 |str=>exact qjp (G.gl a) (G.no rfl) qf5 rfl (by decide) (by decide)
 |tup=>exact qjp (G.gl a) (G.no rfl) qkk rfl (by decide) (by decide)
 |lst=>exact qjp (G.gl a) (G.no rfl) qk0 rfl (by decide) (by decide)
noncomputable def tCs:L V->TA
 |[]=>tNil
 |v::vs=>qmf (tC v) (tCs vs)
theorem qct:∀(vs:L V) (a:L2.St) (H:Hp) (Q:L V->Hp->Prop),Q vs H->tCs vs a H Q
 |[],_,_,_,h=>h
 |v::vs,a,H,Q,h=>qct vs a H (λxs H2=>Q (v::xs) H2) h
theorem qip(G:Good fns dl c X):∀{ts}{ps},CkTys c ts ps->PA X ps (tCs (ts.map λt=>V.ty t.name))/\∀t∈ts,t≠.non
 |_,_,.nil=>⟨pa_nil,λ_ h=>nomatch h⟩
 |_,_,.cons a d h=>by
  obtain⟨h1,h2⟩:=qip G h;refine⟨qqn (ty_ok G a d) h1 rfl,λt b=>?_⟩;rcases Qqb.mp b with z|z
  ·rw[z]; exact a
  ·exact h2 t z
end
section
variable {fns:L Fn}{dl n j:Y0}{c:Ctx}{X:Cx}
def ql9:UnR X (unaryOp .USub) (rU1 X.K λst d=>match d with|.int i=>Y (.int (-i),st)|_=>B):=by
 intro pins s σ H x v Q I b h;refine h.el λm st a d st' f i1 e q=>?_
 cases a with
 |int i=>
  have q:=q.of e;exact un_neg pins s σ H x v Q I b ⟨i,i1.int,q.here f (mkInt _)⟩
 |_=>exact nn e
def qks(G:Good fns dl c X)(h:CpOk c scope sr N e t):CompScope X N sr scope:=
 ⟨h.kind,h.cell,λy f hf=>by
  have:=h.free y f hf;show X.env.scope.names.lookup y.1=_\/X.env.scope.names.lookup y.1=_;rw[G.sc]; exact this,h.loc,h.len,λj i q=>by
  obtain⟨x,a,b,d⟩:=h.src j i q
  exact⟨x,a,qjc G b,d⟩⟩
noncomputable def tOpt(K:Qqq)(r:R):Y3 E->TT
 |none=>λ_ H Q=>Q O H
 |some c=>tTs K λτ st=>r.tst τ st c
def qis(A:AllOk fns dl n)(G:Good fns dl c X)(h:CkO (CkN j c) q a):qcj X a.toList (tOpt X.K ?z q):=by
 cases h with
 |none=>exact qgr
 |some h=>exact qgp (A.t _ _ G _ _ h)
def qh4{K:Qqq}(sr)(h:SlotOk K m H τ f):SlotOk K m H (M.inner sr τ) (qq0 sr f):=by
 refine⟨by unfold M.inner qq0; rw[Qqz,Qqz],λj d e=>?_⟩;unfold M.inner at e;rw[Qqw]at e;unfold qq0;rw[Qqw]
 cases q:sr[j]? with
 |none=>rw[q]at e; cases e
 |some o=>
  rw[q]at e
  cases o with
  |none=>cases e
  |some i=>
   have hi:τ[i]?=Y (Y d):=by
    cases z:τ[i]? with
    |none=>simp[z]at e
    |some w=>
     cases w with
     |none=>simp[z]at e
     |some w=>simpa[z] using e
   obtain⟨v,a,b⟩:=h.at_ i d hi;refine⟨v,?_,b⟩;simp[a]
def comp_W{K:Qqq}{Q:VK}(R1:Rel K I G N)(hJ:IsSrc K I N s Jq)(S1:SlotOk K I N C P)(e2:M.loopC s (M.turnC r t q elt) k0 0 [] C G=Y u)(a2:∀l H' a,Sub I l->Tr N H'->Rel K l u.2 H'->IsDs K l H' u.1 a->∀S,H' S=B->Q (.ref S) (upd H' S (.lst a))):
  ∃W:Y0->Y0->L V->L2.St->Hp->Prop,(∃k,W 0 k [] P N)/\
 ∀i k a f H',W i k a f H'->(Jq.stop i H'/\a.length<=sizeLine/\∀p,H' p=B->Q (.ref p) (upd H' p (.lst a)))\/(Jq.go i H'/\a.length<sizeLine/\∀x H2,Jq.yld i H' x H2->gT K t x f H2 λm H3=>tOpt K r q m H3 λb H4=>
  if b=O then tD K (λτ st=>r.ev τ st elt) m H4 λv H5=>∃k',k'<k/\W (i+1) k' (a++[v]) m H5 else ∃k',k'<k/\W (i+1) k' a m H4):=by
 refine⟨λi' k a f H'=>∃l F A d,Sub I l/\Tr N H'/\Rel K l F H'/\SlotOk K l H' A f/\IsDs K l H' d a/\M.loopC s (M.turnC r t q elt) k i' d A F=Y u,
  ⟨_,I,G,C,[],Sub.refl _,Tr.refl _,R1,S1,qqk,e2⟩,?_⟩
 rintro j k a f H' ⟨l,F,A,d,b2,w,R2,S2,H,e⟩
 cases k with
 |zero=>exact nn e
 |succ k=>
  have e:=e;refine qzx e λo e5 e=>?_;have l1:=H.length;have l2:=qqy
  cases o with
  |none=>
   dsimp only at e
   split at e
   ·exact nn e
   ·rename_i hl;cases e;refine .inl ⟨(hJ.mono b2 w).done R2 e5,by lia,λS hp=>?_⟩;exact a2 l H' a b2 w R2 H S hp
  |some d'=>
   dsimp only at e
   split at e
   ·exact nn e
   ·rename_i hl;obtain⟨a1,hy⟩:=(hJ.mono b2 w).next R2 e5;refine .inr ⟨a1,by lia,λx H2 a0=>?_⟩;obtain⟨U,ix⟩:=hy x H2 a0;have w:=w.trans (Tr.of_same U);have R2:=R2.same U;have S2:=S2.mono (Sub.refl _) (Tr.of_same U);have H:=qzd (Sub.refl _) (Tr.of_same U) _ _ H;refine qzx e λz h e=>?_;unfold M.turnC at h;refine qzx h λa4 e7 h=>qiq ix S2 e7 λa5 S3=>?_
    ·cases q with
     |none=>
      unfold tOpt;dsimp only at h ⊢;refine qzg h λy e8 e9=>?_;cases e9;rw[Z6 rfl];refine rsI R2 S3 e8 λv m3 H3 b3 g R3 i3=>⟨k,Qzo k,m3,y.2,_,d++[y.1],b2.trans b3,w.trans g,R3,S3.mono b3 g,(qzd b3 g _ _ H).append (qzo i3 qqk),e⟩
     |some cq=>
      unfold tOpt;refine qzx h λbb e8 h=>rsI R2 S3 e8 λm3 H3 b3 g R3=>?_
      cases hb:bb.1 with
      |true=>
       rw[hb,Z6 rfl]at h;rw[Z6 rfl];refine qzg h λy e9 a3=>?_;cases a3;refine rsI R3 (S3.mono b3 g) e9 λv m4 H4 b4 t4 R4 i4=>⟨k,Qzo k,m4,y.2,_,d++[y.1],b2.trans (b3.trans b4),w.trans (g.trans t4),R4,S3.mono (b3.trans b4) (g.trans t4),(qzd (b3.trans b4) (g.trans t4) _ _ H).append (qzo i4 qqk),e⟩
      |false=>
       rw[hb,Z5 Qq8]at h;cases h;rw[Z5 Qq8];exact⟨k,Qzo k,m3,bb.2,_,d,b2.trans b3,w.trans g,R3,S3.mono b3 g,qzd b3 g _ _ H,e⟩
def qcp{K:Qqq}(h:tD K (λτ st=>M.stepEv r τ st (.comp t it q elt sr)) b H Q):
  qmg sr (tI K λτ st=>M.src r τ st it) (gT K t) (tOpt K r q) (tD K λτ st=>r.ev τ st elt) b H Q:=by
 refine h.el λm st τ d st' A S0 e a=>?_;have e:=e;refine qzx e λp x e=>qzg e λk w v=>rsI A S0 x λm1 H1 C b1 f z u=>comp_W z u (qh4 sr (S0.mono b1 f)) w λo H' y b2 i R2 s l g=>?_;cases v;exact a _ (o++[l]) _ (b1.trans (b2.trans (Sub.app _ _))) (f.trans (i.trans (Tr.of_same (qzb g)))) (R2.new g s) R2.newLoc
theorem qkg(G:Good fns dl c X):∀{is}{es},CkTs c is es->(∀i∈is,∀x,c.N[i]?=Y x->X.fn x=O\/c.sc.names.lookup x=Y .local)->PGs X es (gIs is)/\(Qt es X.env).length=is.length/\(Qt es X.env).findIdx? (·.1)=B
 |_,_,.nil,_=>⟨qnb,rfl,rfl⟩
 |_,_,.cons (i:=i) (x:=x) (pos:=pos) (is:=is) (es:=es) a hl h,hf=>by
  obtain⟨h1,h2,d⟩:=qkg G h λj hj=>hf j (Qq3 _ hj);have b:PG X (.Name x pos) (qye i):=qdn (by rw[G.N]; exact G.nd) (qjc G a) (by rw[G.sc]; exact hl) (by rw[G.sc]; exact hf i Qzk x a);refine⟨qhy b h1 rfl,?_,?_⟩
  ·show(Qt es X.env).length+1=is.length+1;rw[h2]
  ·show List.findIdx? (·.1) ((Y6,assign (.Name x pos) X.env)::Qt es X.env)=B;rw[List.findIdx?_cons,d]
   rfl
def qql(G:Good fns dl c X)(h:CkT c t tg)(hf:∀i∈t.slots,∀x,c.N[i]?=Y x->X.fn x=O\/c.sc.names.lookup x=Y .local):PG X tg (gT X.K t):=by
 cases h with
 |@var i x pos a hl=>exact qdn (by rw[G.N]; exact G.nd) (qjc G a) (by rw[G.sc]; exact hl) (by rw[G.sc]; exact hf i (by simp[T.slots]) x a)
 |@tup d es k pos h=>
  obtain⟨h1,h2,b⟩:=qkg G h hf;exact pg_tup G.calm h1 h2 b
noncomputable def qmk(r:R)(K:Qqq):L E->L (TE×TE)
 |k::v::es=>(tD K λτ st=>r.ev τ st k,tD K λτ st=>r.ev τ st v)::qmk r K es
 |_=>[]
noncomputable def twos:L V->L (V×V)
 |x::y::r=>(x,y)::twos r
 |_=>[]
theorem qv3(A:AllOk fns dl n)(G:Good fns dl c X):∀{es}{ks}{vs},CkP (CkN j c) es ks vs->PPs X pos ks vs (qmk ?z X.K es)/\ks.all (·.isSome)=O/\ks.length=vs.length
 |_,_,_,.nil=>⟨qnj,rfl,rfl⟩
 |_,_,_,.cons hk hv t=>by
  obtain⟨h1,h2,a⟩:=qv3 A G t;refine⟨qhj (A.e c X G _ _ hk) (A.e c X G _ _ hv) h1,?_,?_⟩
  ·rw[Qz7,h2]; rfl
  ·rw[Qqh,Qqh,a]
theorem qv2{K:Qqq}:∀{es}{ks}{vs}{c}{m}{st st'}{H}{τ}{b}{ds}{Q},CkP (CkN j c) es ks vs->Rel K m st H->SlotOk K m H τ b->M.evs (r.ev τ) es st=Y (ds,st')->
  (∀xs m' H',Sub m m'->Tr H H'->Rel K m' st' H'->IsDs K m' H' ds xs->Q (twos xs) H')->qyu (qmk r K es) b H Q
 |_,_,_,c,m,st,st',H,τ,b,ds,Q,.nil,h,S0,e,q=>by
  cases e;exact q [] m H ?M (Tr.refl H) h qqk
 |_,_,_,c,m,st,st',H,τ,b,ds,Q,.cons hk hv t,h,S0,e,q=>by
  have e:=e;refine qzj e λI C p e=>qzx e λw a e=>qzj a λG A o a=>qzx a λu l a=>?_;cases a;cases e;exact rsI h S0 p λx m1 H1 b1 g v i1=>rsI v (S0.mono b1 g) o λy F H2 b2 f R2 i2=>qv2 t R2 (S0.mono (b1.trans b2) (g.trans f)) l λxs i z b3 d s k=>q (x::y::xs) i z ?qf (g.trans (f.trans d)) s (qzo (qzk (b2.trans b3) (f.trans d) _ _ i1) (qzo (qzk b3 d _ _ i2) k))
theorem qax{K:Qqq}:∀{ds}{xs}{kvs},IsDs K m H ds xs->M.pairUp ds=Y kvs->∃ys:L (Key×V),IsKV K m H kvs ys/\twos xs=ys.map λkv=>(kV kv.1,kv.2)
 |[],xs,kvs,b,e=>by
  cases e;rw[b.nil];exact⟨[],rfl,rfl⟩
 |[d],xs,kvs,b,e=>by cases e
 |d::d'::ds,xs,kvs,b,e=>by
  have e:(if M.isKey d then(M.pairUp ds).map ((d,d')::·) else B)=Y kvs:=e
  split at e
  ·rename_i hk;refine qzg e λq o l=>?_;subst l;obtain⟨x,p,rfl,i1,i2⟩:=b.cons;obtain⟨y,f,rfl,h,g⟩:=i2.cons;obtain⟨k,a⟩:=qqo hk;have i:=qh2 a i1;subst i;obtain⟨ys,h1,h2⟩:=qax g o;refine⟨(k,y)::ys,⟨k,y,ys,rfl,a,h,h1⟩,?_⟩;show(kV k,y)::twos f=_;rw[h2]
   rfl
  ·exact nn e
def qjf{K:Qqq}(h:tD K (λτ st=>M.stepEv r τ st (.meth a k es)) o H Q):
  tBM K "list" (λx xs H Q=>∃m st a ds d st',Rel K m st H/\IsD K m H a x/\IsDs K m H ds xs/\M.mfun st k a ds=Y (d,st')/\Post K m H d st' Q) (tD K λτ st=>r.ev τ st a) (tL K λτ st=>M.evs (r.ev τ) es st) o H Q:=by
 refine h.el λm st τ d st' C S0 b e=>qzj b λi u A b=>?_
 split at b
 ·rename_i f;refine qzx b λq z b=>rsI C S0 A λv m1 H1 b1 s t i1=>⟨?_,rsI t (S0.mono b1 s) z λxs w H2 b2 p R2 i2=>⟨w,q.2,i,q.1,d,st',R2,qzk b2 p _ _ i1,i2,b,e.mono (b1.trans b2) (s.trans p)⟩⟩
  have hs:∃ds,M.seqAt u i=Y ds:=by
   cases i with
   |loc l=>exact Qz6.mp ((Bool.true_and _).symm.trans f)
   |lst l=>exact Qz6.mp ((Bool.true_and _).symm.trans f)
   |_=>cases f
  obtain⟨ds,g⟩:=hs;obtain⟨D,xs,_,rfl,y,_⟩:=t.seq g i1;exact .inl ⟨rfl,xs,y⟩
 ·exact nn b
def e_ok(A:AllOk fns dl n)(G':Good fns dl c X)(h:CkN j c e p):PE X p (tD X.K λτ st=>M.stepEv ?z τ st e):=by
 have G:=G';have hu:=G'.room.units
 cases j with
 |zero=>cases h
 |succ j=>
 cases h with
 |gc hs hq U hg I=>exact(pe_gc (A.e (j:=j+1) c X G _ _ (.of hs hq I))).imp λ_ _ _ h=>h
 |of hs hq h=>
 clear hs hq
 cases h with
 |nm h=>
  cases h with
  |@var i x hN hv hd c4=>
  refine(pe_var (qjc G hN) (by rw[G.sc]; exact hv) hd c4).imp λσ H Q h=>?_;refine h.el λm st τ d st' K S0 e q=>?_;simp only[M.stepEv]at e
  split at e
  ·rename_i d' c3;cases e;obtain⟨v,a,b⟩:=S0.at_ i d c3;exact⟨v,a,q.here K b⟩
  ·exact nn e
  |@glo x d hg hm hd=>
  obtain⟨u,v,h1,h2,h3⟩:=G.mo.glo _ _ hm;exact(qw9 (G.gl hg) h1 h2 hd).imp λσ H Q h=>h.el λm st τ d st' K S0 e q=>by cases e; exact q.here K (h3 m H)
 |int=>exact pe_int.imp λσ H Q h=>h.el λm st τ d st' K S0 e q=>by cases e; exact q.here K (mkInt _)
 |bl=>exact pe_bl.imp λσ H Q h=>h.el λm st τ d st' K S0 e q=>by cases e; exact q.here K (mkBl _)
 |non=>exact pe_non.imp λσ H Q h=>h.el λm st τ d st' K S0 e q=>by cases e; exact q.here K qvj
 |str=>exact pe_str.imp λσ H Q h=>h.el λm st τ d st' K S0 e q=>by cases e; exact q.here K (mkStr _)
 |@bin op a b S pb pos I hb=>
  exact(pe_op (qn1 op) ?O ?ql).imp λσ H Q h=>qcr h
 |@lenset a S p0 p1 c8 pos hg hs I=>
  refine(qz3 qft (G.gl hg) (G.no rfl) qwr (qqn (qjo (qfm G.room.hd G.room.units) (G.gl hs) (G.no rfl) qf6 (qqn ?O pa_nil (I.star _ _)) (by decide) (by decide) (I.star _ _) rfl) pa_nil rfl) (by decide) (by decide) rfl rfl).imp λσ H Q h=>?_;refine h.el λm st τ d st' K S0 e g=>qzj e λd1 s1 T e=>qzg e λd2 e2 e3=>?_;cases e3;refine rsI K S0 T λx m1 H1 b1 P R ix=>?_
  cases d1 with
  |tup ds=>
   obtain⟨ks,k1,k2⟩:=Option.bind_eq_some_iff.mp (e2)
   split at k2
   ·rename_i c6;cases k2;obtain⟨pt,ys,rfl,hq,iy⟩:=ix.tup;refine⟨pt,ys,ks,rfl,hq,qed iy k1,by rw[<- iy.length]; exact c6,λl hl=>?_⟩;refine⟨l,_,rfl,qzw,?_⟩;have sm:=qzb (o:=setO l (ST.distinct ks).length) hl;exact g _ m1 _ b1 (P.trans (Tr.of_same sm)) (R.same sm) (mkInt _)
   ·exact nn k2
  |_=>exact nn e2
 |@neg a S pos I=>
  exact(pe_un ql9 ?O).imp λσ H Q h=>tD_un h
 |@not a S pos I=>
  refine(pe_not ?O).imp λσ H Q h=>h.el λm st τ d st' K S0 e q=>qzj e λd1 s1 T e=>rsI K S0 T λv m1 H1 b1 P R i1=>?_
  cases d1 with
  |bl k=>
   have q:=q.of e;exact⟨k,i1.bl,q _ m1 H1 b1 P R (mkBl _)⟩
  |_=>exact nn e
 |@cmp op a b S pb pos I hb=>
  exact(qnl (qxl hu op) ?O ?ql (qbe hb.sh _)).imp λσ H Q h=>qcr h
 |@cmp2 op b5 a b d S pb pd pos I hb hd=>
  refine(qhi (qxl hu op) (qxl hu b5) ?O ?ql (A.e c X G d pd hd) (qbe hd.sh _)).imp λσ H Q h=>h.el λm st τ dd st' K S0 e q=>qzj e λd1 s1 T e=>qzj e λd2 s2 e2 e=>qzx e λk e3 e=>rsI K S0 T λx m1 H1 b1 P R i1=>rsI R (S0.mono b1 P) e2 λy m2 H2 b2 t2 R2 i2=>
   ⟨m2,s2,d1,d2,.bl k,s2,R2,qzk b2 t2 _ _ i1,i2,by show Option.map _ (M.cmpD s2 op d1 d2)=_; rw[e3]; rfl,λz m3 H3 b3 t3 R3 i3=>⟨k,i3.bl,?_⟩⟩
  cases k with
  |true=>
   rw[Z6 rfl]at e ⊢;exact qzj e λd3 s3 e4 e=>rsI R3 (S0.mono ?qf (P.trans (t2.trans t3))) e4 λy' m4 H4 b4 t4 R4 i4=>
    ⟨m4,s3,d2,d3,dd,st',R4,qzk (b3.trans b4) (t3.trans t4) _ _ i2,i4,e,q.mono (b1.trans (b2.trans (b3.trans b4))) (P.trans (t2.trans (t3.trans t4)))⟩
  |false=>
   rw[Z5 Qq8]at e ⊢;have q:=q.of e;exact q _ m3 H3 ?qf (P.trans (t2.trans t3)) R3 (mkBl _)
 |@and a b S pb r pos I hb=>
  have hb:PE X (.BoolOp .And (pb::r) pos) (tD X.K λτ st=>(?z).ev τ st b):=by
   cases r with
   |nil=>exact qlq ?ql
   |cons=>exact A.e c X G b _ hb
  refine(pe_and ?O hb).imp λσ H Q h=>h.el λm st τ d st' K S0 e q=>qzj e λd1 s1 T e=>rsI K S0 T λv m1 H1 b1 P R i1=>?_
  cases d1 with
  |bl k=>
   cases k with
   |true=>exact⟨O,i1.bl,rsI R (S0.mono b1 P) e (q.mono b1 P)⟩
   |false=>cases e; exact⟨Y6,i1.bl,q _ m1 H1 b1 P R (mkBl _)⟩
  |_=>exact nn e
 |@or a b S pb r pos I hb=>
  have hb:PE X (.BoolOp .Or (pb::r) pos) (tD X.K λτ st=>(?z).ev τ st b):=by
   cases r with
   |nil=>exact qlq ?ql
   |cons=>exact A.e c X G b _ hb
  refine(pe_or ?O hb).imp λσ H Q h=>h.el λm st τ d st' K S0 e q=>qzj e λd1 s1 T e=>rsI K S0 T λv m1 H1 b1 P R i1=>?_
  cases d1 with
  |bl k=>
   cases k with
   |false=>exact⟨Y6,i1.bl,rsI R (S0.mono b1 P) e (q.mono b1 P)⟩
   |true=>cases e; exact⟨O,i1.bl,q _ m1 H1 b1 P R (mkBl _)⟩
  |_=>exact nn e
 |@ite q a b pq S pb pos hq I hb=>
  refine(qhc (A.t c X G q pq hq) ?O ?ql).imp λσ H Q h=>h.el λm st τ d st' K S0 e g=>qzx e λbb T e=>rsI K S0 T λm1 H1 b1 P R=>?_
  cases hb:bb.1 with
  |true=>
   rw[hb,Z6 rfl]at e;rw[Z6 rfl];exact rsI R (S0.mono b1 P) e (g.mono b1 P)
  |false=>
   rw[hb,Z5 Qq8]at e;rw[Z5 Qq8];exact rsI R (S0.mono b1 P) e (g.mono b1 P)
 |@tup es ps k pos hs=>
  refine(qlz (qzp A G hs)).imp λσ H Q h=>h.el λm st τ d st' K S0 e g=>qzx e λp T e=>?_
  split at e
  ·exact nn e
  ·rename_i hl;have g:=g.of e;refine rsI K S0 T λxs m1 H1 b1 P R ix=>?_;have l1:=ix.length;have l2:=qqy;refine⟨by lia,λpp U=>?_⟩;have sm:=qzb (o:=.tup xs) U;exact g _ m1 _ b1 (P.trans (Tr.of_same sm)) (R.same sm) (qq3 (SqT.of qzw) (qzd (Sub.refl _) (Tr.of_same sm) _ _ ix))
 |@lst es ps pos hs=>
  refine(pe_lst (qzp A G hs)).imp λσ H Q h=>h.el λm st τ d st' K S0 e g=>qzx e λp T e=>?_
  split at e
  ·exact nn e
  ·rename_i hl;have g:=g.of e;refine rsI K S0 T λxs m1 H1 b1 P R ix=>?_;have l1:=ix.length;have l2:=qqy;refine⟨by lia,λpp U=>?_⟩;exact g _ (m1++[pp]) _ (b1.trans (Sub.app _ _)) (P.trans (Tr.of_same (qzb U))) (R.new U ix) R.newLoc
 |@idx a b S pb pos I hb=>
  exact(pe_ix ix_D ?O ?ql (qms hb.sh)).imp λσ H Q h=>qcr h
 |@call f x es p ps p0 pos hg hf hd hn hs=>
  obtain⟨fa,fd,a0,hm,F,hk,hb⟩:=G'.tab f x hf;have U:Star p:=by cases hs with|cons h _=>exact h.star
  have W:(backTo pos (starEach ps X.env)).any (·.1)=false:=by cases hs with|cons _ t=>exact qq2 t pos X.env
  refine(qnm F (G.room.mono (by lia)) (G.gl hg) (hm.1 hn) hk hb .nil qhl (qzp A G hs) hd (U _ _) W).imp λσ H Q h=>?_;refine h.el λm st τ d st' K S0 e g=>qzx e λq T e=>rsI K S0 T λxs m1 H1 b1 P R ix=>?_;show spN X.K fns dl f (xs++[]) H1 Q E0;have e:=e;rw[M.runK_call]at e;rw[Qzx];exact⟨m1,q.2,q.1,d,st',R,ix,e,g.mono b1 P⟩
 |@bcall b es p ps p0 pos hg d5 hs=>
  have U:Star p:=by cases hs with|cons h _=>exact h.star
  have W:(backTo pos (starEach ps X.env)).any (·.1)=false:=by cases hs with|cons _ t=>exact qq2 t pos X.env
  have hA:=qzp A G hs
  cases b with
  |len=>exact(qz3 qfu (G.gl hg) (G.no rfl) qwr hA (by decide) (by decide) (U _ _) W).imp λσ H Q h=>qqm h
  |min=>exact(qz3 (qfo G.calm) (G.gl hg) (G.no rfl) qf7 hA (by decide) (by decide) (U _ _) W).imp λσ H Q h=>qqm h
  |max=>exact(qz3 (qfr G.calm) (G.gl hg) (G.no rfl) qf8 hA (by decide) (by decide) (U _ _) W).imp λσ H Q h=>qqm h
  |tuple=>exact(qjo qym (G.gl hg) (G.no rfl) qkk hA (by decide) (by decide) (U _ _) W).imp λσ H Q h=>qqm h
  |list=>exact(qjo (qb8 G.room.hd) (G.gl hg) (G.no rfl) qk0 hA (by decide) (by decide) (U _ _) W).imp λσ H Q h=>qqm h
  |any=>exact(qz3 (qf2 G.calm) (G.gl hg) (G.no rfl) qgz hA (by decide) (by decide) (U _ _) W).imp λσ H Q h=>qqm h
  |all=>exact(qz3 (qf3 G.calm) (G.gl hg) (G.no rfl) qgq hA (by decide) (by decide) (U _ _) W).imp λσ H Q h=>qqm h
  |sorted=>exact(qz3 (qwo G.room.hd) (G.gl hg) (G.no rfl) qwp hA (by decide) (by decide) (U _ _) W).imp λσ H Q h=>qqm h
 |@isi1 t a S p0 p1 pos hg W c1 I=>
  refine(qz3 (qf1 t W) (G.gl hg) (G.no rfl) qws (qqn ?O (qqn (ty_ok G W c1) pa_nil rfl) (I.star _ _)) (by decide) (by decide) (I.star _ _) rfl).imp λσ H Q h=>?_;refine h.el λm st τ d st' K S0 e g=>qzj e λd1 s1 T e=>qzg e λnm e2 e3=>?_;cases e3;refine rsI K S0 T λx m1 H1 b1 P R ix=>⟨m1,s1,d1,nm,x,rfl,R,ix,e2,g _ m1 H1 b1 P R ?_⟩
  have:([t].any λt=>M.tyIs t nm)=M.tyIs t nm:=by simp
  rw[this];exact mkBl _
 |@isiN ts a S p0 ps k p1 pos a6 hg W I=>
  obtain⟨h1,h2⟩:=qip G W;refine(qz3 (qf0 ts h2) (G.gl hg) (G.no rfl) qws (qqn ?O (qqn (qlz h1) pa_nil rfl) (I.star _ _)) (by decide) (by decide) (I.star _ _) rfl).imp λσ H Q h=>?_;refine h.el λm st τ d st' K S0 e g=>qzj e λd1 s1 T e=>qzg e λnm e2 e3=>?_;cases e3;refine rsI K S0 T λx m1 H1 b1 P R ix=>qct _ σ H1 _ ⟨?_,λpp U=>?_⟩
  ·rw[Qqz];exact Qjo (qdx a6)
  ·have sm:=qzb (o:=.tup (ts.map λt=>V.ty t.name)) U;exact⟨m1,s1,d1,nm,x,pp,rfl,qzw,R.same sm,qzk (Sub.refl _) (Tr.of_same sm) _ _ ix,e2,g _ m1 _ b1 (P.trans (Tr.of_same sm)) (R.same sm) (mkBl _)⟩
 |@meth a k es S p ps apos cpos I hs hn hl=>
  have U:Star p:=by cases hs with|cons h _=>exact h.star
  have W:(backTo cpos (starEach ps X.env)).any (·.1)=false:=by cases hs with|cons _ t=>exact qq2 t cpos X.env
  have few:((backTo cpos (starEach (p::ps) X.env)).all (λx=>!x.1)&&(backToKw cpos (keywordEach [] X.env)).all (λx=>x.1.isSome)&&decide ((p::ps).length+([]:L Zp).length+(if ([]:L Zp).isEmpty then 0 else 1)<30))=true:=by
   rw[List.all_eq_not_any_not];simp only[Bool.not_not,qq2 hs cpos X.env];exact Z3 hn
  have hb:=λx=>qjl I.sh x X.env (Qa S X.env)
  cases k with
  |append=>exact(qdp PySem.F.plainAttrs_list PySem.F.slot_list_append PySem.F.type_list_append qbp (A.e c X G a _ I) (qzp A G hs) (hb _) few hl (U _ _) W).imp λ_ _ _ h=>qjf h
  |extend=>exact(qdp PySem.F.plainAttrs_list PySem.F.slot_list_extend PySem.F.type_list_extend qbo (A.e c X G a _ I) (qzp A G hs) (hb _) few hl (U _ _) W).imp λ_ _ _ h=>qjf h
  |index=>exact(qdp PySem.F.plainAttrs_list PySem.F.slot_list_index PySem.F.type_list_index (qd8 hu) (A.e c X G a _ I) (qzp A G hs) (hb _) few hl (U _ _) W).imp λ_ _ _ h=>qjf h
  |insert=>exact(qdp PySem.F.plainAttrs_list PySem.F.slot_list_insert PySem.F.type_list_insert qbn (A.e c X G a _ I) (qzp A G hs) (hb _) few hl (U _ _) W).imp λ_ _ _ h=>qjf h
  |pop=>exact(qdp PySem.F.plainAttrs_list PySem.F.slot_list_pop PySem.F.type_list_pop qn6 (A.e c X G a _ I) (qzp A G hs) (hb _) few hl (U _ _) W).imp λ_ _ _ h=>qjf h
 |@dic0 pos=>
  refine pe_dnewK.imp λσ H Q h=>h.el λm st τ d st' K S0 e g=>?_;have e0:M.wdicAt (st++[Ya.dic O []]) st.length=Y []:=by simp[M.wdicAt]
  have e:(match M.wdicAt (st++[Ya.dic O []]) st.length with
   |some []=>(M.pairUp []).bind λkvs=>if kvs.length<=15 then Y (D.loc st.length,(st++[Ya.dic O []]).set st.length (Ya.dic O (M.dall kvs))) else B
   |_=>B)=Y (d,st'):=e
  rw[e0]at e;have e2:(st++[Ya.dic O []]).set st.length (.dic O [])=st++[.dic O []]:=by simp
  have e:Y (D.loc st.length,(st++[Ya.dic O []]).set st.length (.dic O []))=Y (d,st'):=e;rw[e2]at e;have g:=g.of e;intro pp U;exact g _ (m++[pp]) _ (Sub.app _ _) (Tr.of_same (qzb U)) (K.newD U rfl) K.newLoc
 |@dic es k v ks vs pos hP c7=>
  obtain⟨h1,h2,h3⟩:=qv3 A G hP;refine(qnf h1 h2 h3 (by simp) c7).imp λσ H Q h=>?_;refine h.el λm st τ d st' K S0 e g=>?_;have e:=e;refine qzx e λp T e=>?_
  split at e
  ·rename_i a9;refine qzx e λkvs e2 e=>?_
   split at e
   ·rename_i hl;have g:=g.of e;intro pp U;have sm:=qzb (o:=.dK []) U;refine qv2 hP (K.newD (kvs:=[]) U rfl) (S0.mono (Sub.app _ _) (Tr.of_same sm)) T λxs m1 H1 b1 P R ix=>?_;obtain⟨ys,a8,b7⟩:=qax ix e2;have a1:=qzk b1 (Tr.refl H1) _ _ (K.newLoc);obtain⟨a',d4,c5,ea,hH,a7,hst⟩:=R.wdict a9 a1;cases ea;have b6:=a7;subst b6;have l1:=a8.length;refine⟨hH,ys,b7,by lia,?_⟩;exact g _ m1 _ ((Sub.app _ _).trans b1) ((Tr.of_same sm).trans (P.trans (Tr.putD hH))) (R.putD hst c5 hH (a8.merge (rfl))) (qzk (Sub.refl _) (Tr.putD hH) _ _ a1)
   ·exact nn e
  ·exact nn e
 |@didx a b S pb pos I hb=>exact qhg (by lia) ?O ?ql (qms hb.sh)
 |@din neg a b S pb pos I hb=>exact qlx (qdt (by lia) neg ?O ?ql) (qbe hb.sh _)
 |@gidx x ks ds b pb p0 pos hg hm hd hb=>
  obtain⟨ad,h1,h2⟩:=G.mo.gds x ks ds hm;exact qhd (G.gl hg) h1 h2 hd ?ql (qms hb.sh)
 |@gin neg x ks ds b pb p0 pos hg hm hd hb=>
  obtain⟨ad,h1,h2⟩:=G.mo.gds x ks ds hm;exact qlx (qdr neg (G.gl hg) h1 h2 hd ?ql) (by cases neg<;>rfl)
 |@sli a lo hi S pl ph p2 pos I hl hh=>
  refine(qha sl_D ?O (po_ok A G hl) (po_ok A G hh)).imp λσ H Q h=>h.el λm st τ d st' K S0 e g=>?_;have e:=e;exact qzj e λd1 s1 T e=>qzx e λl e2 e=>qzx e λu e3 e=>rsI K S0 T λx m1 H1 b1 P R i1=>rsI R (S0.mono b1 P) e2 λm2 H2 b2 t2 R2=>rsI R2 (S0.mono (b1.trans b2) (P.trans t2)) e3 λm3 H3 b3 t3 R3=>
   ⟨m3,u.2,d1,d,st',R3,qzk (b2.trans b3) (t2.trans t3) _ _ i1,e,g.mono ?qf (P.trans (t2.trans t3))⟩
 |@comp t it q elt sr tg c9 pq a3 b0 pos N ok hi W hq he=>
  have GI:=λ{C fp s H}=>G.inner (C:=C) (fp:=fp) (s:=s) (H:=H) ok.kind ok.nd;exact(qni G.calm (qks G ok) (qya A G hi) (λC fp s H=>qql GI W λi c0 x hx=>.inr (qcn ok.tl i c0 x hx)) (λC fp s H=>qis A GI hq) (λC fp s H=>A.e _ _ GI elt a3 he) (ok.fs X.env)).imp λσ H Q h=>qcp h
 |@dpop a b S pb apos cpos I hb hl=>
  exact qhe ?O ?ql ⟨qjl I.sh _ _ _,by rw[hb.star]; rfl,hl,by rw[hb.star]; rfl⟩
 |@dgt a b S pb apos cpos I hb hl=>
  exact qng (by lia) ?O ?ql ⟨qjl I.sh _ _ _,by rw[hb.star]; rfl,hl,by rw[hb.star]; rfl⟩
 |@attr C a f S pos I hc=>
  obtain⟨h1,h2⟩:=G.mo.ats C f hc;refine(pe_fld ?O (qjl I.sh _ _ _)).imp λσ H Q h=>h.el λm st τ d st' K S0 e g=>qzj e λd1 s1 T e=>qzx e λfs e2 e=>qzg e λd2 e3 e4=>?_;cases e4;refine rsI K S0 T λx m1 H1 b1 P R ix=>?_;obtain⟨l,p,dx,ys,rfl,_,rfl,hH,a2,_⟩:=R.inst e2 ix;rcases a2.get f with⟨z,_⟩|⟨d',v,z1,z2,iv⟩
  ·rw[z]at e3; cases e3
  ·rw[z1]at e3;cases e3;exact⟨p,C,dx,ys,v,rfl,hH,h1,h2,z2,g _ m1 H1 b1 P R iv⟩
 |@mcall C f m' x cn a es S ps apos pos I hf hm hc hs hn b9=>
  obtain⟨fa,fd,a0,hl,F,hk,hb⟩:=G'.tab f x hf;obtain⟨_,hC,_,_⟩:=G.mo.cls cn C hc;have hM:=hl.2 C m' hm;obtain⟨pl,W⟩:=sh_mt I.sh hs.sh hn b9 X.env;have a4:∀σ H Q,tD X.K (λτ st=>M.stepEv ?z τ st (.mcall C f m' a es)) σ H Q->qmd C m' (spN X.K fns dl f) [] E0 (tD X.K λτ st=>(?z).ev τ st a) (tL X.K λτ st=>M.evs ((?z).ev τ) es st) σ H Q:=by
   intro σ H Q h;refine h.el λm st τ d st' K S0 e g=>qzj e λd1 s1 T e=>qzx e λfs e2 e=>rsI K S0 T λv m1 H1 b1 P R ix=>?_;obtain⟨l,p,dx,ys,rfl,_,rfl,hH,a2,_⟩:=R.inst e2 ix
   split at e
   ·exact nn e
   ·rename_i a5;refine qzx e λq e3 e=>?_;rcases a2.get m' with⟨_,z⟩|⟨d',v,z1,_,_⟩
    ·refine⟨p,dx,ys,rfl,hH,z,rsI R (S0.mono b1 P) e3 λxs m2 H2 b2 t2 R2 i2=>?_⟩;have e:=e;rw[M.runK_call]at e;show spN X.K fns dl f (.ref p::(xs++[])) H2 Q E0;rw[Qzx];exact⟨m2,q.2,_,d,st',R2,qzo (qzk b2 t2 _ _ ix) i2,e,g.mono (b1.trans b2) (P.trans t2)⟩
    ·rw[z1]at a5;exact absurd rfl a5
  have hr:Room (2*dl) X.A:=G.room.mono (by lia)
  cases hs with
  |nil=>
   refine(qhb ?O hC hM F hr hb .nil qhl W).imp λσ H Q h=>?_
   ·obtain⟨m,st,τ,d1,s1,K,S0,T,k⟩:=a4 σ H Q h;refine rsI K S0 T λv m1 H1 b1 P R ix=>?_;obtain⟨p,dx,ys,rfl,hH,z,m2,s2,d0,ds,s3,R2,S2,e2,k2⟩:=k v m1 H1 b1 P R ix;cases e2;exact⟨p,dx,ys,rfl,hH,z,k2 [] m2 H1 (Sub.refl _) (Tr.refl _) R2 qqk⟩
  |cons h1 h2=>exact(qnc ?O hC hM F hr hb .nil qhl (qzp A G (.cons h1 h2)) (h1.star _ _) (qq2 h2 pos X.env) W).imp a4
 |@new C f x cn es p ps p0 pos hg hf hm hc hd hs=>
  obtain⟨fa,fd,a0,hl,F,hk,hb⟩:=G'.tab f x hf;obtain⟨h1,_,h3,h4⟩:=G.mo.cls cn C hc;have hM:=hl.2 C _ hm;have U:Star p:=by cases hs with|cons h _=>exact h.star
  have W:(backTo pos (starEach ps X.env)).any (·.1)=false:=by cases hs with|cons _ t=>exact qq2 t pos X.env
  refine(qnd ⟨h3,hM.at_,hM.fn,h4⟩ F G.room (G.gl hg) h1 hb .nil qhl (qzp A G hs) hd (U _ _) W).imp λσ H Q h=>h.el λm st τ d st' K S0 e g=>qzx e λq T e=>qzx e λw e2 e=>rsI K S0 T λxs m1 H1 b1 P R ix x dx hx c2 b8=>?_;have e2:=e2;rw[M.runK_call]at e2;obtain⟨sm,R2⟩:=R.newI hx c2 b8;have lc:=R.newLoc (p:=x) (H':=upd (upd H1 dx (.own x)) x (.ins C dx []))
  split at e
  ·rename_i hn;have g:=g.of e;rw[Qzx];refine⟨m1++[x],_,_,w.1,w.2,R2,qzo lc (qzd (Sub.app m1 [x]) (Tr.of_same sm) _ _ ix),e2,λv m2 H2 b2 t2 R3 iv=>?_⟩;have hw:w.1=.non:=by
    cases hq:w.1 with
    |non=>rfl
    |_=>rw[hq]at hn; cases hn
   rw[hw]at iv;exact⟨iv.non,g _ m2 H2 (b1.trans ((Sub.app m1 [x]).trans b2)) (P.trans ((Tr.of_same sm).trans t2)) R3 (qzk b2 t2 _ _ lc)⟩
  ·exact nn e
end
section
variable {fns:L Fn}{dl n j:Y0}{c:Ctx}{X:Cx}
def tt_val{K:Qqq}(hr:∀τ st,M.stepTst r τ st e=(?qj).bind λp=>(M.truth p.2 p.1).map λk=>(k,p.2))(h:tTs K (λτ st=>M.stepTst r τ st e) b H Q):(tD K λτ st=>r.ev τ st e) b H λx H'=>∃k,TruV K x H' k/\Q k H':=by
 refine h.el λm st τ d st' s S0 a q=>?_;have a:=(hr τ st).symm.trans a;refine qzj a λu t o a=>qzg a λk l i=>?_;cases i;exact rsI s S0 o λx m1 H1 b1 g f i1=>⟨_,qmj f i1 l,q m1 H1 b1 g f⟩
def tt_bl{K:Qqq}(hr:∀τ st,M.stepTst r τ st e=(f τ st).bind λp=>(M.truth p.2 p.1).map λk=>(k,p.2))(hf:∀τ st d st',f τ st=Y (d,st')->∃k,d=.bl k)(h:tTs K (λτ st=>M.stepTst r τ st e) b H Q):tB (tD K f) b H Q:=by
 refine h.el λm st τ d st' o S0 a q=>?_;have a:=(hr τ st).symm.trans a;refine qzj a λt s g a=>?_;obtain⟨k,rfl⟩:=hf _ _ _ _ g;have q:=q.of a;exact rsI o S0 g λx m1 H1 b1 i l i1=>⟨_,i1.bl,q m1 H1 b1 i l⟩
def din_bl{st:Y2}(h:M.dinR r τ st neg a b=Y (d,st')):∃k,d=.bl k:=by
 unfold M.dinR at h;refine qzj h λp g o h=>qzj h λe f m h=>?_
 cases e with
 |loc l=>
  refine qzx h λkvs i h=>?_
  split at h
  ·cases h; exact⟨_,rfl⟩
  ·exact nn h
 |_=>exact nn h
def gin_bl{st:Y2}(h:M.ginR r τ st neg ks b=Y (d,st')):∃k,d=.bl k:=by
 unfold M.ginR at h;refine qzj h λa e f h=>?_
 cases a with
 |str z=>cases h; exact⟨_,rfl⟩
 |_=>exact nn h
def tt_and{K:Qqq}(h:tTs K (λτ st=>M.stepTst r τ st (.and a b)) g H Q):tAnd (tTs K λτ st=>r.tst τ st a) (tTs K λτ st=>r.tst τ st b) g H Q:=by
 refine h.el λm st τ d st' t S0 e q=>?_;have e:=e;refine qzx e λp s e=>rsI t S0 s λm1 H1 b1 f k=>?_
 cases i:p.1 with
 |true=>
  rw[i,Z6 rfl]at e;rw[Z6 rfl];exact rsI k (S0.mono b1 f) e λo H2 b2 l R2=>q o H2 (b1.trans b2) (f.trans l) R2
 |false=>
  rw[i,Z5 Qq8]at e;have q:=q.of e;rw[Z5 Qq8];exact q m1 H1 b1 f k
def tt_or{K:Qqq}(h:tTs K (λτ st=>M.stepTst r τ st (.or a b)) g H Q):tOr (tTs K λτ st=>r.tst τ st a) (tTs K λτ st=>r.tst τ st b) g H Q:=by
 refine h.el λm st τ d st' t S0 e q=>?_;have e:=e;refine qzx e λp s e=>rsI t S0 s λm1 H1 b1 f k=>?_
 cases i:p.1 with
 |false=>
  rw[i,Z5 Qq8]at e;rw[Z5 Qq8];exact rsI k (S0.mono b1 f) e λo H2 b2 l R2=>q o H2 (b1.trans b2) (f.trans l) R2
 |true=>
  rw[i,Z6 rfl]at e;have q:=q.of e;rw[Z6 rfl];exact q m1 H1 b1 f k
def qvo{K:Qqq}(o:SlotOk K m H τ l)(S1:SlotOk K b k (τ.set i (Y g)) σ')(s:Sub m b)(t:Tr k h)(hd:∀v,MS.IsD K b k g v->MS.IsD K m h d v):SlotOk K m h (τ.set i (Y d)) σ':=by
 refine⟨by have:=S1.len; rwa [Qz9]at this ⊢,λj e a=>?_⟩
 by_cases hj:i=j
 ·subst hj;have hi:i<τ.length:=by
   have:=(Qqk.mp a).1;rwa [Qz9]at this
  rw[Qzv hi]at a;cases a;obtain⟨v,f,q⟩:=S1.at_ i g (Qzv hi);exact⟨v,f,hd v q⟩
 ·rw[Qq0 hj]at a;obtain⟨p,_,q0⟩:=o.at_ j e a;obtain⟨v,f,q⟩:=S1.at_ j e (by rw[Qq0 hj]; exact a);exact⟨v,f,qzk ?M t _ _ (qjw s _ _ _ q0 q)⟩
def qhx{f:Sl->Y2->Y3 (D×Y2)}(h:PS X p (tS X.K λτ st=>(f τ st).bind λq=>(M.setT (.var i) q.1 τ).map λτ'=>(Out.nx τ',q.2))):
  PS X p (tS X.K λτ st=>((f τ st).map λq=>M.gcD st q).bind λq=>(M.setT (.var i) q.1 τ).map λτ'=>(Out.nx τ',q.2)):=by
 intro pins s σ H Dn I q;refine q.el λm st τ o st' N S0 e k=>qzj e λd T e1 e=>?_;obtain⟨⟨E,r⟩,e2,e3⟩:=mapD e1;refine qzg e λτ' A e5=>?_;cases e5;have A:(if i<τ.length then Y (τ.set i (Y d)) else B)=Y τ':=A
 split at A
 case isFalse=>exact nn A
 case isTrue hi=>
  cases A;refine thn (h pins s σ H ⟨λg H1=>∃m1,Sub m m1/\Tr H H1/\Rel X.K m1 r H1/\SlotOk X.K m1 H1 (τ.set i (Y E)) g,λ_ _=>False,λ_ _=>False,λ_ _=>False⟩ I (rsI (d:=.nx (τ.set i (Y E))) (st':=r) N S0 (by show(f τ st).bind _=_; rw[e2]; show Option.map _ (if i<τ.length then Y (τ.set i (Y E)) else B)=_; rw[Z6 hi]; rfl) λm1 H1 b t R g S1=>⟨m1,b,t,R,S1⟩)) λW s2 hf=>?_
  cases W with
  |next=>
   obtain⟨g,H1,P,m1,b1,F,x,S1⟩:=hf;have plain:(E,r)=(d,T)->SP X pins Dn .next s2:=λz=>by
    cases z;exact⟨g,H1,P,k m1 H1 b1 F x g S1⟩
   rcases gc_el e3 with z|⟨ok,z⟩
   ·exact plain z
   ·unfold M.gcX at z
    split at z
    ·rename_i hn;cases z;exact⟨g,H1,P,k m H1 ?M F (N.cut x b1 ok (Tr.refl H1) λ_ _ _ _ _ _=>rfl) g (qvo S0 S1 b1 (Tr.refl H1) λv q=>qel _ _ hn q)⟩
    ·split at z
     ·rename_i l hd;simp only at hd
      split at z
      ·rename_i hl
       split at z
       ·rename_i ds hc
        split at z
        ·rename_i hn;cases z;subst hd;obtain⟨a,G⟩:=x.addr hc;obtain⟨xs,S,U⟩:=x.cell l _ a hc G;obtain⟨o,I2⟩:=qkp P S;have C:=Tr.lay (o:=o) S;refine⟨g,_,I2,k m _ ?M (F.trans C) (N.cut x b1 ok C λQ c K e ea w=>?_) g (qvo S0 S1 b1 C λv q=>?_)⟩
         ·refine qzq λz=>?_;subst z;have V:=qje e;have:=x.nd Q l K c _ (b1 Q K ea) G V.2 hc w rfl;omega
         ·obtain⟨K,y,rfl⟩:=q.loc;rw[G]at y;cases y;exact qbr (.inl ⟨o,qzw⟩) (qj5 _ _ hn (qzd (Sub.refl m1) C _ _ U))
        ·exact plain z
       ·exact plain z
      ·exact plain z
     ·exact plain z
  |brk=>obtain⟨_,_,_,z⟩:=hf; exact z.elim
  |cont=>obtain⟨_,_,_,z⟩:=hf; exact z.elim
  |ret u=>obtain⟨_,_,_,_,_,z⟩:=hf; exact z.elim
def w_ok(A:AllOk fns dl n)(G:Good fns dl c X)(h:CkN j c e (.BoolOp i ps pos)):PW X (.BoolOp i ps pos) (tTs X.K λτ st=>M.stepTst ?z τ st e):=by
 cases j with
 |zero=>cases h
 |succ j=>
 cases h with
 |gc _ _ l=>cases l
 |of hs k h=>
 clear hs k
 cases h with
 |@and a b f d r pos g hb=>
  refine(pw_and (A.t c X G a f g) ?_).imp λσ H Q h=>tt_and h
  cases r with
  |nil=>exact qm8 (A.t c X G b d hb)
  |cons=>exact A.w c X G b _ _ _ hb
 |@or a b f d r pos g hb=>
  refine(pw_or (A.t c X G a f g) ?_).imp λσ H Q h=>tt_or h
  cases r with
  |nil=>exact pw_or1 (A.t c X G b d hb)
  |cons=>exact A.w c X G b _ _ _ hb
def qx0(d:PE X p (tD X.K λτ st=>r.ev τ st e))(a:∀w,isTrue p X.env w=(do let v <- w; standAt p.pos; holding [v] (truthy v)))(b:∀τ st,M.stepTst r τ st e=(?qj).bind λp=>(M.truth p.2 p.1).map λk=>(k,p.2)):PT X p (tTs X.K λτ st=>M.stepTst r τ st e):=(qhz d a).imp λ_ _ _ h=>tt_val b h
def t_ok(A:AllOk fns dl n)(G':Good fns dl c X)(h:CkN j c e p):PT X p (tTs X.K λτ st=>M.stepTst ?z τ st e):=by
 have G:=G';have W:=G'.room.units;have hA:=A.e c X G e p h
 cases j with
 |zero=>cases h
 |succ j=>
 revert hA
 cases h with
 |gc hs hq hp hg f=>
  intro hA
  cases p with
  |Call=>exact qx0 hA (λ_=>rfl) λ_ _=>rfl
  |ListComp=>exact qx0 hA (λ_=>rfl) λ_ _=>rfl
  |List=>exact qx0 hA (λ_=>rfl) λ_ _=>rfl
  |BinOp=>exact qx0 hA (λ_=>rfl) λ_ _=>rfl
  |Subscript=>exact qx0 hA (λ_=>rfl) λ_ _=>rfl
  |_=>cases hp
 |of hs hq h=>
 clear hs hq
 cases h with
 |nm h=>
  cases h with
  |var=>exact λhA=>qx0 hA (λ_=>rfl) λ_ _=>rfl
  |glo=>exact λhA=>qx0 hA (λ_=>rfl) λ_ _=>rfl
 |@not a t pos f=>
  intro _;refine(pt_not (A.t c X G a t f)).imp λσ H Q h=>h.el λm st τ d st' P S0 w q=>qzg w λp K F=>?_;cases F;exact rsI P S0 K λm1 H1 b1 i N=>q m1 H1 b1 i N
 |and f hb=>exact λ_=>(w_ok A G (j:=j+1) (.of rfl rfl (.and f hb))).pt
 |or f hb=>exact λ_=>(w_ok A G (j:=j+1) (.of rfl rfl (.or f hb))).pt
 |@cmp v a b t r pos f hb=>
  intro _;refine(qm9 (qxl W v) (A.e c X G a t f) (A.e c X G b r hb) (qbe hb.sh _)).imp λσ H Q h=>h.el λm st τ d st' P S0 w q=>qzj w λC s1 K w=>qzj w λg l F w=>qzg w λk e3 e4=>?_;cases e4;exact rsI P S0 K λx m1 H1 b1 i N i1=>rsI N (S0.mono b1 i) F λy U H2 b2 o R2 i2=>
   ⟨U,l,C,g,.bl d,l,R2,qzk b2 o _ _ i1,i2,by show Option.map _ (M.cmpD l v C g)=_; rw[show M.cmpD l v C g=Y d from e3]; rfl,λz T H3 b3 D S V=>⟨d,V.bl,q T H3 ?qf (i.trans (o.trans D)) S⟩⟩
 |@cmp2 v u a b d t r pd pos f hb hd=>
  intro _;refine(qhq (qxl W v) (qxl W u) (A.e c X G a t f) (A.e c X G b r hb) (A.e c X G d pd hd) (qbe hd.sh _)).imp λσ H Q h=>h.el λm st τ dd st' P S0 e q=>qzj e λC s1 K e=>qzj e λg l F e=>qzx e λk e3 e=>rsI P S0 K λx m1 H1 b1 i N i1=>rsI N (S0.mono b1 i) F λy U H2 b2 o R2 i2=>
   ⟨U,l,C,g,.bl k,l,R2,qzk b2 o _ _ i1,i2,by show Option.map _ (M.cmpD l v C g)=_; rw[show M.cmpD l v C g=Y k from e3]; rfl,λz T H3 b3 D S V=>⟨k,V.bl,?_⟩⟩
  cases k with
  |true=>
   rw[Z6 rfl]at e ⊢;refine qzj e λd3 R e4 e=>qzg e λk' e5 e6=>?_;cases e6;exact rsI S (S0.mono ?qf (i.trans (o.trans D))) e4 λy' m4 H4 b4 t4 R4 i4=>
    ⟨m4,R,g,d3,.bl dd,R,R4,qzk (b3.trans b4) (D.trans t4) _ _ i2,i4,by show Option.map _ (M.cmpD R u g d3)=_; rw[show M.cmpD R u g d3=Y dd from e5]; rfl,
     λz m5 H5 b5 t5 R5 i5=>⟨dd,i5.bl,q m5 H5 (b1.trans (b2.trans (b3.trans (b4.trans b5)))) (i.trans (o.trans (D.trans (t4.trans t5)))) R5⟩⟩
  |false=>
   rw[Z5 Qq8]at e ⊢;have q:=q.of e;exact⟨Y6,rfl,q T H3 ?qf (i.trans (o.trans D)) S⟩
 |ite hq f hb=>exact λ_=>λpins s σ H Q I q=>by obtain⟨m,st,τ,d,st',_,_,z,_⟩:=q; cases z
 |@din neg a b t r pos f hb=>exact λ_=>(qi7 (qdt (by omega) neg (A.e c X G a t f) (A.e c X G b r hb)) (qbe hb.sh _)).imp λσ H Q h=>tt_bl (λ_ _=>rfl) (λ_ _ _ _ z=>din_bl z) h
 |@gin neg x ks ds b r p0 pos hg hm hd hb=>
  intro _;obtain⟨ad,h1,h2⟩:=G.mo.gds x ks ds hm;exact(qi7 (qdr neg (G.gl hg) h1 h2 hd (A.e c X G b r hb)) (by cases neg<;>rfl)).imp λσ H Q h=>tt_bl (λ_ _=>rfl) (λ_ _ _ _ z=>gin_bl z) h
 |_=>exact λhA=>qx0 hA (λ_=>rfl) λ_ _=>rfl
def S_nx{K:Qqq}(p:PostO K m H (.nx τ) st' e)(b:Sub m a)(t:Tr H H')(g:Rel K a st' H')(f:SlotOk K a H' τ d):e.nx d H':=p a H' b t g d f
def qdj{K:Qqq}(d:∀Q,(tD K λτ st=>r.ev τ st e) b H Q->g b H Q)(h:tS K (λτ st=>M.stepEx r τ st (.set (.var i) e)) l b H):tAsg g (qye i) l b H:=by
 refine h.el λm st τ o st' v S0 f q=>qzj f λt w s f=>qzg f λτ' a p=>?_;cases p;have a:(if i<τ.length then Y (τ.set i (Y t)) else B)=Y τ':=a
 split at a
 ·cases a;exact d _ (rsI v S0 s λx m1 H1 b1 k u i1=>S_nx q b1 k u ((S0.mono b1 k).put i1))
 ·exact nn a
def qdk(P:∀j,j<=n->AllOk fns dl j)(G:Good fns dl c X)(hf:∀x,X.fn x=O)(y:c.N[i]?=Y x)(hl:c.sc.names.lookup x=Y .local\/c.sc.names.lookup x=Y .cell)(f:CkE c e p)(T:∀a,e≠.gc a)(hc:∃elt K sc q,p=.ListComp elt K sc q)(hs:∀env:Env,env.scope=c.sc->(swapsWith p (Y (.Name x b)) pos.line env=pure Y6\/swapsWith p (Y (.Name x b)) pos.line env=pure O)):
  PS X (.Assign [.Name x b] p pos) (tS X.K λτ st=>M.stepEx ?z τ st (.set (.var i) e)):=by
 have A:=P n (Qqv n);have F:X.N.Nodup:=by rw[G.N]; exact G.nd
 have loc:∀{x:Y5},(c.sc.names.lookup x=Y .local\/c.sc.names.lookup x=Y .cell)->Loc X.env.scope x:=λ{x} h=>by rw[G.sc]; exact h
 rcases hs X.env G.sc with z|z
 ·exact(qi8 F (qjc G y) (loc hl) (A.e c X G e p f) z (.inl (hf x))).imp λD σ H h=>qdj (λ_ q=>q) h
 ·cases n with
  |zero=>exact λpins s σ H V I q=>by obtain⟨m,st,τ,d,st',_,_,w,_⟩:=q; cases w
  |succ n=>
   have A1:=P n (Qxh n);obtain⟨elt,K,sc,q,rfl⟩:=hc
   cases f with
   |gc=>exact(T _ rfl).elim
   |of hs l f=>
   clear hs l
   cases f with
   |@comp t it q g sr tg v U u k cpos N ok hit S l f=>
    have r:=λ{C fp s H}=>G.inner (C:=C) (fp:=fp) (s:=s) (H:=H) ok.kind ok.nd;exact(qbi G.calm (qks G ok) (qya A1 G hit) (λC fp s H=>qql r S λi o x R=>.inr (qcn ok.tl i o x R)) (λC fp s H=>qis A1 r l) (λC fp s H=>A1.e _ _ r g _ f) (ok.fs X.env) F (qjc G y) (loc hl) (.inl (hf x)) z).imp λD σ H h=>qdj (λQ q=>qcp q) h
def s1_ok(IH:∀j,j<=n->AllOk fns dl j)(G:Good fns dl c X)(hf:∀x,X.fn x=O)(h:CkS c s p):PS X p (tS X.K λτ st=>M.stepEx ?z τ st s):=by
 have A:=IH n (Qqv n);have hN:X.N.Nodup:=by rw[G.N]; exact G.nd
 have loc:∀{x:Y5},(c.sc.names.lookup x=Y .local\/c.sc.names.lookup x=Y .cell)->Loc X.env.scope x:=λ{x} h=>by rw[G.sc]; exact h
 cases h with
 |@set i e x p pos pos' hi hl P hs=>exact(qi8 hN (qjc G hi) (loc hl) (A.e c X G e p P) (hs X.env) (.inl (hf x))).imp λD σ H h=>qdj (λ_ q=>q) h
 |@setC i e x p pos pos' hi hl P hc hs=>
  by_cases a6:∃a,e=.gc a
  ·obtain⟨a,rfl⟩:=a6
   cases P with
   |of _ _ P=>
    cases P with
    |nm h=>cases h
   |gc ws wq hp hg ha=>
    cases n with
    |zero=>exact λpins s σ H Dn I q=>by obtain⟨m,st,τ,d,st',_,_,w,_⟩:=q; cases w
    |succ n=>exact(qhx (qdk (λj hj=>IH j (Nat.le_succ_of_le hj)) G hf hi hl (.of ws wq ha) hg hc hs)).imp λ_ _ _ q=>q
  ·exact qdk IH G hf hi hl P (λa z=>a6 ⟨a,z⟩) hc hs
 |@dset a i e pa pi pe tpos pos ha hi P=>
  refine(qnx (by have:=G.room.units; omega) (A.e c X G a pa ha) (A.e c X G i pi hi) (A.e c X G e pe P) (sh_sw P.sh _ _)).imp λDn σ H h=>?_;refine h.el λm st τ o st' W S0 g q=>qzj g λd1 s1 V g=>qzj g λd2 s2 e2 g=>qzj g λd3 s3 e3 g=>?_
  cases d2 with
  |loc l=>
   have g:=g;refine qzx g λkvs F g=>?_
   split at g
   ·rename_i hk;have q:=q.of g;rw[Qq2,decide_eq_true_eq]at hk;obtain⟨k,a5⟩:=qqo hk.1;refine rsI W S0 V λx m1 H1 b1 E Q i1=>rsI Q (S0.mono b1 E) e2 λy m2 H2 b2 u R2 i2=>rsI R2 (S0.mono (b1.trans b2) (E.trans u)) e3 λz m3 H3 b3 t3 R3 i3=>?_;obtain⟨a',xs,a3,rfl,U,a2,hst⟩:=R3.wdict F (qzk b3 t3 _ _ i2);have hz:=qh2 a5 i3;subst hz;have l1:=a2.length;have l2:=qqy;refine⟨a',_,rfl,DPut.k U (by omega),?_⟩;have iv:=qzk (b2.trans b3) (u.trans t3) _ _ i1;exact S_nx q ?qf (E.trans (u.trans (t3.trans (Tr.putD U)))) (R3.putD hst a3 U (a2.put a5 iv)) (S0.mono ?qf (E.trans (u.trans (t3.trans (Tr.putD U)))))
   ·exact nn g
  |_=>exact nn g
 |@expr e p pos P hs=>
  refine(qnq (A.e c X G e p P) (hs X.env)).imp λDn σ H h=>h.el λm st τ o st' W S0 g q=>qzg g λp V e2=>?_;cases e2;exact rsI W S0 V λx m1 H1 b1 E Q i1=>S_nx q b1 E Q (S0.mono b1 E)
 |@ret e p pos P=>
  refine(ps_ret (A.e c X G e p P)).imp λDn σ H h=>h.el λm st τ o st' W S0 g q=>qzg g λp V e2=>?_;cases e2;exact rsI W S0 V λx m1 H1 b1 E Q i1=>q m1 H1 b1 E Q x i1
 |@ite q a b pq pa pb pos hq ha hb=>
  refine(ps_if (A.t c X G q pq hq) (A.s c X G hf a pa ha) (A.s c X G hf b pb hb)).imp λDn σ H h=>h.el λm st τ o st' W S0 g r=>qzx g λp V g=>rsI W S0 V λm1 H1 b1 E Q=>?_
  cases hp:p.1 with
  |true=>
   rw[hp,Z6 rfl]at g;rw[Z6 rfl];exact rsI Q (S0.mono b1 E) g (r.mono b1 E)
  |false=>
   rw[hp,Z5 Qq8]at g;rw[Z5 Qq8];exact rsI Q (S0.mono b1 E) g (r.mono b1 E)
 |@forr t it body tg b5 pb pos ht hi hs hb=>
   refine(qi9 (by rw[G.xe]; exact PassesOwn.never) G.calm (qya A G hi) (qql G ht λi _ x _=>.inl (hf x)) (A.s c X G hf body pb hb) (hs X.env)).imp λDn σ H h=>?_
   refine h.el λm st τ o st' W S0 g r=>qzx g λp V g=>rsI W S0 V λm1 H1 Jq b1 E Q hJ=>⟨λj k a0 H'=>∃m2 N K,Sub m1 m2/\Tr H1 H'/\Rel X.K m2 N H'/\SlotOk X.K m2 H' K a0/\M.loop p.1 (λτ st d=>(M.setT t d τ).bind λτ'=>(?z).ex τ' st body) k j K N=Y (o,st'),
    ⟨_,m1,p.2,τ,Sub.refl _,Tr.refl _,Q,S0.mono b1 E,g⟩,?_⟩
   rintro j k a0 H' ⟨m2,N,K,b2,u,R2,S2,F⟩
   cases k with
   |zero=>exact nn F
   |succ k=>
    have F:=F;refine qzx F λoo e5 F=>?_
    cases oo with
    |none=>
     have r:=r.of F;exact .inl ⟨(hJ.mono b2 u).done R2 e5,S_nx r (b1.trans b2) (E.trans u) R2 S2⟩
    |some d=>
     obtain⟨b0,hy⟩:=(hJ.mono b2 u).next R2 e5;refine qzx F λz e6 F=>qzx e6 λR e7 e6=>.inr ⟨b0,λT H3=>∃m3 a1 R,Sub m1 m3/\Tr H1 H3/\Rel X.K m3 a1 H3/\SlotOk X.K m3 H3 R T/\M.loop p.1 (λτ st d=>(M.setT t d τ).bind λτ'=>(?z).ex τ' st body) k (j+1) R a1=Y (o,st'),λT H3 w3=>⟨k,Qzo k,w3⟩,λx H2 a9=>?_⟩;obtain⟨sm,ix⟩:=hy x H2 a9;have u:=u.trans (Tr.of_same sm);have R2:=R2.same sm;have S2:=S2.mono (Sub.refl _) (Tr.of_same sm);refine qiq ix S2 e7 λT S3=>rsI R2 S3 e6 λm3 H3 b3 t3 R3=>?_
     cases hz:z.1 with
     |nx a4=>
      rw[hz]at F;exact λa8 S4=>⟨m3,z.2,a4,b2.trans b3,u.trans t3,R3,S4,F⟩
     |rt v=>
      rw[hz]at F;have r:=r.of F;exact λw iw=>r m3 H3 ?qf (E.trans (u.trans t3)) R3 w iw
 |bad=>exact λpins s σ H Dn I q=>by obtain⟨m,st,τ,d,st',_,_,z,_⟩:=q; cases z
 |@setT is e es k p pos tpos ht P hw=>
  refine(ps_asg (A.e c X G e p P) (qql (t:=.tup is) G (.tup ht) λi _ x _=>.inl (hf x)) (sh_swT (es:=es) (k:=k) (tp:=tpos) P.sh pos.line X.env) (hw X.env) rfl).imp λDn σ H h=>h.el λm st τ o st' W S0 g q=>qzj g λd1 s1 V g=>qzg g λτ' e2 e3=>?_;cases e3;exact rsI W S0 V λx m1 H1 b1 E Q i1=>qiq i1 (S0.mono b1 E) e2 λa0 S1=>S_nx q b1 E Q S1
 |@setA C a f e pa pe tpos pos ha P hc=>
  obtain⟨h1,h2⟩:=G.mo.ats C f hc;refine(ps_fld (A.e c X G a pa ha) (A.e c X G e pe P) (sh_swA P.sh _ _)).imp λDn σ H h=>h.el λm st τ o st' W S0 g q=>qzj g λd1 s1 V g=>qzj g λd2 s2 e2 g=>qzx g λfs e3 g=>rsI W S0 V λx m1 H1 b1 E Q i1=>rsI Q (S0.mono b1 E) e2 λy m2 H2 b2 u R2 i2=>?_;obtain⟨l,p,dx,ys,rfl,hl,rfl,U,a7,hst⟩:=R2.inst e3 i2;dsimp only at g
  split at g
  ·rename_i b6;have q:=q.of g;have l1:=a7.length;exact⟨p,C,dx,ys,rfl,U,h1,h2,by omega,S_nx q (b1.trans b2) (E.trans (u.trans (Tr.putI U))) (R2.putI hst hl U (a7.put (qzk b2 u _ _ i1))) (S0.mono (b1.trans b2) (E.trans (u.trans (Tr.putI U))))⟩
  ·exact nn g
 |@ford t a body tg pa pb pos ht ha hb=>
  refine(qnz (by rw[G.xe]; exact PassesOwn.never) G.calm (A.e c X G a pa ha) (qql G ht λi _ x _=>.inl (hf x)) (A.s c X G hf body pb hb) (qmt ha.sh X.env)).imp λDn σ H h=>?_;refine h.el λm st τ o st' W S0 g r=>qzj g λd1 s1 V g=>?_
  cases d1 with
  |loc l=>
   have g:=g;refine qzx g λkvs e2 g=>qzx g λw e3 g=>?_
   split at g
   case h_2=>exact nn g
   case h_1 b4 hw=>
   have r:=r.of g;refine rsI W S0 V λx m1 H1 b1 E Q i1=>?_;obtain⟨a',xs,a3,rfl,U,a2,hst⟩:=Q.wdict e2 i1;refine⟨a',xs,rfl,U,λob nf=>?_⟩;have R2:=Q.ice (o:=ob) hst a3 U a2;have ti:=Tr.ice (o:=ob) U;have IK:=a2.keys;have lk:=IK.length;rw[Qqz]at lk;have fz:∀{H':Hp},Tr (upd H1 a' (.frz ob (.dK xs))) H'->H' a'=Y (.frz ob (.dK xs)):=λu=>u.frz a' ob _ qzw
   refine⟨λj k a0 H'=>∃m2 N K,Sub m1 m2/\Tr (upd H1 a' (.frz ob (.dK xs))) H'/\Rel X.K m2 N H'/\SlotOk X.K m2 H' K a0/\M.loop (.tup (M.keysOf kvs)) (λτ st d=>(M.setT t d τ).bind λτ'=>(?z).ex τ' st body) k j K N=Y w,
    ⟨_,m1,_,τ,Sub.refl _,Tr.refl _,R2,S0.mono b1 (E.trans ti),e3⟩,?_⟩
   rintro j k a0 H' ⟨m2,N,K,b2,u,R3,S2,F⟩
   cases k with
   |zero=>exact nn F
   |succ k=>
    have F:(Y (M.keysOf kvs)[j]?:Y3 (Y3 D)).bind (λo=>match o with
     |none=>Y (Out.nx K,N)
     |some d=>((M.setT t d K).bind λτ'=>(?z).ex τ' N body).bind λz=>match z.1 with
      |.nx τ'=>M.loop (.tup (M.keysOf kvs)) (λτ st d=>(M.setT t d τ).bind λτ'=>(?z).ex τ' st body) k (j+1) τ' z.2
      |.rt v=>Y (.rt v,z.2))=Y w:=F
    rw[oBs]at F
    cases e5:(M.keysOf kvs)[j]? with
    |none=>
     rw[e5]at F;cases F;refine .inl ⟨⟨fz u,by rw[<- lk]; exact Qzu.mp e5⟩,a',ob,xs,nf,fz u,?_⟩;exact S_nx r (b1.trans b2) (E.trans (Tr.thaw U u)) (R3.thaw hw (b2 l a' a3) (fz u)) (S2.monoW (Sub.refl _) (Tw.thaw (fz u)))
    |some d=>
     rw[e5]at F;have hj:=(Qqk.mp e5).1;refine qzx F λz e6 F=>qzx e6 λR e7 e6=>.inr ⟨⟨fz u,by omega⟩,λT H3=>∃m3 a1 R,Sub m1 m3/\Tr (upd H1 a' (.frz ob (.dK xs))) H3/\Rel X.K m3 a1 H3/\SlotOk X.K m3 H3 R T/\M.loop (.tup (M.keysOf kvs)) (λτ st d=>(M.setT t d τ).bind λτ'=>(?z).ex τ' st body) k (j+1) R a1=Y w,λT H3 w3=>⟨k,Qzo k,w3⟩,?_⟩;rintro x H2 ⟨rfl,p,hp,rfl⟩;obtain⟨x',ex,ix⟩:=IK.get e5;rw[Qqw,hp]at ex;cases ex;refine qiq (qzk b2 (ti.trans u) _ _ ix) S2 e7 λT S3=>rsI R3 S3 e6 λm3 H3 b3 t3 R4=>?_
     cases hz:z.1 with
     |nx a4=>
      rw[hz]at F;exact λa8 S4=>⟨m3,z.2,a4,b2.trans b3,u.trans t3,R4,S4,F⟩
     |rt v=>
      rw[hz]at F;cases F;exact λv' iv=>⟨a',ob,xs,nf,fz (u.trans t3),r m3 _ ?qf (E.trans (Tr.thaw U (u.trans t3))) (R4.thaw hw ((b2.trans b3) l a' a3) (fz (u.trans t3))) v' (qz8 (Sub.refl _) (Tw.thaw (fz (u.trans t3))) _ _ iv)⟩
  |_=>exact nn g
theorem qml(e:∀j,j<=n->AllOk fns dl j)(G:Good fns dl c X)(hf:∀x,X.fn x=O):∀{g}{ps},CkSs c g ps->PSs X ps (tS X.K λτ st=>M.exs (M.stepEx ?z) g τ st)
 |_,_,.nil=>pss_nil.imp λl σ H h=>by
  refine h.el λm st τ o st' b S0 a q=>?_;have q:=q.of a;exact q m H ?M (Tr.refl H) b _ S0
 |_,_,.doc t=>(qaz ps_doc (qml e G hf t)).imp λl σ H h=>h
 |_,_,.cons h t=>(qaz (s1_ok e G hf h) (qml e G hf t)).imp λl σ H u=>by
  refine u.el λm st τ o st' b S0 a q=>qzx a λp v a=>rsI b S0 v λm1 H1 b1 f k=>?_
  cases i:p.1 with
  |nx r=>
   rw[i]at a;exact λs S1=>rsI k S1 a (q.mono b1 f)
  |rt d=>
   rw[i]at a;have q:=q.of a;exact q m1 H1 b1 f k
end
def allOk(fns)(dl):∀n j,j<=n->AllOk fns dl j:=by
 intro n
 induction n with
 |zero=>intro j h; rw[Nat.le_zero.mp h]; exact qcq fns dl
 |succ n a=>
  intro j h;rcases Qxx j (n+1) with z|z
  ·exact a j (by omega)
  ·have e:j=n+1:=by omega
   subst e;have A:=a n (Qqv n);exact⟨λc X G _ e p h=>e_ok A G h,λc X G _ e p h=>t_ok A G h,λc X G _ e d ps pos h=>w_ok A G h,λc X G hf b ps h=>qml a G hf h⟩
structure FText (K:Qqq) (mg:Y5->Y3 Y8) (fns:L Fn) (names:L Y5) (glo:Glo) (f:Y0) (x:Y5):Prop where
 ex:∃(nm:Y5) (fa:Y7) (fd:Qm) (st:Stmt) (N ps:L Y5) (F:Fn),fns[f]?=Y F/\Fun K nm x st fa fd/\Lc K mg glo f x fa/\Binds K fd ps []/\FnScope N ps (qza st)/\CkSs ⟨N,qza st,names,glo⟩ F.body (qzu st)/\F.np=ps.length/\F.nl=N.length
noncomputable def spB(K:Qqq)(F:Fn)(r:R):Sp:=λvs H Q _=>∃m st ds d st',Rel K m st H/\IsDs K m H ds vs/\M.callB F r ds st=Y (d,st')/\Post K m H d st' Q
def qo0{K:Qqq}{f:Y0}{V:Qm}{st:Stmt}(ih:FTab P w K mg base glo fns names n)(Mg:Mo K mg glo w.params)(hF:fns[f]?=Y F)(l:Fun K nm x st I V)(b:FnScope N ps (qza st))(C:CkSs ⟨N,qza st,names,glo⟩ F.body (qzu st))(t:F.np=ps.length)(u:F.nl=N.length):FnOk P w K mg base CX0 (2*(n+1)) I V ps (spB K F (M.Lv fns n)):=by
 have g:∀{ds:L D}{a st':Y2}{d:D},M.callB F (M.Lv fns n) ds a=Y (d,st')->ds.length=F.np/\((M.Lv fns n).ex (ds.map Y++List.replicate (F.nl - ds.length) B) a F.body).bind (λp=>match p.1 with
   |.rt d=>Y (d,p.2)
   |.nx _=>Y (D.non,p.2))=Y (d,st'):=λ{ds a st' d} e=>by
  unfold M.callB at e
  split at e
  ·rename_i hl;exact⟨hl,e⟩
  ·exact nn e
 refine l.ok b (λvs H Q E h=>?_) (λS A outer s H vs Q E hr h=>?_)
 ·obtain⟨m,a,ds,d,st',_,j,e,_⟩:=h;rw[<- j.length,(g e).1,t]
 ·obtain⟨m,a,ds,d,st',R0,j,e,q⟩:=h;obtain⟨hl,e⟩:=g e;refine qzx e λp R o=>?_;obtain⟨k,R⟩:=M.lim1_is R;have G:Good fns n ⟨N,qza st,names,glo⟩ (cxOf CX0 P w K mg base N x (qza st) I S A outer s H E).nox:=⟨hr,rfl,rfl,rfl,b.nd,b.kind,ih,Mg,rfl⟩
  refine⟨_,(allOk fns n k k (Qqv k)).s _ _ G (λ_=>rfl) F.body (qzu st) C,⟨m,a,ds.map Y++List.replicate (F.nl - ds.length) B,p.1,p.2,R0,⟨?_,λi d0 hi=>?_⟩,R,λm1 H1 b1 T W=>?_⟩⟩
  ·unfold L2.start;rw[Qql,Qql,Qqz,Qqz,Qjh,Qjh,u,j.length]
  ·unfold L2.start
   by_cases c:i<ds.length
   ·rw[Qqs (by simpa using c),Qqw]at hi;have e3:ds[i]?=Y d0:=by
     cases z:ds[i]? with
     |none=>rw[z]at hi; cases hi
     |some y=>rw[z]at hi; cases hi; rfl
    obtain⟨v,e4,r⟩:=j.get e3;refine⟨v,?_,r⟩;rw[Qqs (by rw[Qqz,<- j.length]; exact c),Qqw,e4]
    rfl
   ·rw[Qzw (by simpa using c),Qkk]at hi
    split at hi<;>cases hi
  ·cases U:p.1 with
   |rt d1=>
    rw[U]at o;cases o;exact λv r=>q v m1 H1 b1 T W r
   |nx X=>
    rw[U]at o;cases o;exact λa0 S1=>q _ m1 H1 b1 T W qvj
def qlo{K:Qqq}{st:Stmt}(p:FTab P w K mg base glo fns names n)(u:Mo K mg glo w.params)(k:fns[f]?=Y F)(a:Fun K nm x st o l)(c:FnScope N ps (qza st))(j:CkSs ⟨N,qza st,names,glo⟩ F.body (qzu st))(h:F.np=ps.length)(i:F.nl=N.length):FnOk P w K mg base CX0 (2*(n+1)) o l ps (spN K fns (n+1) f):=
 FnOk.iso (qo0 p u k a c j h i) λvs H Q E ⟨m,st,ds,d,st',R,b,e,q⟩=>by
  have e:M.stepCall fns (M.Lv fns n) f ds st=Y (d,st'):=e;unfold M.stepCall at e;rw[k]at e;dsimp only at e
  split at e
  ·rcases M.iso_is e with e|⟨N,es,S,t,S1,⟨rfl,hS,r⟩,g,s⟩
   ·exact .inl ⟨m,st,ds,d,st',R,b,e,q⟩
   ·cases s;exact .inr ⟨_,qin R,m.drop N,S,es,t,S1,qm5 R hS,(qj4 es vs).mp b |> qz1 (λ_ _ z=>z) (qli R) _ _,g,qhk R r q⟩
  ·exact .inl ⟨m,st,ds,d,st',R,b,e,q⟩
def tab_ok{K:Qqq}(T:∀f x,names[f]?=Y x->FText K mg fns names glo f x)(t:Mo K mg glo w.params):
  ∀n,FTab P w K mg base glo fns names n:=by
 intro n
 induction n with
 |zero=>
  intro f x j;obtain⟨nm,l,fd,st,N,ps,F,o,a,k,hb,b,i,c,g⟩:=(T f x j).ex;refine⟨l,fd,ps,k,?_,a.kp,hb⟩;refine⟨λvs H Q E h=>?_,λA outer s H p u vs Q E hr v r hv h=>?_⟩
  ·obtain⟨m,st,ds,d,st',_,_,e,_⟩:=h; cases e
  ·obtain⟨m,st,ds,d,st',_,_,e,_⟩:=h; cases e
 |succ n q=>
  intro f x j;obtain⟨nm,l,fd,st,N,ps,F,o,a,k,hb,b,i,c,g⟩:=(T f x j).ex;exact⟨l,fd,ps,k,qlo q t o a b i c g,a.kp,hb⟩
noncomputable def qmm(K:Qqq):Sp:=λvs H Q _=>∃(a:Y7) (ns:L J),vs=[.ref a]/\SqF K H a (ns.map V.int)/\ns.length<=63/\∀H',Q (.bl O) H'
def law_sp{K:Qqq}(h:∀ns:L J,ns.length<=63->∃st',M.callD fns n f [.lst (ns.map D.int)] []=Y (.bl O,st'))(vs)(H)(Q)(E)(q:qmm K vs H Q E):spN K fns n f vs H Q E:=by
 obtain⟨a,ns,rfl,hS,hl,k⟩:=q;obtain⟨st',e⟩:=h ns hl;refine⟨[],[],[.lst (ns.map D.int)],.bl O,st',⟨rfl,λl o b c r d j g p w m=>?_,λl c b d j=>?_⟩,qzo (qbr hS (qxv ns)) qqk,e,λv m' H' _ _ _ i=>?_⟩
 ·simp at g
 ·simp at d
 ·rw[i.bl]; exact k H'
def qn2{K:Qqq}(b:Only H)(h:SqL K H a xs):SqF K H a xs:=by
 rcases h with (h|⟨o,h⟩)|h
 ·rcases b a with z|⟨ob,ys,z⟩
  ·rw[h]at z; cases z
  ·rw[h]at z; cases z
 ·exact .inl ⟨o,h⟩
 ·exact .inr h
def walk_law{l:PySem.W.OpenLaw}{K:Qp->Qqq}(e:l.most=Y 63)(b:d.params.defaults=[])(hr:Room k Zs)(g:∀(w:Qj) (h:Heap),YP w h->(K w.params).In h)(F:∀(w:Qj) (mg:Y5->Y3 Y8) (c:Y7) (h:Heap),(K w.params).In h->h.Ns mainGlobals mg->mg d.name=Y (.ref c)->
   ∃fd:Qm,(∀(s:Qz) (u:Y8),BindsTo s fd ⟨[u],[]⟩ [(x,u)])/\∀base:Heap,(K w.params).In base->base.Ns mainGlobals mg->FnOk l.prog w (K w.params) mg base CX0 k c fd [x] (qmm (K w.params))):
  PySem.W.WalkO q loose XP YP l.row.toRowW d [] (λf vs=>PySem.call f vs):=
 L2.walk_of e (by decide) b hr g F (λ_ _ a ns hl i hS=>⟨a,ns,rfl,qn2 i hS,hl,λ_=>rfl⟩) λ_ _ _ _ _ z=>z
def qgt(elt)(gs)(sc)(q)(t)(p)(line)(env):swapsWith (.ListComp elt gs sc q) (Y (.Name t p)) line env=pure Y6\/swapsWith (.ListComp elt gs sc q) (Y (.Name t p)) line env=pure true:=by
 have e:swapsWith (.ListComp elt gs sc q) (Y (.Name t p)) line env=pure (env.blockKind==.function&&env.kindOf t==Y .local&&p.line==q.line && !(sc.names.any λ(n,k)=>n==t&&(k==.local||k==.cell))):=rfl;rw[e]
 cases (env.blockKind==.function&&env.kindOf t==Y .local&&p.line==q.line && !(sc.names.any λ(n,k)=>n==t&&(k==.local||k==.cell))) with
 |false=>exact .inl rfl
 |true=>exact .inr rfl
inductive ClK (K:Qqq) (cn:Y5) (C:Y7):Prop
 |mk (a:Qjw K mainGlobals cn=Y (Y (.ref C))) (pg:PySem.W.plainGet K C Str.empty=O) (hd:PySem.W.hasDictIn K C=O) (po:PySem.W.plainOver K C=O) (sa:PySem.W.findIn K (.ref C) "__setattr__" = Y (Y (.builtin "object.__setattr__"))) (mk:PySem.W.makesIn K C=O) (kp:Qz2 K (.ref C)=O):ClK K cn C
def ClK.cls{K:Qqq}(h:ClK K b C):Cls K C:=by
 cases h with
 |mk a pg hd po sa mk kp=>exact⟨pg,hd,po,sa⟩
def ClK.mo{K:Qqq}(q:ClK K b C)(X:K.In h)(G:h.Ns mainGlobals mg):mg b=Y (.ref C)/\Cls K C/\PySem.W.makesIn K C=O/\Qz2 K (.ref C)=true:=by
 have c:=q.cls
 cases q with
 |mk a pg hd po sa mk kp=>exact⟨Qjd X G a,c,mk,kp⟩
noncomputable def sq(a b:Y5):Bool:=a.cps.toList==b.cps.toList
def qqx(h:sq a b=O):a=b:=by
 obtain⟨⟨a⟩⟩:=a;obtain⟨⟨b⟩⟩:=b;have:a=b:=by simpa[sq] using h
 rw[this]
def qw6(a):sq a a=true:=by simp[sq]
def qba(h:(!sq a b)=O):(a==b)=false:=by
 cases e:a==b with
 |false=>rfl
 |true=>
  rw[beq_iff_eq]at e;rw[e,qw6]at h;cases h
noncomputable def gd{α:Type}(b:Yb)(x:Y3 α):Y3 α:=bif b then x else B
def gd_iff:gd b x=Y e↔b=O/\x=Y e:=by cases b<;>simp[gd]
noncomputable def lk:L (Y5×Ql)->Y5->Y3 Ql
 |[],_=>B
 |(y,k)::r,x=>bif sq x y then Y k else lk r x
theorem qwz:∀{l}{x},lk l x=l.lookup x
 |[],_=>rfl
 |(y,k)::r,x=>by
  unfold lk;rw[Qzf]
  cases e:sq x y with
  |true=>rw[qqx e,beq_self_eq_true]; rfl
  |false=>
   have:(x==y)=false:=by
    cases a:x==y with
    |false=>rfl
    |true=>rw[beq_iff_eq]at a; rw[a,qw6]at e; cases e
   rw[this];exact qwz
noncomputable def ixS(x:Y5):L Y5->Y3 Y0
 |[]=>B
 |y::r=>bif sq y x then Y 0 else(ixS x r).map (· + 1)
theorem ixS_eq:∀{N}{i},ixS x N=Y i->N[i]?=Y x
 |[],_,h=>nomatch h
 |y::r,i,h=>by
  unfold ixS at h
  cases e:sq y x with
  |true=>rw[e]at h; cases h; rw[qqx e]; rfl
  |false=>
   rw[e]at h;obtain⟨j,hj,rfl⟩:=Qqa.mp (h);exact(ixS_eq hj :)
noncomputable def kG:Y3 Ql->Yb
 |some .globalImplicit=>O
 |_=>Y6
noncomputable def kL:Y3 Ql->Yb
 |some .local=>O
 |some .cell=>O
 |_=>Y6
noncomputable def kV:Y3 Ql->Yb
 |some .local=>O
 |some .cell=>O
 |some .free=>O
 |_=>Y6
def kG_eq(h:kG o=O):o=Y .globalImplicit:=by
 unfold kG at h; split at h
 ·rfl
 ·cases h
def kL_eq(h:kL o=O):o=Y .local\/o=Y .cell:=by
 unfold kL at h; split at h
 ·exact .inl rfl
 ·exact .inr rfl
 ·cases h
def qoy(h:kV o=O):o=Y .local\/o=Y .cell\/o=Y .free:=by
 unfold kV at h; split at h
 ·exact .inl rfl
 ·exact .inr ?qp
 ·exact .inr (.inr rfl)
 ·cases h
noncomputable def isG(c:Ctx)(x:Y5):Bool:=kG (lk c.sc.names x)
noncomputable def isL(c:Ctx)(x:Y5):Bool:=kL (lk c.sc.names x)
def qz6(h:isG c x=O):c.sc.names.lookup x=Y .globalImplicit:=qwz▸kG_eq h
def qam(h:isL c x=O):c.sc.names.lookup x=Y .local\/c.sc.names.lookup x=Y .cell:=qwz▸kL_eq h
noncomputable def noD(x:Y5):Bool:=!sq x ("__debug__" : Y5)
noncomputable def swOk:Expr->Yb
 |.ListComp ..=>Y6
 |.SetComp ..=>Y6
 |.DictComp ..=>Y6
 |_=>O
def sw_ok(h:swOk p=O)(t)(l)(env):swapsWith p t l env=pure false:=by
 cases p<;>first|rfl|cases h
noncomputable def qx1{α:Type}(k:Y5->Pos->Y3 α):Expr->Y3 α
 |.Name x q=>k x q
 |_=>B
noncomputable def qd3{α:Type}(k:L Expr->Y3 α):Expr->Y3 α
 |.Tuple es _ _=>k es
 |_=>B
noncomputable def onSl{α:Type}(k:Y3 Expr->Y3 Expr->Y3 α):Expr->Y3 α
 |.Slice lo hi s _=>gd s.isNone (k lo hi)
 |_=>B
noncomputable def qd4{α:Type}(k:Y5->Pos->L Expr->Pos->Y3 α):Expr->Y3 α
 |.Call g ps ks pos=>gd ks.isEmpty (qx1 (λx q=>k x q ps pos) g)
 |_=>B
noncomputable def onAt{α:Type}(k:Expr->Y5->Pos->Y3 α):Expr->Y3 α
 |.Attribute a m q=>k a m q
 |_=>B
noncomputable def onC{α β:Type}(k:β->L β->Y3 α):L β->Y3 α
 |[]=>B
 |p::r=>k p r
noncomputable def on1{α β:Type}(k:β->Y3 α):L β->Y3 α:=onC λa r=>gd r.isEmpty (k a)
noncomputable def on2{α β:Type}(k:β->β->Y3 α):L β->Y3 α:=onC λa=>on1 (k a)
abbrev TrE:=Ctx->Expr->Y3 E
noncomputable def qci(c:Ctx)(x:Y5):Y3 E:=
 bif isG c x then(c.glo.cs.find? λq=>sq q.1 x).bind λq=>gd (noD x) (Y (.glo q.1 q.2))
 else(ixS x c.N).bind λi=>gd (kV (lk c.sc.names x)&&noD x && !sq x ("__classdict__" : Y5)) (Y (.var i))
noncomputable def trL(f:Expr->Y3 E):L Expr->Y3 (L E)
 |[]=>Y []
 |p::r=>(f p).bind λe=>(trL f r).map (e::·)
noncomputable def trP(f:Expr->Y3 E):L (Y3 Expr)->L Expr->Y3 (L E)
 |[],vs=>gd vs.isEmpty (Y [])
 |k::ks,vs=>k.bind λk=>onC (λv vs=>(f k).bind λa=>(f v).bind λb=>(trP f ks vs).map λr=>a::b::r) vs
noncomputable def trO(f:Expr->Y3 E):Y3 Expr->Y3 (Y3 E)
 |none=>Y B
 |some p=>(f p).map Y
noncomputable def qot(c:Ctx):Expr->Y3 (Y5×L Y5×L D):=
 qx1 λx _=>gd (isG c x&&noD x) (c.glo.ds.find? λq=>sq q.1 x)
noncomputable def inNeg:CmpOp->Y3 Yb
 |.In=>Y Y6
 |.NotIn=>Y O
 |_=>B
noncomputable def trCmp(o:Y0)(f:Expr->Y3 E)(c:Ctx)(a:Expr)(op:CmpOp)(b:Expr):Y3 E:=
 ((inNeg op).bind λneg=>((qot c b).bind λq=>(f a).map λx=>.gin neg q.1 q.2.1 x).or
  (gd (o==1) ((f a).bind λx=>(f b).map λy=>.din neg x y))).or
 ((f a).bind λx=>(f b).map λy=>.cmp op x y)
noncomputable def trSub(o:Y0)(f:Expr->Y3 E)(c:Ctx)(a b:Expr):Y3 E:=
 (onSl (λlo hi=>(f a).bind λx=>(trO f lo).bind λl=>(trO f hi).map λh=>.sli x l h) b).or
 (((qot c a).bind λq=>(f b).map λy=>.gidx q.1 q.2.1 q.2.2 y).or
 ((f a).bind λx=>(f b).map λy=>bif o==1 then .didx x y else .idx x y))
noncomputable def bOf(x:Y5):Y3 M.Bq:=[M.Bq.len,.min,.tuple,.list,.all,.sorted,.any,.max].find? λb=>sq (Str.ofString (qpw b)) x
noncomputable def tyOf(x:Y5):Y3 M.Ty:=[M.Ty.bl,.int,.str,.tup,.lst].find? λt=>sq (Str.ofString t.name) x
noncomputable def qmv(c:Ctx):L Expr->Y3 (L M.Ty)
 |[]=>Y []
 |p::r=>qx1 (λx _=>(tyOf x).bind λt=>gd (isG c x) ((qmv c r).map (t::·))) p
noncomputable def mOf(x:Y5):Y3 M.Mt:=[M.Mt.append,.extend,.index,.insert,.pop].find? λk=>sq (mName k) x
noncomputable def trIsi(f:Expr->Y3 E)(c:Ctx)(a t:Expr):Y3 E:=
 (qx1 (λx _=>(tyOf x).bind λt=>gd (isG c x) ((f a).map λe=>.isi e [t] Y6)) t).or
 (qd3 (λps=>(qmv c ps).bind λts=>gd (decide (ts.length<=1000)) ((f a).map λe=>.isi e ts O)) t)
noncomputable def trFun(f:Expr->Y3 E)(c:Ctx)(x:Y5)(p:Expr)(r:L Expr):Y3 E:=
 ((ixS x c.fns).bind λk=>gd (qhn x) ((trL f (p::r)).map (.call k))).or
 (((c.glo.cl.find? λq=>sq q.1 x).bind λq=>(c.glo.ms.find? λz=>z.2.1==q.2&&sq z.2.2 ("__init__" : Y5)).bind λz=>gd (c.fns[z.1]?).isSome ((trL f (p::r)).map (.new q.2 z.1))).or
 ((gd (sq x ("isinstance" : Y5)) (on1 (λt=>trIsi f c p t) r)).or
 ((bOf x).bind λb=>gd (bOk b) ((trL f (p::r)).map (.bcall b)))))
noncomputable def qly(c:Ctx)(x:Y5):L Expr->Y3 Expr:=
 on1 (qd4 λy _ as _=>on1 (λa=>gd (sq x ("len" : Y5)&&sq y ("set" : Y5)&&isG c y) (Y a)) as)
noncomputable def qcm(o:Y0)(f:Expr->Y3 E)(c:Ctx)(a:Expr)(m:Y5)(apos:Pos)(ps:L Expr)(pos:Pos):Y3 E:=
 gd (apos.endLine==pos.line) (bif Nat.ble 3 o then
  (c.glo.ms.find? λz=>z.2.1==o - 3&&sq z.2.2 m).bind λz=>(c.glo.cl.find? λq=>q.2==o - 3).bind λ_=>
   gd ((c.fns[z.1]?).isSome&&decide (ps.length<30)) ((f a).bind λe=>(trL f ps).map λes=>.mcall z.2.1 z.1 z.2.2 e es)
 else onC (λp r=>bif sq m ("get" : Y5) then(f a).bind λe=>(f p).bind λy=>gd r.isEmpty (Y (.dgt e y))
   else bif sq m ("pop" : Y5)&&o==1 then(f a).bind λe=>(f p).bind λy=>gd r.isEmpty (Y (.dpop e y))
   else(mOf m).bind λk=>gd (decide ((p::r).length<30)) ((f a).bind λe=>(trL f (p::r)).map λes=>.meth e k es)) ps)
noncomputable def trTs(c:Ctx):L Expr->Y3 (L Y0)
 |[]=>Y []
 |p::r=>qx1 (λx _=>(ixS x c.N).bind λi=>gd (isL c x) ((trTs c r).map (i::·))) p
noncomputable def trT(c:Ctx)(p:Expr):Y3 T:=
 (qx1 (λx _=>(ixS x c.N).bind λi=>gd (isL c x) (Y (.var i))) p).or (qd3 (λes=>(trTs c es).map .tup) p)
noncomputable def trR(f:Expr->Y3 E)(tg:Expr)(x:Y5)(ps:L Expr):Y3 E:=
 bif sq x ("range" : Y5) then(on1 (λa=>(f a).map .rng1) ps).or (on2 (λa b=>(f a).bind λx=>(f b).map λy=>.rng2 x y) ps)
 else bif sq x ("zip" : Y5) then qd3 (λ_=>on2 (λa b=>(f a).bind λx=>(f b).map λy=>.zip x y) ps) tg
 else bif sq x ("enumerate" : Y5) then qd3 (λ_=>on1 (λa=>(f a).map .enu) ps) tg
 else gd (sq x ("reversed" : Y5)) (on1 (λa=>(f a).map .rev) ps)
noncomputable def trI(f:Expr->Y3 E)(c:Ctx)(tg e:Expr):Y3 E:=
 (qd4 (λx _ ps _=>gd (isG c x) (trR f tg x ps)) e).or (f e)
noncomputable def ndB:L Y5->Yb
 |[]=>O
 |x::r=>!(r.any (sq x))&&ndB r
noncomputable def inN(sc:Scope):L Y5:=(sc.names.filter λy=>y.2==.local && !sq y.1 (".0" : Y5)).map (·.1)++(sc.names.filter λy=>y.2==.free).map (·.1)
noncomputable def inS(sc:Scope)(N:L Y5):L (Y3 Y0):=(inN sc).map λx=>bif kV (lk sc.names x) && !kL (lk sc.names x) then ixS x N else B
noncomputable def compOk(c:Ctx)(sc:Scope):Bool:=sc.kind==.function&&sc.names.all (λy=>y.2 != .cell)&&sc.names.all (λy=>y.2 != .free||(kV (lk c.sc.names y.1)&&lk c.sc.names y.1 != Y .local))&&sc.names.all (λy=>y.2 != .local||lk sc.names y.1==Y .local)&&ndB (inN sc)
noncomputable def qyt(R:TrE)(c:Ctx)(elt tg iter:Expr)(ifs:Y3 Expr)(sc:Scope):Y3 E:=
 gd (compOk c sc&&shOk iter) ((trI (R c) c tg iter).bind λi=>(trT (c.inn (inN sc) sc) tg).bind λt=>gd (tlOk (inN sc) (qbh sc c.sc) t)
  ((trO (R (c.inn (inN sc) sc)) ifs).bind λk=>(R (c.inn (inN sc) sc) elt).map λe=>.comp t i k e (inS sc c.N)))
noncomputable def trC:Const->Y3 E
 |.int i=>Y (.lit (.int i))
 |.bool i=>Y (.lit (.bl i))
 |.none=>Y (.lit .non)
 |.str i=>Y (.lit (.str i))
 |_=>B
noncomputable def trU(f:Expr->Y3 E)(a:Expr):UnaryOp->Y3 E
 |.USub=>(f a).map .neg
 |.Not=>(f a).map .not
 |_=>B
noncomputable def bo:BoolOp->E->E->E
 |.And=>.and
 |.Or=>.or
noncomputable def trBo(f:Expr->Y3 E)(op:BoolOp)(pos:Pos):L Expr->Y3 E:=
 onC λa r=>(f a).bind λx=>onC (λb r=>(f (bif r.isEmpty then b else .BoolOp op (b::r) pos)).map λy=>bo op x y) r
noncomputable def trCp(o:Y0)(f:Expr->Y3 E)(c:Ctx)(a:Expr)(os:L CmpOp)(bs:L Expr):Y3 E:=
 (on1 (λop=>on1 (λb=>trCmp o f c a op b) bs) os).or
 (on2 (λop op'=>on2 (λb d=>(f a).bind λx=>(f b).bind λy=>(f d).map λz=>.cmp2 op op' x y z) bs) os)
noncomputable def trCl(o:Y0)(f:Expr->Y3 E)(c:Ctx)(pos:Pos)(g:Expr)(ps:L Expr)(ks:L Zp):Y3 E:=
 gd ks.isEmpty ((qx1 (λx _=>onC (λp r=>gd (isG c x&&noD x) (((qly c x (p::r)).bind λa=>(f a).map .lenset).or (trFun f c x p r))) ps) g).or
 (onAt (λa m apos=>qcm o f c a m apos ps pos) g))
noncomputable def trDi(o:Y0)(f:Expr->Y3 E)(ks:L (Y3 Expr))(vs:L Expr):Y3 E:=
 gd (decide (ks.length<=15)) ((trP f ks vs).map .dic)
noncomputable def trLc(o:Y0)(R:TrE)(c:Ctx)(elt:Expr)(sc:Scope):L Comprehension->Y3 E:=
 on1 λg=>gd (g.is_async==0) ((gd g.ifs.isEmpty (qyt R c elt g.target g.iter B sc)).or (on1 (λq=>qyt R c elt g.target g.iter (Y q) sc) g.ifs))
noncomputable def trX(o:Y0)(R:TrE)(c:Ctx):Expr->Y3 E
 |.Name x _=>qci c x
 |.Constant k _ _=>trC k
 |.BinOp a op b _=>(R c a).bind λx=>(R c b).map λy=>.bin op x y
 |.UnaryOp op a _=>trU (R c) a op
 |.BoolOp op ps pos=>trBo (R c) op pos ps
 |.Compare a os bs _=>trCp o (R c) c a os bs
 |.IfExp q a b _=>(R c q).bind λx=>(R c a).bind λy=>(R c b).map λz=>.ite x y z
 |.Tuple ps _ _=>(trL (R c) ps).map .tup
 |.List ps _=>(trL (R c) ps).map .lst
 |.Subscript a b _=>trSub o (R c) c a b
 |.Call g ps ks pos=>trCl o (R c) c pos g ps ks
 |.Attribute a f _=>gd (Nat.ble 3 o) ((c.glo.ats.find? λz=>z.1==o - 3&&sq z.2 f).bind λz=>(R c a).map λe=>.attr z.1 e z.2)
 |.Dict ks vs _=>trDi o (R c) ks vs
 |.ListComp elt gs sc _=>trLc o R c elt sc gs
 |_=>B
noncomputable def isGc:E->Yb
 |.gc _=>O
 |_=>Y6
noncomputable def pk(p:Pos):Nat:=(p.line*1000+p.col)*1000+p.endCol
noncomputable def trF(o:Y0->Y0)(R:TrE):TrE:=λc p=>gd (shOk p) (match o (pk p.pos) with
 |n=>(trX (n / 2) R c p).bind λe=>gd (qvu e) (Y (bif (n % 2==1)&&gcOk p && !isGc e then .gc e else e)))
noncomputable def trE(o:Y0->Y0):Y0->TrE
 |0=>λ_ _=>B
 |n+1=>trF o (trE o n)
def mD{α c:Type}{o:Y3 α}{f:α->c}{b:c}(h:o.map f=Y b):∃a,o=Y a/\f a=b:=Qqa.mp h
def aD(h:(a&&b)=O):a=O/\b=true:=(Qq2 _ _).mp h
def bDk{α c:Type}{o:Y3 α}{f:α->Y3 c}{b:c}{P:Prop}(h:o.bind f=Y b)(k:∀a,o=Y a->f a=Y b->P):P:=qzx h k
def mDk{α c:Type}{o:Y3 α}{f:α->c}{b:c}{P:Prop}(h:o.map f=Y b)(k:∀a,o=Y a->f a=b->P):P:=qzg h k
def gDk{x:Y3 α}{e:α}{P:Prop}(h:gd b x=Y e)(k:b=O->x=Y e->P):P:=k (gd_iff.mp h).1 (gd_iff.mp h).2
def aDk{P:Prop}(h:(a&&b)=O)(k:a=O->b=O->P):P:=k ((Qq2 _ _).mp h).1 ((Qq2 _ _).mp h).2
def fD{α:Type}{p:α->Yb}{l:L α}{a:α}(h:l.find? p=Y a):a∈l/\p a=true:=⟨Qz0 h,Qxz h⟩
def oDk{α:Type}{a b:Y3 α}{x:α}{P:Prop}(h:a.or b=Y x)(k:a=Y x->P)(c:b=Y x->P):P:=by
 cases a with
 |none=>exact c h
 |some y=>exact k h
def nmDk{k:Y5->Pos->Y3 α}{e:α}{P:Prop}(h:qx1 k p=Y e)(g:∀x q,p=.Name x q->k x q=Y e->P):P:=by
 cases p with
 |Name x q=>exact g x q rfl h
 |_=>exact nn h
def tuDk{k:L Expr->Y3 α}{e:α}{P:Prop}(h:qd3 k p=Y e)(g:∀es j q,p=.Tuple es j q->k es=Y e->P):P:=by
 cases p with
 |Tuple x j q=>exact g x j q rfl h
 |_=>exact nn h
def slDk{k:Y3 Expr->Y3 Expr->Y3 α}{e:α}{P:Prop}(h:onSl k p=Y e)(g:∀a b q,p=.Slice a b B q->k a b=Y e->P):P:=by
 cases p with
 |Slice a b s q=>
  cases s with
  |none=>exact g a b q rfl h
  |some _=>exact nn h
 |_=>exact nn h
def clDk{k:Y5->Pos->L Expr->Pos->Y3 α}{e:α}{P:Prop}(h:qd4 k p=Y e)(g:∀x q ps pos,p=.Call (.Name x q) ps [] pos->k x q ps pos=Y e->P):P:=by
 cases p with
 |Call f ps ks pos=>
  cases ks with
  |nil=>exact nmDk h λx q e h=>g x q ps pos (e▸rfl) h
  |cons _ _=>exact nn h
 |_=>exact nn h
def atDk{k:Expr->Y5->Pos->Y3 α}{e:α}{P:Prop}(h:onAt k p=Y e)(g:∀a m q,p=.Attribute a m q->k a m q=Y e->P):P:=by
 cases p with
 |Attribute a m q=>exact g a m q rfl h
 |_=>exact nn h
def cDk{k:b->L b->Y3 α}{l:L b}{e:α}{P:Prop}(h:onC k l=Y e)(g:∀a r,l=a::r->k a r=Y e->P):P:=by
 cases l with
 |nil=>exact nn h
 |cons a r=>exact g a r rfl h
def qx8{k:b->Y3 α}{l:L b}{e:α}{P:Prop}(h:on1 k l=Y e)(g:∀a,l=[a]->k a=Y e->P):P:=
 cDk h λa r e h=>gDk h λhr h=>g a (by cases r with
  |nil=>exact e
  |cons _ _=>cases hr) h
def qgd{k:c->c->Y3 α}{l:L c}{e:α}{P:Prop}(h:on2 k l=Y e)(g:∀a b,l=[a,b]->k a b=Y e->P):P:=
 cDk h λa _ e h=>qx8 h λb d h=>g a b (d▸e) h
def TrO(Q:Ctx->E->Expr->Prop)(R:TrE):Prop:=∀{c:Ctx}{p:Expr}{e:E},R c p=Y e->Q c e p
abbrev Fo(Q:Ctx->E->Expr->Prop)(c:Ctx)(f:Expr->Y3 E):Prop:=∀{p:Expr}{e:E},f p=Y e->Q c e p
def inN_op(h:inNeg a=Y neg):a=inOp neg:=by cases a<;>first|(cases h; done)|(cases h; rfl)
def qch(h:qci c x=Y e):CkV c e x:=by
 unfold qci at h
 cases g:isG c x with
 |true=>
  rw[g]at h;refine bDk h λq b h=>gDk h λhd h=>?_;cases h;obtain⟨d,a⟩:=fD b;cases qqx a;exact .glo (qz6 g) d (qba hd)
 |false=>
  rw[g]at h;refine bDk h λi hi h=>gDk h λhd h=>?_;cases h;refine aDk hd λhd h2=>aDk hd λhd h1=>?_;rw[qwz]at hd;exact .var (ixS_eq hi) (qoy hd) (qba h1) (qba h2)
section
variable (hf:Fo Q c f)
include hf
theorem qxt:∀{ps}{es},trL f ps=Y es->CkL (Q c) es ps
 |[],_,h=>by cases h; exact .nil
 |p::r,es,h=>by
  refine bDk h λe b h=>?_;obtain⟨t,a,rfl⟩:=mD h;exact .cons (hf b) (qxt a)
theorem qiu:∀{ks}{vs}{es},trP f ks vs=Y es->CkP (Q c) es ks vs
 |[],vs,_,h=>gDk h λhv h=>by
  cases vs with
  |nil=>cases h; exact .nil
  |cons _ _=>cases hv
 |k::ks,vs,es,h=>bDk h λk hk h=>cDk h λv vs hv h=>by
  refine bDk h λa e h=>bDk h λb hb h=>?_;obtain⟨t,d,rfl⟩:=mD h;subst hk hv;exact .cons (hf e) (hf hb) (qiu d)
theorem qcg(h:trO f p=Y e):CkO (Q c) e p:=by
 cases p with
 |none=>cases h; exact .none
 |some p=>
  obtain⟨e,a,rfl⟩:=mD h;exact .some (hf a)
theorem qat(h:qot c b=Y q):∃pos,b=.Name q.1 pos/\c.sc.names.lookup q.1=Y .globalImplicit/\(q.1,q.2.1,q.2.2)∈c.glo.ds/\(q.1==("__debug__" : Y5))=false:=
 nmDk h λx pos e h=>gDk h λh1 h=>aDk h1 λh1 h2=>by
  obtain⟨d,a⟩:=fD h;have:=qqx a;subst this e;exact⟨pos,rfl,qz6 h1,d,qba h2⟩
theorem qgm(h:trCmp o f c a i b=Y e):CkG Q c e (.Compare a [i] [b] pos):=
 oDk h (λh=>bDk h λneg hn h=>by
  rw[inN_op hn];refine oDk h (λh=>bDk h λq j h=>?_) λh=>gDk h λ_ h=>bDk h λx d h=>?_
  ·obtain⟨x,d,rfl⟩:=mD h;obtain⟨p0,rfl,h1,h2,k⟩:=qat hf j;exact .gin h1 h2 k (hf d)
  ·obtain⟨y,g,rfl⟩:=mD h
   exact .din (hf d) (hf g)) λh=>bDk h λx d h=>by
  obtain⟨y,g,rfl⟩:=mD h;exact .cmp (hf d) (hf g)
theorem qgh(h:trSub o f c a b=Y e):CkG Q c e (.Subscript a b pos):=by
 refine oDk h (λh=>slDk h λlo hi p0 m h=>bDk h λx d h=>bDk h λl hl h=>?_) λh=>oDk h (λh=>bDk h λq i h=>?_) λh=>bDk h λx d h=>?_
 ·obtain⟨k,hk,rfl⟩:=mD h;subst m;exact .sli (hf d) (qcg hf hl) (qcg hf hk)
 ·obtain⟨x,d,rfl⟩:=mD h;obtain⟨p0,rfl,h1,h2,j⟩:=qat hf i;exact .gidx h1 h2 j (hf d)
 ·obtain⟨y,g,rfl⟩:=mD h
  cases n:o==1 with
  |false=>exact .idx (hf d) (hf g)
  |true=>exact .didx (hf d) (hf g)
omit hf in
theorem qcy(h:tyOf x=Y t):t≠.non/\Str.ofString t.name=x:=by
 obtain⟨h1,h2⟩:=fD h;refine⟨?_,qqx h2⟩;rintro rfl;simp at h1
omit hf in
theorem qyr:∀{ps}{ts},qmv c ps=Y ts->CkTys c ts ps
 |[],_,h=>by cases h; exact .nil
 |p::r,ts,h=>nmDk h λx q e h=>bDk h λt b h=>gDk h λg h=>by
  obtain⟨ts,a,rfl⟩:=mD h;obtain⟨h1,rfl⟩:=qcy b;subst e;exact .cons h1 (qz6 g) (qyr a)
theorem qgi(g:c.sc.names.lookup ("isinstance" : Y5)=Y .globalImplicit)(h:trIsi f c a t=Y e):CkG Q c e (.Call (.Name "isinstance" p0) [a,t] [] pos):=by
 refine oDk h (λh=>nmDk h λx q ex h=>bDk h λt b h=>gDk h λi h=>?_) λh=>tuDk h λps j q ex h=>bDk h λts b h=>gDk h λi h=>?_
 ·obtain⟨e,d,rfl⟩:=mD h;obtain⟨h1,rfl⟩:=qcy b;subst ex;exact .isi1 g h1 (qz6 i) (hf d)
 ·obtain⟨e,d,rfl⟩:=mD h;subst ex;exact .isiN (of_decide_eq_true i) g (qyr b) (hf d)
theorem bc_ok(g:isG c x=O)(h:((bOf x).bind λb=>gd (bOk b) ((trL f (p::ps)).map (.bcall b)))=Y e):CkG Q c e (.Call (.Name x p0) (p::ps) [] pos):=by
 refine bDk h λb hb h=>gDk h λh1 h=>?_;obtain⟨es,a,rfl⟩:=mD h;have:=qqx (fD hb).2;subst this;exact .bcall (qz6 g) h1 (qxt hf a)
theorem qgl(g:isG c x=O)(hd:noD x=O)(h:trFun f c x p r=Y e):CkG Q c e (.Call (.Name x p0) (p::r) [] pos):=by
 refine oDk h (λh=>bDk h λk hk h=>gDk h λh1 h=>?_) λh=>oDk h (λh=>bDk h λq n h=>bDk h λz i h=>gDk h λh1 h=>?_) λh=>oDk h (λh=>gDk h λhi h=>qx8 h λt m h=>?_) (bc_ok hf g)
 ·obtain⟨es,d,rfl⟩:=mD h;exact .call (qz6 g) (ixS_eq hk) (qba hd) h1 (qxt hf d)
 ·obtain⟨es,d,rfl⟩:=mD h;obtain⟨y,j⟩:=Qz6.mp h1;obtain⟨o,l⟩:=fD n;obtain⟨b,a⟩:=fD i;refine aDk a λs hb=>?_;have:=qqx l;subst this;obtain⟨A,C,w⟩:=z;have v:=qqx hb;have u:=eq_of_beq s;subst v u;exact .new (qz6 g) j b o (qba hd) (qxt hf d)
 ·have:=qqx hi;subst this m;exact qgi hf (qz6 g) h
omit hf in
theorem qey(h:qly c x ps=Y a):x=("len" : Y5)/\∃q b,ps=[.Call (.Name "set" q) [a] [] b]/\c.sc.names.lookup ("set" : Y5)=Y .globalImplicit:=
 qx8 h λp e h=>clDk h λy q k b j h=>qx8 h λl i h=>gDk h λh1 h=>by
  cases h;refine aDk h1 λh1 g=>aDk h1 λd h1=>?_;have:=qqx h1;subst this i j e;exact⟨qqx d,q,b,rfl,qz6 g⟩
theorem qcl(h:qcm o f c a m b ps pos=Y e):CkG Q c e (.Call (.Attribute a m b) ps [] pos):=by
 unfold qcm at h;refine gDk h λhl h=>?_
 cases u:Nat.ble 3 o with
 |true=>
  rw[u]at h;refine bDk h λz A h=>bDk h λq C h=>gDk h λh1 h=>aDk h1 λh1 h2=>bDk h λx d h=>?_;obtain⟨es,t,rfl⟩:=mD h;obtain⟨y,g⟩:=Qz6.mp h1;obtain⟨D,i⟩:=fD A;obtain⟨n,j⟩:=fD C;refine aDk i λF hb=>?_;obtain⟨N,P,K⟩:=z;obtain⟨R,S⟩:=q;have I:=qqx hb;have H:=eq_of_beq F;have v:=eq_of_beq j;subst I;rw[<- H]at v;subst v;exact .mcall (hf d) g D n (qxt hf t) (of_decide_eq_true h2) hl
 |false=>
  rw[u]at h;refine cDk h λp r G h=>?_;subst G
  cases s:sq m ("get" : Y5) with
  |true=>
   cases qqx s;rw[s]at h;refine bDk h λx d h=>bDk h λy g h=>?_
   cases r with
   |nil=>
    cases h;exact .dgt (hf d) (hf g) hl
   |cons w r=>exact nn h
  |false=>
   rw[s]at h
   cases l:sq m ("pop" : Y5)&&o==1 with
   |true=>
    rw[l]at h;cases qqx (aD l).1;refine bDk h λx d h=>bDk h λy g h=>?_
    cases r with
    |nil=>
     cases h;exact .dpop (hf d) (hf g) hl
    |cons w r=>exact nn h
   |false=>
    rw[l]at h;refine bDk h λk hk h=>gDk h λhn h=>bDk h λx d h=>?_;obtain⟨es,t,rfl⟩:=mD h;have:=qqx (fD hk).2;subst this;exact .meth (hf d) (qxt hf t) (of_decide_eq_true hn) hl
omit hf in
theorem qw3:∀{es}{is},trTs c es=Y is->CkTs c is es
 |[],_,h=>by cases h; exact .nil
 |p::r,is,h=>nmDk h λx q e h=>bDk h λi hi h=>gDk h λg h=>by
  obtain⟨ts,a,rfl⟩:=mD h;subst e;exact .cons (ixS_eq hi) (qam g) (qw3 a)
omit hf in
theorem qcf(h:trT c p=Y t):CkT c t p:=by
 refine oDk h (λh=>nmDk h λx q e h=>bDk h λi hi h=>gDk h λg h=>?_) λh=>tuDk h λes j q e h=>?_
 ·cases h;subst e;exact .var (ixS_eq hi) (qam g)
 ·obtain⟨a,hi,rfl⟩:=mD h;subst e;exact .tup (qw3 hi)
theorem trR_ok(g:isG c x=O)(h:trR f tg x ps=Y e):CkI (Q c) c tg e (.Call (.Name x q) ps [] pos):=by
 unfold trR at h
 cases d:sq x ("range" : Y5) with
 |true=>
  rw[d]at h;have:=qqx d;subst this;refine oDk h (λh=>qx8 h λa i h=>?_) λh=>qgd h λa b i h=>bDk h λx d h=>?_
  ·obtain⟨x,d,rfl⟩:=mD h;subst i;exact .rng1 (qz6 g) (hf d)
  ·obtain⟨y,j,rfl⟩:=mD h;subst i;exact .rng2 (qz6 g) (hf d) (hf j)
 |false=>
  rw[d]at h
  cases d:sq x ("zip" : Y5) with
  |true=>
   rw[d]at h;have:=qqx d;subst this;refine tuDk h λ_ _ _ k h=>qgd h λa b i h=>bDk h λx d h=>?_;obtain⟨y,j,rfl⟩:=mD h;subst k i;exact .zip (qz6 g) (hf d) (hf j)
  |false=>
   rw[d]at h
   cases d:sq x ("enumerate" : Y5) with
   |true=>
    rw[d]at h;have:=qqx d;subst this;refine tuDk h λ_ _ _ k h=>qx8 h λa i h=>?_;obtain⟨y,j,rfl⟩:=mD h;subst k i;exact .enu (qz6 g) (hf j)
   |false=>
    rw[d]at h;refine gDk h λd h=>qx8 h λa i h=>?_;have:=qqx d;subst this i;obtain⟨y,j,rfl⟩:=mD h;exact .rev (qz6 g) (hf j)
theorem qi0(h:trI f c tg p=Y e):CkI (Q c) c tg e p:=
 oDk h (λh=>clDk h λx q ps pos a h=>gDk h λg h=>by
  rw[a]
  exact trR_ok hf g h) λh=>.seq (hf h)
end
theorem qay:∀{l},ndB l=O->l.Nodup
 |[],_=>.nil
 |x::r,h=>by
  refine aDk h λh1 h2=>Qze.mpr ⟨λa=>?_,qay h2⟩;rw[Qje.mpr ⟨x,a,qw6 x⟩]at h1;cases h1
def qvl{R:TrE}(s:TrO Q R)(h:qyt R c elt tg a ifs sc=Y e):CkG Q c e (.ListComp elt [⟨tg,a,ifs.toList,0⟩] sc pos):=by
 unfold qyt at h;refine gDk h λb h=>aDk b λb q=>aDk b λb A=>aDk b λb C=>aDk b λb D=>aDk b λh1 h2=>bDk h λi hi h=>bDk h λt v h=>gDk h λp h=>?_;have hk:=eq_of_beq h1;have f:=λy g=>by
  have:=Qzc.mp h2 y g;simpa using this
 have d:∀y∈sc.names,y.2=.free->c.sc.names.lookup y.1=Y .cell\/c.sc.names.lookup y.1=Y .free:=λy g e=>by
  have:=Qzc.mp D y g;rw[e]at this;refine aDk (this) λo hb=>?_;rw[qwz]at o hb;rcases qoy o with z|z|z
  ·rw[z]at hb; cases hb
  ·exact .inl z
  ·exact .inr z
 have m:∀y∈sc.names,y.2=.local->sc.names.lookup y.1=Y .local:=λy g e=>by
  have:=Qzc.mp C y g;rw[e]at this;rw[<- qwz];exact eq_of_beq (this)
 have n:(inS sc c.N).length=(inN sc).length:=by unfold inS; rw[Qqz]
 have l:∀(j i:Y0),(inS sc c.N)[j]?=Y (Y i)->∃x,(inN sc)[j]?=Y x/\c.N[i]?=Y x/\sc.names.lookup x=Y .free:=λj i hj=>by
  unfold inS at hj;rw[Qqw]at hj;refine mDk hj λx u hj=>⟨x,u,?_⟩
  cases hb:kV (lk sc.names x) && !kL (lk sc.names x) with
  |false=>rw[hb]at hj; cases hj
  |true=>
   rw[hb]at hj;refine aDk hb λo hb=>⟨ixS_eq hj,?_⟩
   rw[<- qwz];rcases qoy o with z|z|z
   ·rw[z]at hb; cases hb
   ·rw[z]at hb; cases hb
   ·exact z
 have hs:=λenv x=>qmt q env x;have ok:CpOk c sc (inS sc c.N) (inN sc) a t:=⟨hk,f,d,m,n,l,qay A,hs,p⟩
 refine bDk h λk r h=>?_;obtain⟨e,w,rfl⟩:=mD h;exact .comp ok (qi0 (s) hi) (qcf v) (qcg s r) (s w)
def bo_ok(h:Q c x p)(k:Q c y (boT a pos (q::r))):CkG Q c (bo a x y) (.BoolOp a (p::q::r) pos):=by
 cases a with
 |And=>exact .and h k
 |Or=>exact .or h k
def trX_ok{R:TrE}(l:TrO Q R)(U:shOk p=O)(h:trX o R c p=Y e):CkG Q c e p:=by
 cases p with
 |Name x q=>
  exact .nm (qch h)
 |Constant k _ _=>
  cases k with
  |int i=>cases h; exact .int
  |bool i=>cases h; exact .bl
  |none=>cases h; exact .non
  |str i=>cases h; exact .str
  |_=>exact nn h
 |BinOp a s b q=>
  refine bDk h λx j h=>?_;obtain⟨y,n,rfl⟩:=mD h;exact .bin (l j) (l n)
 |UnaryOp s a q=>
  cases s with
  |USub=>
   obtain⟨x,j,rfl⟩:=mD h;exact .neg (l j)
  |Not=>
   obtain⟨x,j,rfl⟩:=mD h;exact .not (l j)
  |_=>exact nn h
 |BoolOp s ps q=>
  refine cDk h λa r F h=>bDk h λx j h=>cDk h λb r u h=>?_;obtain⟨y,n,rfl⟩:=mD h;subst u F;refine bo_ok (l j) ?_
  cases r with
  |nil=>exact l n
  |cons _ _=>exact l n
 |Compare a os bs q=>
  refine oDk h (λh=>qx8 h λs D h=>qx8 h λb u h=>?_) λh=>qgd h λs N D h=>qgd h λb d u h=>bDk h λx j h=>bDk h λy n h=>?_
  ·rw[D,u];exact qgm l h
  ·obtain⟨z,t,rfl⟩:=mD h;subst D u;exact .cmp2 (l j) (l n) (l t)
 |Tuple ps _ _=>
  obtain⟨x,j,rfl⟩:=mD h;exact .tup (qxt l j)
 |List ps _=>
  obtain⟨x,j,rfl⟩:=mD h;exact .lst (qxt l j)
 |Subscript a b _=>exact qgh l h
 |Call g ps ks q=>
  refine gDk h λhk h=>?_
  cases ks with
  |nil=>
   refine oDk h (λh=>nmDk h λx p0 w h=>cDk h λp r K h=>gDk h λh1 h=>aDk h1 λI hd=>oDk h (λh=>bDk h λa H h=>?_) λh=>?_) λh=>atDk h λa m apos F h=>?_
   ·obtain⟨x,j,rfl⟩:=mD h;obtain⟨rfl,q,T,e,hs⟩:=qey H;cases e;subst w K;exact .lenset (qz6 I) hs (l j)
   ·rw[w,K];exact qgl l I hd h
   ·rw[F];exact qcl l h
  |cons _ _=>cases hk
 |Attribute a f _=>
  refine gDk h λV h=>bDk h λz t h=>?_;obtain⟨x,j,rfl⟩:=mD h;obtain⟨P,C⟩:=fD t;refine aDk C λH hb=>?_;have:=qqx hb;subst this;exact .attr (l j) P
 |Dict ks vs _=>
  refine gDk h λh1 h=>?_;obtain⟨x,j,rfl⟩:=mD h
  cases ks with
  |nil=>
   cases vs with
   |nil=>cases j; exact .dic0
   |cons _ _=>exact nn j
  |cons k ks=>
   cases k with
   |none=>exact nn j
   |some k=>
    cases vs with
    |nil=>exact nn j
    |cons v vs=>exact .dic (qiu l j) (of_decide_eq_true h1)
 |IfExp q a b _=>
  refine bDk h λx j h=>bDk h λy n h=>?_;obtain⟨z,t,rfl⟩:=mD h;exact .ite (l j) (l n) (l t)
 |ListComp elt W sc _=>
  refine qx8 h λg w h=>?_;subst w;obtain⟨tg,G,A,k⟩:=g;refine gDk h λh1 h=>?_;cases eq_of_beq h1;refine oDk h (λh=>gDk h λhi h=>?_) λh=>qx8 h λq S h=>?_
  ·cases A with
   |nil=>exact qvl (ifs:=B) l h
   |cons _ _=>cases hi
  ·cases S;exact qvl (ifs:=Y _) l h
 |_=>exact nn h
def trF_ok{R:TrE}(g:TrO Q R):TrO (CkF Q) (trF o R):=λ{c p e} h=>by
 unfold trF at h;refine gDk h λa h=>bDk h λx f h=>gDk h λd h=>?_;cases h;have k:=trX_ok g a f
 cases hc:(o (pk p.pos) % 2==1)&&gcOk p && !isGc x with
 |false=>exact .of a d k
 |true=>
  refine aDk hc λh1 h2=>aDk h1 λ_ h1=>.gc a d h1 (λb e=>?_) k;rw[e]at h2;cases h2
theorem qys:∀n,TrO (CkN n) (trE o n)
 |0=>λh=>nomatch h
 |n+1=>trF_ok (qys n)
noncomputable def isComp:Expr->Yb
 |.ListComp ..=>O
 |_=>Y6
noncomputable def noTup:Expr->Yb
 |.Tuple ..=>Y6
 |_=>O
noncomputable def trAsg(o:Y0->Y0)(f:Expr->Y3 E)(c:Ctx)(p:Expr):Expr->Y3 S
 |.Name x _=>(ixS x c.N).bind λi=>gd (isL c x) ((f p).map λe=>.set (.var i) e)
 |.Tuple es _ _=>gd (noTup p) ((trTs c es).bind λis=>(f p).map λe=>.set (.tup is) e)
 |.Subscript a i tp=>(f p).bind λe=>(f a).bind λx=>(f i).map λy=>.dset x y e
 |.Attribute a m tp=>(f p).bind λe=>gd (Nat.ble 3 (o (pk tp) / 2)) ((c.glo.ats.find? λz=>z.1==o (pk tp) / 2 - 3&&sq z.2 m).bind λz=>(f a).map λx=>.setA z.1 x z.2 e)
 |_=>B
noncomputable def trS1(o:Y0->Y0)(f:Expr->Y3 E)(Bq:L Stmt->L S)(c:Ctx):Stmt->Y3 S
 |.Assign ts p _=>on1 (trAsg o f c p) ts
 |.Expr p _=>gd (swOk p) ((f p).map .expr)
 |.Return p _=>p.bind λp=>(f p).map .ret
 |.If q a b _=>(f q).map λe=>.ite e (Bq a) (Bq b)
 |.For tg it b r pos=>gd r.isEmpty (gd (shOk it) ((trT c tg).bind λt=>bif o (pk pos) / 2==1 then(f it).map λe=>.ford t e (Bq b) else(trI f c tg it).map λe=>.forr t e (Bq b)))
 |_=>B
noncomputable def isStr:Const->Yb
 |.str _=>O
 |_=>Y6
noncomputable def isDocE:Expr->Yb
 |.Constant k _ _=>isStr k
 |_=>Y6
noncomputable def isDoc:Stmt->Yb
 |.Expr e _=>isDocE e
 |_=>Y6
noncomputable def trSL(g:Stmt->S):L Stmt->L S
 |[]=>[]
 |p::r=>bif isDoc p then trSL g r else g p::trSL g r
noncomputable def trSs(o:Y0->Y0)(f:TrE)(c:Ctx):Y0->L Stmt->L S
 |0,ps=>trSL (λ_=>.bad) ps
 |n+1,ps=>trSL (λp=>(trS1 o (f c) (trSs o f c n) c p).getD .bad) ps
theorem qk5(a:∀p,CkS c (g p) p):∀ps,CkSs c (trSL g ps) ps
 |[]=>.nil
 |p::r=>by
  unfold trSL
  cases hd:isDoc p with
  |false=>exact .cons (a p) (qk5 a r)
  |true=>
   cases p with
   |Expr e _=>
    cases e with
    |Constant k _ _=>
     cases k with
     |str _=>exact .doc (qk5 a r)
     |_=>cases hd
    |_=>cases hd
   |_=>cases hd
def qgn(hf:Fo CkE c f)(h:trAsg o f c p t=Y s):CkS c s (.Assign [t] p pos):=by
 cases t with
 |Name x d=>
  refine bDk h λi hi h=>gDk h λhl h=>?_;obtain⟨e,b,rfl⟩:=mD h
  cases hc:isComp p with
  |true=>
   cases p with
   |ListComp=>exact .setC (ixS_eq hi) (qam hl) (hf b) ⟨_,_,_,_,rfl⟩ λenv _=>qgt _ _ _ _ _ _ _ env
   |_=>cases hc
  |false=>
   refine .set (ixS_eq hi) (qam hl) (hf b) λenv=>sw_ok ?_ _ _ _;have:=(hf b).sh
   cases p<;>first|rfl|(cases hc; done)|(cases this; done)
 |Tuple es k d=>
  refine gDk h λhn h=>bDk h λr hi h=>?_;obtain⟨e,b,rfl⟩:=mD h;refine .setT (qw3 hi) (hf b) λenv=>?_
  cases p<;>first|rfl|cases hn
 |Subscript a i d=>
  refine bDk h λe b h=>bDk h λx j h=>?_;obtain⟨y,n,rfl⟩:=mD h;exact .dset (hf j) (hf n) (hf b)
 |Attribute a m d=>
  refine bDk h λe b h=>gDk h λ_ h=>bDk h λz l h=>?_;obtain⟨x,j,rfl⟩:=mD h;obtain⟨q,g⟩:=fD l;refine aDk g λ_ hb=>?_;have:=qqx hb;subst this;exact .setA (hf j) (hf b) q
 |_=>exact nn h
def qmw(hf:Fo CkE c f)(g:∀ps,CkSs c (Bq ps) ps)(h:trS1 o f Bq c p=Y s):CkS c s p:=by
 cases p with
 |Assign ts p pos=>
  refine qx8 h λt k h=>?_;subst k;exact qgn hf h
 |Expr p pos=>
  refine gDk h λh1 h=>?_;obtain⟨e,d,rfl⟩:=mD h;exact .expr (hf d) λenv=>sw_ok h1 _ _ _
 |Return p pos=>
  refine bDk h λp l h=>?_;obtain⟨e,d,rfl⟩:=mD h;subst l;exact .ret (hf d)
 |If q a b pos=>
  obtain⟨e,d,rfl⟩:=mD h;exact .ite (hf d) (g _) (g _)
 |For tg it b r pos=>
  cases r with
  |cons _ _=>exact nn h
  |nil=>
   refine gDk h λ_ h=>gDk h λh1 h=>bDk h λt i h=>?_
   cases j:o (pk pos) / 2==1 with
   |true=>
    rw[j]at h;obtain⟨e,d,rfl⟩:=mD h;exact .ford (qcf i) (hf d) (g _)
   |false=>
    rw[j]at h;obtain⟨e,d,rfl⟩:=mD h;exact .forr (qcf i) (qi0 hf d) (λenv x=>qmt h1 _ _) (g _)
 |_=>exact nn h
theorem qk4(hf:TrO CkE f):∀n ps,CkSs c (trSs o f c n ps) ps
 |0,ps=>qk5 (λ_=>.bad) ps
 |n+1,ps=>qk5 (λp=>by
  cases h:trS1 o (f c) (trSs o f c n) c p with
  |none=>exact .bad
  |some s=>exact qmw (hf) (qk4 hf n) h) ps
noncomputable def argN(st:Stmt):L Y5:=(qqd st).args.map (·.arg)
noncomputable def locN(st:Stmt):L Y5:=argN st++((qza st).names.filter λy=>kL (Y y.2) && !((argN st).any (sq y.1))).map (·.1)
noncomputable def trFn(o:Y0->Y0)(names:L Y5)(glo:Glo)(st:Stmt):Fn:=
 ⟨(argN st).length,(locN st).length,trSs o (trE o 30) ⟨locN st,qza st,names,glo⟩ 12 (qzu st),Nat.ble 1 (o 0)⟩
noncomputable def scOk(st:Stmt):Bool:=(qza st).kind==.function && !(qza st).isCoroutine && !(qza st).isGenerator&&ndB (locN st)&&(argN st).all (λx=>kL (lk (qza st).names x))&&(qza st).names.all (λy=>y.2 != .free)
def qdw{st:Stmt}(h:scOk st=O):FnScope (locN st) (argN st) (qza st):=by
 refine aDk h λh c=>aDk h λh d=>aDk h λh e=>aDk h λh f=>aDk h λh1 h2=>?_;refine⟨eq_of_beq h1,by simpa using h2,by simpa using f,qay e,by unfold locN; rw[List.take_left],λx b=>?_,λy a=>?_⟩
 ·have:=kL_eq (Qzc.mp d x b);rwa [qwz]at this
 ·simpa using Qzc.mp c y a
abbrev Orc:=L (Y0×L Y0)
abbrev Rw:=Y3 Y7×Y5×Y5×Stmt×Orc
noncomputable def orc:Orc->Y0->Y0
 |[],_=>0
 |(v,l)::r,k=>bif l.any (k.beq ·) then v else orc r k
noncomputable def msT:Y0->L Rw->L (Y0×Y7×Y5)
 |_,[]=>[]
 |n,(Y C,m,_)::r=>(n,C,m)::msT (n+1) r
 |n,(B,_)::r=>msT (n+1) r
noncomputable def fnsT(names:L Y5)(glo:Glo)(t:L Rw):L Fn:=t.map λr=>trFn (orc r.2.2.2.2) names glo r.2.2.2.1
def ms_mem:∀{n},q∈msT n t->∃k r,q.1=n+k/\t[k]?=Y r/\r.1=Y q.2.1/\r.2.1=q.2.2:=by
 induction t with
 |nil=>exact λh=>nomatch h
 |cons a t b=>
  obtain⟨C,m,z⟩:=a;intro n h;have up:q∈msT (n+1) t->∃k r,q.1=n+k/\((C,m,z)::t)[k]?=Y r/\r.1=Y q.2.1/\r.2.1=q.2.2:=λh=>by
   obtain⟨k,r,e,w⟩:=b h;exact⟨k+1,r,by lia,w⟩
  cases C with
  |none=>exact up h
  |some C=>
   rcases Qqb.mp h with rfl|h
   ·exact⟨0,_,rfl,rfl,rfl,rfl⟩
   ·exact up h
abbrev Bd(r:Rw):Prop:=∀(kV doc pm:Y8) (an:Y3 Y7) (cdv ct:Y8) (us:L Y8),us.length=(argN r.2.2.2.1).length->bindArgs (PySem.W.fnOf r.2.1 r.2.2.1 (qqd r.2.2.2.1) (qzu r.2.2.2.1) (qza r.2.2.2.1) .none kV doc pm an cdv ct) ⟨us,[]⟩=pure ((argN r.2.2.2.1).zip us)
inductive RwK (K:Qqq):Rw->Prop
 |fn {x:Y5}{st:Stmt}{o:Orc}{f:Y7}{od an:Y3 Y7}{sl:Array (Y3 Y8)}{oc kV dc pm cd ct:Y8}(a:Qjw K mainGlobals x=Y (Y (.ref f))) (l:K.lookup f=Y ⟨oc,od,.func (PySem.W.fnOf x x (qqd st) (qzu st) (qza st) .none kV dc pm an cd ct),sl⟩) (c:PySem.W.codeIn K cd x=O) (k:Qz2 K (.ref f)=O):RwK K (B,x,x,st,o)
 |me {C:Y7}{m x:Y5}{st:Stmt}{o:Orc}{f:Y7}{od an:Y3 Y7}{sl:Array (Y3 Y8)}{oc kV dc pm cd ct:Y8}(a:PySem.W.findIn K (.ref C) m=Y (Y (.ref f))) (fn:PySem.W.isFn K (.ref f)=O) (l:K.lookup f=Y ⟨oc,od,.func (PySem.W.fnOf m x (qqd st) (qzu st) (qza st) .none kV dc pm an cd ct),sl⟩) (c:PySem.W.codeIn K cd x=O) (k:Qz2 K (.ref f)=O):RwK K (Y C,m,x,st,o)
noncomputable def rwOk(r:Rw):Bool:=scOk r.2.2.2.1&&(r.1.isNone||(qhn r.2.2.1).not)
def qgs{K:Qqq}(X:K.In h)(G:h.Ns mainGlobals mg)(d:glo.ms=msT 0 t)(hs:∀r∈t,RwK K r)(hb:∀r∈t,Bd r)(hc:t.all rwOk=O)(f)(x)(e:(t.map (·.2.2.1))[f]?=Y x):FText K mg (fnsT (t.map (·.2.2.1)) glo t) (t.map (·.2.2.1)) glo f x:=by
 rw[Qqw]at e;obtain⟨r,hr,rfl⟩:=mD e;have i:=Qqi hr;have g:(fnsT (t.map (·.2.2.1)) glo t)[f]?=Y (trFn (orc r.2.2.2.2) (t.map (·.2.2.1)) glo r.2.2.2.1):=by
  unfold fnsT;rw[Qqw,hr]
  rfl
 have d:∀C m,(f,C,m)∈glo.ms->r.1=Y C/\r.2.1=m:=λC m w=>by
  rw[d]at w;obtain⟨k,r',e,h1,h2⟩:=ms_mem w;obtain rfl:f=k:=e.trans (Qzp k);cases hr.symm.trans h1;exact h2
 refine aDk (Qzc.mp hc r i) λh1 h2=>?_;have b:=hb r i;have s:=qdw h1
 cases hs r i with
 |fn a l c k=>exact⟨_,_,_,_,_,_,_,g,qwc l c k,⟨λ_=>Qjd X G a,λC m w=>nomatch (d C m w).1⟩,(qwc l c k).binds b,s,qk4 (qys 30) 12 _,rfl,rfl⟩
 |@me C m x st o f p an sl q kV dc n u ct a fn l c k=>
  refine⟨_,_,_,_,_,_,_,g,qwc l c k,⟨λz=>?_,λC m w=>?_⟩,(qwc l c k).binds b,s,qk4 (qys 30) 12 _,rfl,rfl⟩
  ·have h2:=h2;rw[z]at h2;cases h2
  ·obtain⟨e,j⟩:=d C m w;cases e;cases j;exact⟨a,fn,k⟩
structure Vof (K:Qqq) (u:Y8) (d:D):Prop where
 ex:∃v,RelV v u/\∀m H,IsD K m H d v
structure Vsf (K:Qqq) (us:L Y8) (ds:L D):Prop where
 ex:∃vs,Vals vs us/\∀m H,IsDs K m H ds vs
structure Enf (prm:Qp) (K:Qqq) (es:L Q1) (ks:L Y5) (ds:L D):Prop where
 ex:∃us vs,EntOk prm es ks us/\Vals vs us/\∀m H,IsDs K m H ds vs
def vInt{K:Qqq}:Vof K (.int i t) (.int i):=⟨.int _,⟨_,rfl⟩,λm H=>mkInt _⟩
def vStr{K:Qqq}:Vof K (.str s t) (.str s):=⟨.str _,⟨_,rfl⟩,λm H=>mkStr _⟩
def vNil{K:Qqq}:Vsf K [] []:=⟨[],.nil,λ_ _=>qqk⟩
def vCons{K:Qqq}:Vof K u d->Vsf K us ds->Vsf K (u::us) (d::ds)
 |⟨v,a,b⟩,⟨vs,c,e⟩=>⟨v::vs,.cons a c,λm H=>qzo (b m H) (e m H)⟩
def vTup{K:Qqq}{gd:Y3 Y7}(h:K.lookup a=Y ⟨.type "tuple",gd,.seq vs.toArray b,gs⟩)(q:Vsf K vs ds)(n:Nat.ble vs.length sizeLine=O):Vof K (.ref a) (.tup ds):=by
 obtain⟨vs,c,d⟩:=q;exact⟨.ref _,rfl,λm H=>qq3 (.inr ⟨_,_,_,h,rfl,rfl,Nat.le_of_ble_eq_true n,c⟩) (d m H)⟩
def eNil{K:Qqq}:Enf a K [] [] []:=⟨[],[],.nil,.nil,λ_ _=>qqk⟩
def eCons{K:Qqq}:Vof K u d->Enf g K es ks ds->Enf g K (⟨PyData.keyHash g k,.str k t,u⟩::es) (k::ks) (d::ds)
 |⟨v,a,b⟩,⟨us,vs,e,c,f⟩=>⟨_,v::vs,.cons e,.cons a c,λm H=>qzo (b m H) (f m H)⟩
inductive GlK (K:Qqq) (q:Y5×D):Prop
 |mk {v:Y8}(g:Qjw K mainGlobals q.1=Y (Y v)) (h:Vof K v q.2):GlK K q
inductive GdK (prm:Qp) (K:Qqq) (q:Y5×L Y5×L D):Prop
 |mk {a:Y7}{es:L Q1}{ep:Y0}(g:Qjw K mainGlobals q.1=Y (Y (.ref a))) (l:K.lookup a=Y { cls:=.type "dict",data:=.dict es.toArray ep }) (h:Enf prm K es q.2.1 q.2.2) (n:(a==Qn)=Y6):GdK prm K q
noncomputable def gloOk(g:Glo):Bool:=(g.ats.all λq=>g.cl.any λz=>z.2==q.1)&&g.ds.all λq=>ndB q.2.1
def glo_mo{K:Qqq}(X:K.In h)(G:h.Ns mainGlobals mg)(hc:gloOk glo=O)(r:∀q∈glo.ds,GdK prm K q)(p:∀q∈glo.cs,GlK K q)(j:∀q∈glo.cl,ClK K q.1 q.2)(o:∀q∈glo.ats,PySem.W.findIn K (.ref q.1) q.2=Y B)(z:∀x∈bNm,Qjw K mainGlobals x=Y B):Mo K mg glo prm:=by
 refine aDk hc λc1 c2=>⟨λs C i=>(j _ i).mo X G,λC f i=>⟨?_,o _ i⟩,λx ks ds i=>?_,λx d i=>?_,λx i=>PySem.W.mg_none_of X G (z x i)⟩
 ·obtain⟨y,m,e⟩:=Qje.mp (Qzc.mp c1 _ i);have e:=eq_of_beq e;subst e;exact(j _ m).cls
 ·cases r _ i with
  |mk g l q n=>
   obtain⟨k,vs,e,c,d⟩:=q.ex;exact⟨_,Qjd X G g,⟨k,vs,_,_,l,e,c,d⟩,qay (Qzc.mp c2 _ i),n⟩
 ·cases p _ i with
  |mk g q=>
   obtain⟨v,a,b⟩:=q.ex;exact⟨_,v,Qjd X G g,a,b⟩
def law_mk{l:PySem.W.OpenLaw}{K:Qqq}{st:Stmt}(X:K.In h)(G:h.Ns mainGlobals mg)(d:mg x=Y (.ref f))(e:t[i]?=Y (B,x,x,st,o))(p:argN st=[y])(u:glo.ms=msT 0 t)(hb:∀r∈t,Bd r)(hc:(t.all rwOk&&gloOk glo)=O)(ok:∀ns:L J,ns.length<=63->∃st',M.callD (fnsT (t.map (·.2.2.1)) glo t) (n+1) i [.lst (ns.map D.int)] []=Y (.bl O,st'))(hs:∀r∈t,RwK K r)(H:∀q∈glo.ds,GdK w.params K q)(E:∀q∈glo.cs,GlK K q)(C:∀q∈glo.cl,ClK K q.1 q.2)(A:∀q∈glo.ats,PySem.W.findIn K (.ref q.1) q.2=Y B)(z:∀x∈bNm,Qjw K mainGlobals x=Y B):∃fd:Qm,(∀(s:Qz) (v:Y8),BindsTo s fd ⟨[v],[]⟩ [(y,v)])/\∀base:Heap,K.In base->base.Ns mainGlobals mg->FnOk l.prog w K mg base CX0 (2*(n+1)) f fd [y] (qmm K):=by
 refine aDk hc λc1 c2=>?_;have g:=glo_mo X G c2 H E C A z;have T:=qgs X G u hs hb c1;have j:=Qqi e;have b:=hb _ j;have s:=qdw (aD (Qzc.mp c1 _ j)).1
 cases hs _ j with
 |fn a m c k=>
  cases d.symm.trans (Qjd X G a);have F:=λbase=>(qlo (P:=l.prog) (base:=base) (tab_ok T g _) g (by unfold fnsT; rw[Qqw,e]; rfl) (qwc m c k) s (qk4 (qys 30) 12 _) rfl rfl).imp (law_sp ok);have b:=b;dsimp only[Bd]at b;rw[p]at F b;exact⟨_,λs v=>.of_eq (b _ _ _ _ _ _ [v] rfl),λbase _ _=>F base⟩
end MS
end
open M.D renaming int->Z,loc->Y1,tup->Y9,lst->Yc
open M.Ya renaming lst->Y4
open M.E renaming var->Yd
section
namespace K50
open PySem L2 MS
open M (D Fn)
noncomputable abbrev tF(x:Y5)(i:Y0)(l:Orc):Rw:=(B,x,x,top i,l)
noncomputable abbrev tM(C:Y7)(m x:Y5)(i j:Y0)(l:Orc):Rw:=(Y C,m,x,cb (top i) j,l)
noncomputable def tab:L Rw:=[tF "bounds" 21 [],
 tF "fits" 22 [],
 tF "all_fit" 23 [(1,[44015079]),(2,[44028039])],
 tF "is_cell" 24 [(1,[46040072])],
 tF "good_steps" 25 [(1,[48040081])],
 tF "good_outcrops" 26 [(1,[52015059])],
 tF "sound_vein" 27 [],
 tF "numbers_agree" 28 [],
 tF "sound" 29 [(1,[68011049])],
 tF "inside" 35 [],
 tF "has_one" 36 [(1,[77015052])],
 tF "can_part" 37 [],
 tF "parted" 38 [],
 tF "in_ground" 39 [],
 tF "counted" 41 [],
 tF "through" 42 [(1,[100011030])],
 tM 301 "__init__" "Claim.__init__" 44 0 [(608,[105008018,106008019,107008017,108008017,109008019,110008018])],
 tM 301 "piece" "Claim.piece" 44 1 [(608,[113042051,113054063,114008020,114023034])],
 tM 301 "state" "Claim.state" 44 3 [(608,[123011021,125017026,127011022])],
 tM 383 "__init__" "Claims.__init__" 45 0 [(772,[133008017,134008017,135008016])],
 tM 383 "names" "Claims.names" 45 1 [(772,[138020029])],
 tM 383 "named" "Claims.named" 45 2 [(2,[141011032,143015030]),(772,[141023032,143015024])],
 tM 383 "standing" "Claims.standing" 45 3 [(772,[146033041,146045054]),(2,[146045060]),(608,[146045071])],
 tM 383 "stake" "Claims.stake" 45 4 [(772,[149008017,149059068,150008037]),(2,[149008022]),(1,[149070075])],
 tM 383 "vest" "Claims.vest" 45 5 [(772,[153016025,156012020]),(2,[153016031]),(608,[154011027,154054066,155012024])],
 tM 383 "vest_all" "Claims.vest_all" 45 6 [(773,[159020032]),(772,[160012042])],
 tM 383 "change" "Claims.change" 45 7 [(2,[164011032,166016031]),(772,[164023032,166016025,170019039,173033042]),(608,[167011027,172012022,173012022,173044054,175012023,177012023])],
 tM 383 "part" "Claims.part" 45 8 [(772,[181016025,186008017,188012020,188028036]),(2,[181016034,186008022]),(608,[182024036,185008020,186025056,187011023])],
 tF "climbed" 48 [],
 tF "met_columns" 49 [(1362,[211012028,212012030,215022034]),(2,[214037050])],
 tF "columns_at" 50 [(1362,[218021033]),(1363,[222016029]),(2,[223008017,224051060]),(1,[224021061])],
 tF "ground_of" 52 [(1362,[228011029])],
 tF "outcrop" 53 [(1362,[230011030])],
 tF "outcrops" 54 [],
 tF "covers" 55 [],
 tF "standing_grounds" 57 [(1363,[237058074])],
 tF "ranked" 58 [],
 tF "heirs" 59 [(1,[248012052,248028051,249018041])],
 tF "first_claim" 60 [],
 tF "title" 61 [(1,[253023041])],
 tF "check_district" 69 [],
 tF "check_day" 70 [],
 tM 678 "__init__" "Field.__init__" 71 0 [(1,[0]),(1362,[277008019,278008017,279008016,280008018,281008019,282008019,283008016,284008018]),(4,[283019021])],
 tM 678 "enter" "Field.enter" 71 1 [(1,[0]),(1362,[288021032,290018026,292008016,293015032])],
 tM 678 "answer" "Field.answer" 71 2 [(1362,[297019040,299019040,301019041,303019039,305019039,306015026,306034042]),(772,[306015049])],
 tM 678 "enter_vein" "Field.enter_vein" 71 3 [(1362,[309008018,309019027,310008019,310029037]),(2,[309008028]),(772,[310008047])],
 tM 678 "enter_join" "Field.enter_join" 71 4 [(2,[316011033,316037060,320011030,322008025]),(1362,[316023033,316050060,320019030,322008019])],
 tM 678 "enter_stake" "Field.enter_stake" 71 5 [(2,[327008048,328028044]),(1362,[327020030,328028038,329008019,329026034]),(772,[329008065])],
 tM 678 "pass_to" "Field.pass_to" 71 10 [(1,[0]),(1362,[357017025,359008016])],
 tM 678 "size" "Field.size" 71 12 [(1362,[365015026])],
 tM 678 "veins" "Field.veins" 71 14 [(1362,[371020030])],
 tM 678 "vein" "Field.vein" 71 16 [(2,[377011033,379015031]),(1362,[377023033,379015025])],
 tM 678 "joined" "Field.joined" 71 17 [(2,[382011033]),(1362,[382023033,384015026])],
 tM 678 "claim" "Field.claim" 71 18 [(1362,[387016027]),(772,[387016039]),(608,[388016027,388029041,388043053,388055067,388069080])],
 tM 678 "standing" "Field.standing" 71 21 [(1362,[397015026,397036044]),(772,[397015045])],
 tM 807 "__init__" "Diary.__init__" 73 0 [(1,[0]),(1620,[416008019,417008017,418008017,419008017,420008017])],
 tM 807 "tell" "Diary.tell" 73 1 [(1620,[424021032,426018027,428008041,429008017]),(2,[426011027])],
 tM 807 "strike" "Diary.strike" 73 2 [(1,[0]),(1620,[432008056,432037054,433008017])],
 tM 807 "perform" "Diary.perform" 73 5 [(1,[0]),(1620,[442008041,443008017])],
 tM 807 "put" "Diary.put" 73 6 [(1620,[447012021,449012021]),(2,[447012030,449012034])],
 tM 807 "fact_on" "Diary.fact_on" 73 7 [(2,[453011031,455015029]),(1620,[453022031,455015024])],
 tM 807 "facts" "Diary.facts" 73 9 [(1620,[461022031,461056065]),(2,[461022036]),(1,[461049066])],
 tM 807 "field" "Diary.field" 73 13 [(1,[0]),(1620,[474016033]),(1362,[475008026])],
 tM 807 "entered" "Diary.entered" 73 14 [(1620,[479022033,479038049,479054065,479070079]),(1621,[480025037]),(1362,[482016038])],
 tM 807 "known" "Diary.known" 73 15 [(1620,[486032041,488022033,488038049,488054065,488070079,489020029,490012031]),(1,[489020036])],
 tM 807 "twin" "Diary.twin" 73 16 [(1620,[494016042,494031040,495008018,495026035])],
 tF "_law_draw" 75 [],
 tF "_law_same" 76 [(1,[517024108,517025072])],
 tF "_law_size" 77 [(1,[526017101,527017111,527030111])],
 tF "_law_term" 78 [(1,[531011085])],
 tF "_law_spots" 79 [],
 tF "_law_rect" 80 [(1,[538013127,538020126,539013131,539020130])],
 tF "_law_steps" 81 [(1,[542017125,542018039])],
 tF "_law_outs" 82 [(1,[548072085])],
 tF "_law_who" 83 [(1,[554054073])],
 tF "_law_pick" 84 [],
 tF "_law_vein" 85 [(1,[560075124])],
 tF "_law_claim_fact" 86 [(1,[568011129])],
 tF "_law_fact" 87 [(1,[571017105,572017116])],
 tF "_law_plan" 88 [(1,[582016029])],
 tF "_law_end" 89 [(1,[593016132])],
 tF "_law_diary" 90 [(1620,[598008054])],
 tF "_law_turned" 91 [],
 tF "_law_family" 92 [],
 tF "_law_some_spots" 93 [(1,[613022048])],
 tF "_law_without" 94 [(1,[617032111])],
 tF "law" 95 [(1,[621021097,622018107,624025044,624025080,624047080,625022027,627023062,628065108,634011125,634048124,636021068,637019051,638028060,640021105,640021114,640108114,641015073]),(1620,[629017039,630004033,632019050,632052078]),(1363,[633017042,634021046])]]
noncomputable def names:L Y5:=tab.map (·.2.2.1)
noncomputable def glo:Glo:=⟨[("COINS",.tup [.int 1,.int 1000000]),("DAYS",.tup [.int 1,.int 400]),("DEPTHS",.tup [.int 0,.int 12]),("FOLK",.tup [.int 1,.int 40]),("LEFT",.int 0),("LENGTHS",.tup [.int 1,.int 24]),("LINES",.tup [.int 1,.int 23]),("LOW",.int 3),("MOST_COLUMNS",.int 16),("MOVES",.tup [.tup [.int 0,.int 0],.tup [.int 1,.int 0],.tup [.int (-1),.int 0],.tup [.int 0,.int 1],.tup [.int 0,.int (-1)]]),("RIGHT",.int 2),("SIDES",.tup [.int 0,.int 1]),("STEPS",.tup [.int 0,.int 4]),("TERMS",.tup [.int 1,.int 400]),("TOP",.int 1)],[("ASKS",["join","stake","work","sell","part","give","dig","pay"],[.tup [.str "day",.str "day",.str "below"],.tup [.str "folk",.str "x",.str "y",.str "x",.str "y"],.tup [.str "day"],.tup [.str "day",.str "folk"],.tup [.str "day",.str "side",.str "line",.str "folk"],.tup [.str "day"],.tup [.str "folk",.str "x",.str "y",.str "x",.str "y",.str "floor",.str "coins"],.tup [.str "folk",.str "folk",.str "coins"]])],msT 0 tab,[("Claim",301),("Claims",383),("Field",678),("Diary",807)],[(301,"days"),(301,"given"),(301,"ground"),(301,"last"),(301,"owner"),(301,"vested"),(383,"book"),(383,"row"),(383,"year"),(678,"day"),(678,"debts"),(678,"dug"),(678,"extent"),(678,"found"),(678,"joints"),(678,"staked"),(678,"year"),(807,"back"),(807,"done"),(807,"extent"),(807,"kept"),(807,"year")]⟩
noncomputable def fns:L Fn:=fnsT names glo tab
end K50
end
section
namespace K50
open PySem (Str)
open M
noncomputable abbrev qh6:Nat:=9
noncomputable abbrev sO(x:String):D:=.str (Str.ofString x)
structure Cl where
 nm:J
 j:Y0
 o:J
 g:J×J×J×J
 ds:L J
 la:J
 v:Y3 J
 gv:Y3 J
noncomputable def oD:Y3 J->D
 |none=>.non
 |some i=>.int i
noncomputable def rD(g:J×J×J×J):D:=.tup [.int g.1,.int g.2.1,.int g.2.2.1,.int g.2.2.2]
noncomputable def Cl.cel(c:Cl)(x:D):Ya:=.obj 301 [("owner",.int c.o),("ground",rD c.g),("days",x),("last",.int c.la),("vested",oD c.v),("given",oD c.gv)]
noncomputable abbrev Cl.cell(c:Cl):Ya:=c.cel (.loc (c.j+8))
noncomputable def Cl.dl(c:Cl):Ya:=.lst O (c.ds.map .int)
structure Zt where
 s:D
 dg:L (D×D)
 es:L D
noncomputable def FS(sz:Zt)(T d:J)(fo jo bo:L (D×D))(ro:L D)(rest:Y2):Y2:=
 .obj 678 [("extent",sz.s),("year",.int T),("day",.int d),("found",.loc 1),("joints",.loc 2),("staked",.loc 3),("dug",.loc 6),("debts",.loc 7)]::.dic O fo::.dic O jo::.obj 383 [("year",.int T),("book",.loc 4),("row",.loc 5)]::.dic O bo::.lst O ro::.dic O sz.dg::.lst O sz.es::rest
def isN(h:o=B):isNon (oD o)=true:=by rw[h]; rfl
def isS(h:o=Y x):isNon (oD o)=false:=by rw[h]; rfl
def nnN(h:o=B):(!isNon (oD o))=false:=by rw[h]; rfl
def nnS(h:o=Y x):(!isNon (oD o))=true:=by rw[h]; rfl
section
variable {sz:Zt}{T d:J}{fo jo bo:L (D×D)}{ro:L D}{rest:Y2}
noncomputable def stW(c:Cl)(day:J):String:=if c.gv.isSome then "given" else if c.la<day then "fallen" else if c.v.isNone then "unvested" else "stands"
def qi3(m){S:Y2}(c)(day)(h:S[p]?=Y (c.cel y)):callD fns (m+1) 18 [Y1 p,Z day] S=Y (sO (stW c day),S):=by
 unfold stW
 cases a:c.gv with
 |some x=>
  exact qzz 0 [] 1 (λq=>_/\_/\q) [.r (c.cel y),.b O] ⟨h,nnS a,rfl⟩
 |none=>
  by_cases hl:c.la<day
  ·rw[Z6 hl];exact qzz 0 [] 1 (λq=>_/\_/\_/\_/\q) [.r (c.cel y),.b Y6,.r (c.cel y),.b O] ⟨h,nnN a,h,Z3 hl,rfl⟩
  ·rw[Z5 hl]
   cases hv:c.v with
   |none=>exact qzz 0 [] 1 (λq=>_/\_/\_/\_/\_/\_/\q) [.r (c.cel y),.b Y6,.r (c.cel y),.b Y6,.r (c.cel y),.b O] ⟨h,nnN a,h,Z4 hl,h,isN hv,rfl⟩
   |some x=>exact qzz 0 [] 1 (λq=>_/\_/\_/\_/\_/\_/\q) [.r (c.cel y),.b Y6,.r (c.cel y),.b Y6,.r (c.cel y),.b Y6] ⟨h,nnN a,h,Z4 hl,h,isS hv,rfl⟩
def qqr(m)(c)(day)(h:rest[c.j+1]?=Y c.cell):callD fns (m+1) 18 [Y1 (c.j+9),Z day] (FS sz T d fo jo bo ro rest)=Y (sO (stW c day),FS sz T d fo jo bo ro rest):=qi3 m c day h
end
noncomputable def cD(p:J×J):D:=.tup [.int p.1,.int p.2]
noncomputable def inB(g:J×J×J×J)(p:J×J):Bool:=decide (g.1<=p.1)&&decide (p.1<=g.2.2.1)&&(decide (g.2.1<=p.2)&&decide (p.2<=g.2.2.2))
def qoi(hf:f=9\/f=qh6)(m)(st)(g)(p):callD fns (m+1) f [rD g,cD p] st=Y (.bl (inB g p),st):=by
 unfold inB
 by_cases h1:g.1<=p.1
 ·by_cases h2:p.1<=g.2.2.1
  ·by_cases a:g.2.1<=p.2
   ·by_cases b:p.2<=g.2.2.2
    ·rw[Z3 h1,Z3 h2,Z3 a,Z3 b];rcases hf with rfl|rfl<;>exact qzz 0 [] 1 (λq=>_/\_/\_/\_/\q) [.b O,.b O,.b O,.b O] ⟨Z3 h1,Z3 h2,Z3 a,Z3 b,rfl⟩
    ·rw[Z3 h1,Z3 h2,Z3 a,Z4 b];rcases hf with rfl|rfl<;>exact qzz 0 [] 1 (λq=>_/\_/\_/\_/\q) [.b O,.b O,.b O,.b Y6] ⟨Z3 h1,Z3 h2,Z3 a,Z4 b,rfl⟩
   ·rw[Z3 h1,Z3 h2,Z4 a,Bool.false_and];rcases hf with rfl|rfl<;>exact qzz 0 [] 1 (λq=>_/\_/\_/\q) [.b O,.b O,.b Y6] ⟨Z3 h1,Z3 h2,Z4 a,rfl⟩
  ·rw[Z3 h1,Z4 h2];rcases hf with rfl|rfl<;>exact qzz 0 [] 1 (λq=>_/\_/\q) [.b O,.b Y6] ⟨Z3 h1,Z4 h2,rfl⟩
 ·rw[Z4 h1];rcases hf with rfl|rfl<;>exact qzz 0 [] 1 (λq=>_/\q) [.b Y6] ⟨Z4 h1,rfl⟩
def qwy(m)(st)(g)(p):callD fns (m+1) 9 [rD g,cD p] st=Y (.bl (inB g p),st):=qoi ?qp m st g p
theorem asB:∀bs:L Yb,asBools (bs.map .bl)=Y bs
 |[]=>rfl
 |b::r=>by show(asBools (r.map .bl)).map (b::·)=_; rw[asB r]; rfl
def nlB(bs:L Yb):noLocs (bs.map .bl)=true:=qzy λ_ _=>rfl
def qw5(h:τ[i]?=Y (Y q))(a:rowAt st q=Y ds):∃s,src (RL c) τ st (.var i)=Y (s,st)/\(∀i,s.at st i=Y ds[i]?)/\s.size st=ds.length:=by
 have e:=qqg c τ st (.var i) (q,st) (by show(match τ[i]? with|some (Y d)=>Y (d,st)|_=>B)=_; rw[h])
 cases q with
 |tup xs=>
  cases a;exact⟨.tup ds,by show((RL c).ev τ st (.var i)).bind _=_; rw[e]; rfl,λi=>rfl,rfl⟩
 |lst xs=>
  have a:=a;exact⟨.lst (.lst xs),by show((RL c).ev τ st (.var i)).bind _=_; rw[e]; rfl,qqq a,qzn a⟩
 |loc l=>
  have a:seqAt st (Y1 l)=Y ds:=a;exact⟨.lst (Y1 l),by show((RL c).ev τ st (.var i)).bind _=_; rw[e]; show(seqAt st (Y1 l)).map _=_; rw[a]; rfl,qqq a,qzn a⟩
 |_=>cases a
def qyi{α:Type}(xs:L α)(f g:α->D)(h:τ[i]?=Y (Y q))(m:rowAt st q=Y (xs.map f))(hl:xs.length<lim)(b:inner sr τ=B::a)(n:∀x∈xs,(RL c).ev (Y (f x)::a) st elt=Y (g x,st)):
  stepEv (RL c) τ st (.comp ?L (Yd i) B elt sr)=Y (Y1 st.length,st++[Y4 O (xs.map g)]):=by
 obtain⟨s,h1,h2,o⟩:=qw5 h m;refine qxf h1 h2 o b (by simp) (by simpa using hl) λk d e hd j=>?_;rw[Qqw]at hd j;obtain⟨x,l,rfl⟩:=Qqa.mp hd;rw[l]at j;cases j;exact n x (Qqi l)
noncomputable def hasB(g:J×J×J×J)(ps:L (J×J)):Bool:=ps.any (inB g)
def qlm(m)(a:rowAt st q=Y ?i)(hl:ps.length<lim):callD fns (m+2) 10 [rD g,q] st=Y (.bl (hasB g ps),st):=by
 have h1:=qyi (c:=callD fns (m+1)) (τ:=[Y (rD g),Y q]) (i:=1) (elt:=.call 9 [Yd 1,Yd 0]) (sr:=[B,Y 0]) ps cD (λp=>.bl (inB g p)) rfl a hl rfl λp _=>qzc 0 [9] 1 (λq=>_/\q) [.c (.bl (inB g p),st)] ⟨qwy m st g p,rfl⟩;have e:ps.map (λp=>D.bl (inB g p))=(ps.map (inB g)).map .bl:=by rw[Qqp]; rfl
 rw[e]at h1;have b:bfun st .any [Yc ((ps.map (inB g)).map .bl)]=Y (.bl (hasB g ps),st):=by
  show(asBools _).map _=_;rw[asB];simp[hasB,List.any_map,Function.comp_def]
 exact qzz 0 [] 2 (λq=>_/\_/\_/\q) [.c (Y1 st.length,st++[Y4 O ((ps.map (inB g)).map .bl)]),.l ((ps.map (inB g)).map .bl),.c (.bl (hasB g ps),st)] ⟨h1,qzv (st:=st) (nlB (ps.map (inB g))),b,rfl⟩
def gl{c:Ya}:(st++[c])[st.length]?=Y c:=by simp
def sl{c:Ya}:(st++[c]).set st.length c'=st++[c']:=by simp
def qqw{ds:L D}(P:Y0->Sl->Y2->Prop)(h:src (RL c) τ st it=Y (s,st))(g:s.size st=ds.length)(f:∀k τ' st',P k τ' st'->s.at st' k=Y ds[k]?)(i:P 0 τ st)(hs:∀k τ' st' d,ds[k]?=Y d->P k τ' st'->∃a b,((setT t d τ').bind λe=>(RL c).ex e st' body)=Y (.nx a,b)/\P (k+1) a b):
  ∃τ' st',stepEx (RL c) τ st (.forr t it body)=Y (.nx τ',st')/\P ds.length τ' st':=by
 obtain⟨τ',st',l,j⟩:=qab P i g f hs;refine⟨τ',st',?_,j⟩;show(src (RL c) τ st it).bind _=_;rw[h];exact l
def qa0(P:Y0->Sl->Y2->Prop)(h:τ[i]?=Y (Y q))(n:P 0 τ st)(j:∀k τ' st',P k τ' st'->rowAt st' q=Y ds)(hs:∀k τ' st' d,ds[k]?=Y d->P k τ' st'->∃b f,((setT t d τ').bind λg=>(RL c).ex g st' body)=Y (.nx b,f)/\P (k+1) b f):
  ∃τ' st',stepEx (RL c) τ st (.forr t (.var i) body)=Y (.nx τ',st')/\P ds.length τ' st':=by
 have e:=qqg c τ st (.var i) (q,st) (by show(match τ[i]? with|some (Y d)=>Y (d,st)|_=>B)=_; rw[h]);have a:∀s:Src,src (RL c) τ st (.var i)=Y (s,st)->s.size st=ds.length->(∀k τ' st',P k τ' st'->s.at st' k=Y ds[k]?)->∃τ' st',stepEx (RL c) τ st (.forr t (.var i) body)=Y (.nx τ',st')/\P ds.length τ' st':=λs h1 h2 o=>qqw P h1 h2 o n hs;have h1:=j 0 τ st n
 cases q with
 |tup xs=>
  cases h1;exact a (.tup ds) (by show((RL c).ev τ st (.var i)).bind _=_; rw[e]; rfl) rfl λk τ' st' _=>rfl
 |lst xs=>
  exact a (.lst (.lst xs)) (by show((RL c).ev τ st (.var i)).bind _=_; rw[e]; rfl) (qzn h1) λk τ' st' m=>qqq (show seqAt st' (.lst xs)=_ from j k τ' st' m) k
 |loc l=>
  have h1:seqAt st (Y1 l)=Y ds:=h1;exact a (.lst (Y1 l)) (by show((RL c).ev τ st (.var i)).bind _=_; rw[e]; show(seqAt st (Y1 l)).map _=_; rw[h1]; rfl) (qzn h1) λk τ' st' m=>qqq (show seqAt st' (Y1 l)=_ from j k τ' st' m) k
 |_=>cases h1
def qyy{ks:L J}(h):idxD (st++[.lst w (ks.map Z)]) ?G (Z (-1))=Y (Z (ks.getLast h)):=by
 have hl:=Qxs.mpr h;show(seqAt (st++[.lst w (ks.map Z)]) ?G).bind _=_;have:seqAt (st++[.lst w (ks.map Z)]) ?G=Y (ks.map Z):=by show listAt _ _=_; unfold listAt; rw[gl]
 rw[this];show atI (ks.map D.int) (-1)=_;unfold atI ixN;rw[Z5 (by decide),Z6 (by simp; lia)];simp only[oBs,Qqz];rw[show(-1+(ks.length:J)).toNat=ks.length - 1 by lia,Qqw,List.getLast_eq_getElem,Qqd (by lia)]
 rfl
noncomputable def chS(T:J)(ks:L J)(x:J):L Int:=if h:ks=[] then [x] else if x<=ks.getLast h+T then ks++[x] else ks
def chS_ne(T)(ks)(x):chS T ks x≠[]:=by
 unfold chS
 split
 ·exact List.cons_ne_nil _ _
 ·rename_i h
  split
  ·simp
  ·exact h
theorem ql3{T:J}:∀{xs ks},xs≠[]\/ks≠[]->xs.foldl (chS T) ks≠[]
 |[],_,h=>h.resolve_left λz=>z rfl
 |x::r,ks,_=>ql3 (xs:=r) (.inr (chS_ne T ks x))
def qb6(m){T:J}{xs:L J}(hl:xs.length<1000)(u:∀r,rowAt (st++r) q=Y (xs.map Z)):callD fns (m+1) 14 [Z T,q] st=Y (Y1 st.length,st++[Y4 O ((xs.foldl (chS T) []).map Z)]):=by
 obtain⟨τ',st',h1,k,o,ks,rfl,rfl,s,v⟩:=qa0 (c:=callD fns m) (i:=1) (t:=.var 3) (body:=[.ite (.or (.not (.var 2)) (.cmp .LtE (.var 3) (.bin .Add (.idx (.var 2) (.neg (.lit (Z 1)))) ?L))) [.expr (.meth (.var 2) .append [.var 3])] []])
  (λk τ' st'=>k<=xs.length/\∃o ks,τ'=[Y (Z T),Y q,Y ?G,o]/\st'=st++[Y4 O ((ks:L J).map Z)]/\ks=(xs.take k).foldl (chS T) []/\ks.length<=k)
  rfl ⟨Qzl _,B,[],rfl,rfl,rfl,Qqv _⟩ (λk τ' st' h=>by obtain⟨_,o,ks,_,rfl,_⟩:=h; exact u _) (λk τ' st' d hd h=>by
   obtain⟨hk,o,ks,rfl,rfl,h1,h2⟩:=h;rw[Qqw]at hd;obtain⟨x,l,rfl⟩:=Qqa.mp hd;have g:=(Qqk.mp l).1;have tk:(xs.take (k+1)).foldl (chS T) []=chS T ks x:=by rw[Qj2,l,Qx6,<- h1]; rfl
   have f:(ks.map D.int).length<lim:=by simp; unfold lim; lia
   have p:(st++[Ya.lst O (ks.map Z)]).set st.length (Y4 O (ks.map Z++[Z x]))=st++[Y4 O ((ks++[x]).map Z)]:=by rw[sl]; simp
   have j:=gl (st:=st) (c:=Y4 O (ks.map Z))
   by_cases e:ks=[]
   ·subst e;exact⟨[Y (Z T),Y q,Y ?G,Y (Z x)],(st++[Ya.lst O []]).set st.length (Y4 O [Z x]),qze 0 [] 0 (λq=>_/\_/\_/\_/\q) [.r (Y4 O []),.k,.r (Y4 O []),.r (Y4 O []),.b O] ⟨j,j,j,Z3 f,rfl⟩,g,Y (Z x),[x],rfl,sl,tk.symm,by simp⟩
   ·have n:(!(ks.map D.int).isEmpty)=true:=by cases ks with|nil=>exact absurd rfl e|cons a b=>rfl
    by_cases hc:x<=ks.getLast e+T
    ·exact⟨[Y (Z T),Y q,Y ?G,Y (Z x)],(st++[Ya.lst O (ks.map Z)]).set st.length (Y4 O (ks.map Z++[Z x])),qze 0 [] 0 (λq=>_/\_/\_/\_/\_/\_/\_/\q) [.r (Y4 O (ks.map Z)),.b O,.i (Z (ks.getLast e)),.b O,.r (Y4 O (ks.map Z)),.r (Y4 O (ks.map Z)),.b O] ⟨j,n,qyy (st:=st) (w:=O) e,Z3 hc,j,j,Z3 f,rfl⟩,g,Y (Z x),ks++[x],rfl,p,by rw[tk]; unfold chS; rw[dif_neg e,Z6 hc],by simp; lia⟩
    ·exact⟨[Y (Z T),Y q,Y ?G,Y (Z x)],st++[Y4 O (ks.map Z)],qze 0 [] 0 (λq=>_/\_/\_/\_/\q) [.r (Y4 O (ks.map Z)),.b O,.i (Z (ks.getLast e)),.b Y6] ⟨j,n,qyy (st:=st) (w:=O) e,Z4 hc,rfl⟩,g,Y (Z x),ks,rfl,rfl,by rw[tk]; unfold chS; rw[dif_neg e,Z5 hc],by lia⟩)
 rw[Qqz,Qzg]at s;rw[<- s];exact qzz 0 [] 1 (λq=>_/\q) [.s (.nx [Y (Z T),Y q,Y ?G,o],st++[Y4 O (ks.map Z)])] ⟨h1,rfl⟩
def nlI(ks:L J):noLocs (ks.map Z)=true:=qzy λ_ _=>rfl
noncomputable def thr(T:J)(xs:L J):Int:=(xs.foldl (chS T) []).getLast?.getD 0+T
def qkf(m){T:J}(a:xs≠[])(hl:xs.length<1000)(b:∀r,rowAt (st++r) q=Y (xs.map Z)):callD fns (m+2) 15 [Z T,q] st=Y (Z (thr T xs),st):=by
 have h2:=qb6 m (T:=T) hl b;have h1:=ql3 (T:=T) (xs:=xs) (ks:=[]) (.inl a);unfold thr;generalize xs.foldl (chS T) []=ks at h1 h2;rw[Qju h1];have e:idxD st (.lst (ks.map Z)) (Z (-1))=Y (Z (ks.getLast h1)):=by
  have:=qyy (st:=[]) (w:=O) h1;exact this
 exact qzz 0 [14] 2 (λq=>_/\_/\_/\q) [.c (Y1 st.length,st++[Y4 O (ks.map Z)]),.l (ks.map Z),.i (Z (ks.getLast h1))] ⟨h2,qzv (st:=st) (nlI ks),e,rfl⟩
noncomputable def ik(st:Y2)(C:Y0)(F:L (Y5×D)):Y0->Y2
 |0=>st++[.obj C (F.take 0)]
 |k+1=>(ik st C F k).set st.length (.obj C (F.take (k+1)))
theorem qoo:∀k,ik st C F k=st++[.obj C (F.take k)]
 |0=>rfl
 |k+1=>by show(ik st C F k).set _ _=_; rw[qoo k,sl]
def ik_at(k):(ik st C F k)[st.length]?=Y (.obj C (F.take k)):=by rw[qoo k,gl]
noncomputable def clF(o:J)(g:J×J×J×J)(dl:D)(la:J):L (Y5×D):=[("owner",.int o),("ground",rD g),("days",dl),("last",.int la),("vested",.non),("given",.non)]
def cinit(m)(st)(o la)(g)(dl):callD fns (m+1) 16 [Y1 st.length,Z o,rD g,dl,Z la] (st++[.obj 301 []])=Y (.non,st++[.obj 301 (clF o g dl la)]):=by
 have h:=λk=>ik_at (st:=st) (C:=301) (F:=clF o g dl la) k;exact qjb 0 [] 1 (.non,ik st 301 (clF o g dl la) 6) (λq=>_/\_/\_/\_/\_/\_/\q) [.r (.obj 301 ((clF o g dl la).take 0)),.r (.obj 301 ((clF o g dl la).take 1)),.r (.obj 301 ((clF o g dl la).take 2)),.r (.obj 301 ((clF o g dl la).take 3)),.r (.obj 301 ((clF o g dl la).take 4)),.r (.obj 301 ((clF o g dl la).take 5))] ⟨h 0,h 1,h 2,h 3,h 4,h 5,by rw[qoo]; rfl⟩
structure InvK (K:Cl->Ya) (rest:Y2) (cs:L Cl):Prop where
 at_:∀c∈cs,rest[c.j]?=Y c.dl/\rest[c.j+1]?=Y (K c)
 pw:cs.Pairwise λa b=>a.j+1<b.j
 ne:∀c∈cs,c.ds≠[]/\c.ds.length<900
 nd:(cs.map (·.nm)).Nodup
abbrev Inv:=InvK Cl.cell
noncomputable def qzh(cs:L Cl):L (D×D):=cs.map λc=>(.int c.nm,.loc (c.j+9))
def InvK.inj(h:InvK K rest cs)(g:a∈cs)(hb:b∈cs)(e:a.nm=b.nm):a=b:=by
 have:=h.nd;clear h
 induction cs with
 |nil=>cases g
 |cons c r i=>
  rw[Qqg,Qze]at this;rcases Qqb.mp g with rfl|f<;>rcases Qqb.mp hb with rfl|d
  ·rfl
  ·exact absurd (Qqj.mpr ⟨b,d,e.symm⟩) this.1
  ·exact absurd (Qqj.mpr ⟨a,f,e⟩) this.1
  ·exact i f d this.2
def qwi(a)(r)(n):dget (qzh (a::r)) (Z n)=bif a.nm==n then Y (Y1 (a.j+9)) else dget (qzh r) (Z n):=by
 unfold dget qzh;rw[Qqg,Qzq];show Option.map _ (match (a.nm==n) with|true=>_|false=>_)=_;cases a.nm==n<;>rfl
def qo9(h:∀c∈cs,c.nm≠n):dget (qzh cs) (Z n)=none:=by
 induction cs with
 |nil=>rfl
 |cons c r a=>
  rw[qwi,beq_false_of_ne (h c (.head _))];exact a λc hc=>h c (.tail _ hc)
def qia(h:c∈cs)(b:(cs.map (·.nm)).Nodup):dget (qzh cs) (Z c.nm)=Y (Y1 (c.j+9)):=by
 induction cs with
 |nil=>cases h
 |cons a r d=>
  rw[qwi];rw[Qqg,Qze]at b;rcases Qqb.mp h with rfl|h'
  ·rw[beq_self_eq_true]; rfl
  ·rw[beq_false_of_ne λe=>b.1 (Qqj.mpr ⟨c,h',e.symm⟩)];exact d h' b.2
def InvK.get(h:InvK K rest cs)(hc:c∈cs):dget (qzh cs) (Z c.nm)=Y (Y1 (c.j+9)):=qia hc h.nd
def InvK.apart(h:InvK K rest cs)(g:a∈cs)(hb:b∈cs)(e:a.nm≠b.nm):a.j+1<b.j\/b.j+1<a.j:=by
 have:=h.pw;clear h
 induction cs with
 |nil=>cases g
 |cons c r i=>
  rw[Qxa]at this;rcases Qqb.mp g with rfl|f<;>rcases Qqb.mp hb with rfl|d
  ·exact absurd rfl e
  ·exact .inl (this.1 b d)
  ·exact .inr (this.1 a f)
  ·exact i f d this.2
noncomputable def upd(cs:L Cl)(c':Cl):L Cl:=cs.map λx=>if x.nm=c'.nm then c' else x
def qjj(hc:c∈cs)(a:(cs.map (·.nm)).Nodup)(e:c'.nm=c.nm)(j:c'.j=c.j):qzh (upd cs c')=qzh cs:=by
 unfold qzh upd;rw[Qqp];refine Qz5 λx f=>?_;show(D.int (if x.nm=c'.nm then c' else x).nm,D.loc ((if x.nm=c'.nm then c' else x).j+9))=_
 by_cases h:x.nm=c'.nm
 ·have g:x=c:=by
   have:∀{l:L Cl},(l.map (·.nm)).Nodup->x∈l->c∈l->x.nm=c.nm->x=c:=λ{l} a f hc e=>by
    induction l with
    |nil=>cases f
    |cons y r i=>
     rw[Qqg,Qze]at a;rcases Qqb.mp f with rfl|b<;>rcases Qqb.mp hc with rfl|d
     ·rfl
     ·exact absurd (Qqj.mpr ⟨c,d,e.symm⟩) a.1
     ·exact absurd (Qqj.mpr ⟨x,b,e⟩) a.1
     ·exact i a.2 b d
   exact this a f hc (h.trans e)
  rw[Z6 h,e,j,g]
 ·rw[Z5 h]
def qqh:(upd cs c').map (·.nm)=cs.map (·.nm):=by
 unfold upd;rw[Qqp];refine Qz5 λx _=>?_;show(if x.nm=c'.nm then c' else x).nm=x.nm
 by_cases h:x.nm=c'.nm
 ·rw[Z6 h,h]
 ·rw[Z5 h]
def InvK.put(h:InvK K rest cs)(hc:c∈cs)(e:c'.nm=c.nm)(i:c'.j=c.j)(hd:c'.ds≠[]/\c'.ds.length<900):InvK K ((rest.set c.j c'.dl).set (c.j+1) (K c')) (upd cs c'):=by
 have lt:=(Qqk.mp (h.at_ c hc).2).1;refine⟨λx f=>?_,?_,λx f=>?_,by rw[qqh]; exact h.nd⟩
 ·obtain⟨y,d,rfl⟩:=Qqj.mp f
  by_cases hn:y.nm=c'.nm
  ·rw[Z6 hn,i];constructor
   ·rw[Qq0 (by lia),Qzv (by lia)]
   ·rw[Qzv (by rw[Qz9]; lia)]
  ·rw[Z5 hn];have:=h.at_ y d;rcases h.apart d hc (λz=>hn (z.trans e.symm)) with z|z
   ·exact⟨by rw[Qq0 (by lia),Qq0 (by lia)]; exact this.1,by rw[Qq0 (by lia),Qq0 (by lia)]; exact this.2⟩
   ·exact⟨by rw[Qq0 (by lia),Qq0 (by lia)]; exact this.1,by rw[Qq0 (by lia),Qq0 (by lia)]; exact this.2⟩
 ·unfold upd;rw[List.pairwise_map];have g:∀y∈cs,(if y.nm=c'.nm then c' else y).j=y.j:=λy d=>by
   by_cases hn:y.nm=c'.nm
   ·rw[Z6 hn,i,h.inj d hc (hn.trans e)]
   ·rw[Z5 hn]
  refine List.Pairwise.imp_of_mem (λ{a b} j hb z=>?_) h.pw;rw[g a j,g b hb];exact z
 ·obtain⟨y,d,rfl⟩:=Qqj.mp f
  by_cases hn:y.nm=c'.nm
  ·rw[Z6 hn]; exact hd
  ·rw[Z5 hn]; exact h.ne y d
def InvK.cell(h:InvK K rest cs)(hc:c∈cs)(e:c'.nm=c.nm)(a:c'.j=c.j)(hd:c'.ds=c.ds):InvK K (rest.set (c.j+1) (K c')) (upd cs c'):=by
 have:=h.put hc e a (hd▸h.ne c hc);have lt:=(Qqk.mp (h.at_ c hc).2).1;have z:rest.set c.j c'.dl=rest:=by
  apply List.ext_getElem?;intro i
  by_cases hi:c.j=i
  ·subst hi;rw[Qzv (by lia),(h.at_ c hc).1];unfold Cl.dl;rw[hd]
  ·rw[Qq0 hi]
 rwa [z]at this
def InvK.more(h:InvK K rest cs)(r):InvK K (rest++r) cs:=
 ⟨λc hc=>⟨by rw[Qqs (Qqk.mp (h.at_ c hc).1).1]; exact(h.at_ c hc).1,by rw[Qqs (Qqk.mp (h.at_ c hc).2).1]; exact(h.at_ c hc).2⟩,h.pw,h.ne,h.nd⟩
def InvK.add(h:InvK K rest cs)(c)(g:c.j=rest.length)(f:∀x∈cs,x.nm≠c.nm)(hd:c.ds≠[]/\c.ds.length<900):InvK K (rest++[c.dl,K c]) (cs++[c]):=by
 have m:=h.more [c.dl,K c];refine⟨λx d=>?_,?_,λx d=>?_,?_⟩
 ·rcases Qqr.mp d with d|d
  ·exact m.at_ x d
  ·cases Qqy.mp d;rw[g];constructor<;>simp
 ·rw[Qx9];refine⟨h.pw,Qjy ..,λa e b hb=>?_⟩;cases Qqy.mp hb;have:=(Qqk.mp (h.at_ a e).2).1
  lia
 ·rcases Qqr.mp d with d|d
  ·exact h.ne x d
  ·cases Qqy.mp d; exact hd
 ·rw[Qqm,Qxo];refine⟨h.nd,by simp,λa e b hb=>?_⟩;obtain⟨x,d,rfl⟩:=Qqj.mp e;simp only[Qqg,Qx7,Qqy]at hb;subst hb;exact f x d
def qa5(d:∀x∈cs,x.nm≠c.nm):dput (qzh cs) (Z c.nm) (Y1 (c.j+9))=qzh (cs++[c]):=by
 unfold dput;have:(qzh cs).any (λp=>eqT p.1 (Z c.nm))=false:=by
  rw[Qj7];intro p b;obtain⟨x,a,rfl⟩:=Qqj.mp b;show ¬ (x.nm==c.nm)=O;simpa using d x a
 rw[this];simp[qzh]
def qcv{R:L Cl}(e:c'.nm=c.nm)(h:((A++c::R).map (·.nm)).Nodup):upd (A++c::R) c'=A++c'::R:=by
 rw[Qqm,Qqg,Qxo,Qze]at h;have a:∀x∈A,x.nm≠c'.nm:=λx d=>by
  rw[e];exact h.2.2 _ (Qqj.mpr ⟨x,d,rfl⟩) _ (Qzk ..)
 have b:∀x∈R,x.nm≠c'.nm:=λx d z=>h.2.1.1 (Qqj.mpr ⟨x,d,by rw[z,e]⟩);unfold upd;rw[Qqm,Qqg,Z6 e.symm];have g:A.map (λx=>if x.nm=c'.nm then c' else x)=A:=by
  conv=>rhs; rw[<- Qx3 A]
  exact Qz5 λx d=>Z5 (a x d)
 have f:R.map (λx=>if x.nm=c'.nm then c' else x)=R:=by
  conv=>rhs; rw[<- Qx3 R]
  exact Qz5 λx d=>Z5 (b x d)
 rw[g,f]
noncomputable abbrev rowD(ro:L J):L D:=ro.map .int
section
variable {sz:Zt}{T d:J}{fo jo:L (D×D)}{ro:L J}{rest:Y2}{cs:L Cl}
noncomputable abbrev FC(sz:Zt)(T d:J)(fo jo:L (D×D))(cs:L Cl)(ro:L J)(rest:Y2):Y2:=FS sz T d fo jo (qzh cs) (rowD ro) rest
def qxq(c)(day):(stW c day = "unvested"/\c.v=B/\c.gv=B/\day<=c.la)\/(stW c day = "stands"/\c.v≠B/\c.gv=B/\day<=c.la)\/(stW c day = "given"/\c.gv≠B)\/(stW c day = "fallen"/\c.la<day/\c.gv=B):=by
 unfold stW
 cases a:c.gv with
 |some x=>exact .inr (.inr (.inl ⟨rfl,by simp⟩))
 |none=>
  by_cases hl:c.la<day
  ·exact .inr (.inr (.inr ⟨by simp[hl],hl,rfl⟩))
  ·cases hv:c.v with
   |none=>exact .inl ⟨by simp[hl],rfl,rfl,by lia⟩
   |some x=>exact .inr (.inl ⟨by simp[hl],by simp,rfl,by lia⟩)
noncomputable def hit(day:J)(ps:L (J×J))(c:Cl):Bool:=decide (stW c day = "unvested")&&hasB c.g ps
noncomputable def vst(day:J)(ps:L (J×J))(c:Cl):Cl:=if hit day ps c then { c with v:=Y day } else c
def qck(m)(I:Inv rest cs)(hc:c∈cs)(day)(i:rowAt ?k q=Y ?i)(hl:ps.length<lim)(hr:ro.length<1000):
  callD fns (m+3) 24 [Y1 3,Z c.nm,Z day,q] ?k=Y (.non,if hit day ps c then FC sz T d fo jo cs (ro++[c.nm]) (rest.set (c.j+1) (vst day ps c).cell) else FC sz T d fo jo cs ro rest):=by
 have hs:=qqr (sz:=sz) (T:=T) (d:=d) (fo:=fo) (jo:=jo) (bo:=qzh cs) (ro:=rowD ro) (m+1) c day (I.at_ c hc).2;have b:=I.get hc;have f:=qlm m (g:=c.g) i hl;have a:=(I.at_ c hc).2;have no:∀w,stW c day=w->(w = "stands"\/w = "given"\/w = "fallen")->hit day ps c=false:=λw e h=>by
  unfold hit;rw[e];rcases h with rfl|rfl|rfl<;>rfl
 rcases qxq c day with⟨e,h1,h2,j⟩|⟨e,_⟩|⟨e,_⟩|⟨e,_⟩
 ·rw[e]at hs;have hi:hit day ps c=hasB c.g ps:=by unfold hit; rw[e]; rfl
  cases hb:hasB c.g ps with
  |true=>
   rw[hb]at hi f;have hv:vst day ps c={ c with v:=Y day }:=by unfold vst; rw[hi]; rfl
   rw[hi,Z6 rfl,hv];have el:rowD (ro++[c.nm])=rowD ro++[Z c.nm]:=by simp
   unfold FC;rw[el];exact qzz 8 [18,10] 3 (λq=>_/\_/\_/\_/\_/\_/\_/\q) [.q ?E,.r c.cell,.c ?qi,.r c.cell,.c (.bl O,FC sz T d fo jo cs ro rest),.r c.cell,.b O] ⟨b,a,hs,a,f,a,Z3 (show(rowD ro).length<lim by simp; unfold lim; lia),rfl⟩
  |false=>
   rw[hb]at hi f;rw[hi,Z5 (by simp)];exact qzz 8 [18,10] 3 (λq=>_/\_/\_/\_/\_/\q) [.q ?E,.r c.cell,.c ?qi,.r c.cell,.c (.bl Y6,FC sz T d fo jo cs ro rest)] ⟨b,a,hs,a,f,rfl⟩
 ·rw[no _ e ?qp,Z5 (by simp)];rw[e]at hs;exact qzz 8 [18,10] 3 (λq=>_/\_/\_/\q) [.q ?E,.r c.cell,.c (sO "stands",FC sz T d fo jo cs ro rest)] ⟨b,a,hs,rfl⟩
 ·rw[no _ e (.inr ?qp),Z5 (by simp)];rw[e]at hs;exact qzz 8 [18,10] 3 (λq=>_/\_/\_/\q) [.q ?E,.r c.cell,.c (sO "given",FC sz T d fo jo cs ro rest)] ⟨b,a,hs,rfl⟩
 ·rw[no _ e (.inr (.inr rfl)),Z5 (by simp)];rw[e]at hs;exact qzz 8 [18,10] 3 (λq=>_/\_/\_/\q) [.q ?E,.r c.cell,.c (sO "fallen",FC sz T d fo jo cs ro rest)] ⟨b,a,hs,rfl⟩
def qzr(day)(ps)(c):(vst day ps c).nm=c.nm/\(vst day ps c).j=c.j/\(vst day ps c).ds=c.ds:=by
 unfold vst;cases hit day ps c<;>exact⟨rfl,rfl,rfl⟩
noncomputable def rvF(K:Cl->Ya)(day:J)(ps:L (J×J))(r:Y2)(c:Cl):Y2:=if hit day ps c then r.set (c.j+1) (K (vst day ps c)) else r
def ql6(m)(I:Inv rest cs)(day)(ps)(hl:ps.length<lim)(hr:ro.length+cs.length<1000):
  (∀sz:Zt,callD fns (m+4) 25 [Y1 3,Z day,.tup ?i] ?k=Y (.non,FC sz T d fo jo (cs.map ?qq) (ro++(cs.filter (hit day ps)).map (·.nm)) (cs.foldl (rvF Cl.cell day ps) rest)))/\Inv (cs.foldl (rvF Cl.cell day ps) rest) (cs.map ?qq):=by
 have a:∀sz:Zt,callD fns (m+4) 25 [Y1 3,Z day,.tup ?i] ?k=Y (.non,FC sz T d fo jo (cs.map ?qq) (ro++(cs.filter (hit day ps)).map (·.nm)) (cs.foldl (rvF Cl.cell day ps) rest))/\Inv (cs.foldl (rvF Cl.cell day ps) rest) (cs.map ?qq):=λsz=>by
  have bk:∀A R:L Cl,qzh (A.map ?qq++R)=qzh (A++R):=λA R=>by
   unfold qzh;rw[Qqm,Qqm,Qqp]
   congr 1
   exact Qz5 λc _=>by
    show(D.int (vst day ps c).nm,D.loc ((vst day ps c).j+9))=_;rw[(qzr day ps c).1,(qzr day ps c).2.1]
  have keys:keysOf (qzh cs)=cs.map λc=>D.int c.nm:=by unfold keysOf qzh; rw[Qqp]; rfl
  have l:(RL (callD fns (m+3))).ev [Y (Y1 3),Y (Z day),Y (.tup ?i),B] ?k (.gc (.mcall 383 20 "names" ?L []))=Y (.lst (cs.map λc=>D.int c.nm),FC sz T d fo jo cs ro rest):=by
   have g:=qzv (st:=FC sz T d fo jo cs ro rest) (ds:=keysOf (qzh cs)) (by rw[keys]; exact qzy λ_ _=>rfl);rw[<- keys];exact qzc 8 [] 3 (λq=>_/\q) [.l (keysOf (qzh cs))] ⟨g,rfl⟩
  obtain⟨τ',st',h1,o,r',h2,s,r,i⟩:=qqw (it:=.gc (.mcall 383 20 "names" ?L [])) (ds:=cs.map λc=>D.int c.nm) (t:=.var 3) (body:=[.expr (.mcall 383 24 "vest" ?L [.var 3,.var 1,.var 2])])
   (λk τ' st'=>∃o r',τ'=[Y (Y1 3),Y (Z day),Y (.tup ?i),o]/\st'=FC sz T d fo jo ((cs.take k).map ?qq++cs.drop k) (ro++((cs.take k).filter (hit day ps)).map (·.nm)) r'/\Inv r' ((cs.take k).map ?qq++cs.drop k)/\r'=(cs.take k).foldl (rvF Cl.cell day ps) rest)
   (by show((RL (callD fns (m+3))).ev _ _ _).bind _=_; rw[l]; rfl) (by simp[Src.size,seqAt]) (λk τ' st' h=>rfl) ⟨B,rest,rfl,by simp,by simpa using I,rfl⟩ (λk τ' st' x n h=>by
    obtain⟨o,r',rfl,rfl,f,i⟩:=h;rw[Qqw]at n;obtain⟨c,hc,rfl⟩:=Qqa.mp n;have hk:=(Qqk.mp hc).1;have e:=(Qqk.mp hc).2;have dr:cs.drop k=c::cs.drop (k+1):=by rw[Qjx hk,e]
    have tk:cs.take (k+1)=cs.take k++[c]:=by rw[Qzy hk,e]
    rw[dr]at f ⊢;have p:c∈(cs.take k).map ?qq++c::cs.drop (k+1):=by simp
    have j:(ro++((cs.take k).filter (hit day ps)).map (·.nm)).length<1000:=by
     have:=Qzd (hit day ps) (cs.take k);rw[Qql,Qqz];rw[Qq9]at this
     lia
    have hv:=qck (sz:=sz) (T:=T) (d:=d) (fo:=fo) (jo:=jo) m f p day (q:=.tup ?i) rfl hl j;generalize hS:(if hit day ps c=O then _ else _:Y2)=S1 at hv;refine⟨[Y (Y1 3),Y (Z day),Y (.tup ?i),Y (Z c.nm)],S1,qze 8 [24] 3 (λq=>_/\q) [.c (.non,S1)] ⟨hv,rfl⟩,Y (Z c.nm),if hit day ps c then r'.set (c.j+1) (vst day ps c).cell else r',rfl,?_,?_,by rw[tk,Qx6,<- i]; rfl⟩
    ·rw[<- hS]
     cases b:hit day ps c with
     |true=>
      have hb:qzh ((cs.take (k+1)).map ?qq++cs.drop (k+1))=qzh ((cs.take k).map ?qq++c::cs.drop (k+1)):=by rw[bk,bk,Qjl,<- dr,Qjl]
      rw[Z6 rfl,Z6 rfl];unfold FC;rw[hb,tk,Qza,Qqm];simp[b]
     |false=>
      rw[Z5 (by simp),Z5 (by simp),tk,Qqm,Qza,Qqm];have:vst day ps c=c:=by unfold vst; rw[b]; rfl
      simp[b,this]
    ·rw[tk,Qqm,Qzz];show Inv _ (List.map ?qq (cs.take k)++vst day ps c::cs.drop (k+1))
     cases b:hit day ps c with
     |true=>
      have:=f.cell p (qzr day ps c).1 (qzr day ps c).2.1 (qzr day ps c).2.2;rwa [qcv (qzr day ps c).1 f.nd]at this
     |false=>
      have:vst day ps c=c:=by unfold vst; rw[b]; rfl
      rw[this]
      exact f)
  simp only[Qqz,Qzg,List.drop_length,Qzx]at s r i;subst h2 s;rw[<- i];exact⟨qzz 8 [] 4 (λq=>_/\q) [.s (.nx [Y (Y1 3),Y (Z day),Y (.tup ?i),o],FC sz T d fo jo (cs.map ?qq) (ro++(cs.filter (hit day ps)).map (·.nm)) r')] ⟨h1,rfl⟩,r⟩
 exact⟨λsz=>(a sz).1,(a ⟨.non,[],[]⟩).2⟩
end
section
variable {sz:Zt}{T d:J}{fo jo:L (D×D)}{ro:L J}{rest:Y2}{cs:L Cl}
theorem set2{b':Ya}:∀{rest},(rest++[a,b]).set (rest.length+1) b'=rest++[a,b']
 |[]=>rfl
 |x::r=>congrArg (x::·) (set2)
def bk1(e:c'.nm=c.nm)(a:c'.j=c.j):qzh (cs++[c'])=qzh (cs++[c]):=by simp[qzh,e,a]
def qlp(bo)(r)(s):(FS sz T d fo jo bo r s).length=s.length+8:=by simp[FS]
def qg1(m)(I:Inv rest cs)(dy o)(g)(k:∀bo r,rowAt (FS sz T d fo jo bo (rowD ro) (rest++r)) q=Y ?i)(hl:ps.length<lim)(hr:ro.length+cs.length<900)(h:∀x∈cs,x.nm≠dy)(p:thr T [dy]=a):
  callD fns (m+4) 23 [Y1 3,Z dy,Z o,rD g,q] ?k=Y (.non,FC sz T d fo jo (cs++[vst dy ps ⟨dy,rest.length,o,g,[dy],a,B,B⟩]) (ro++if hit dy ps ⟨dy,rest.length,o,g,[dy],a,B,B⟩ then [dy] else []) (rest++[Y4 O [Z dy],(vst dy ps ⟨dy,rest.length,o,g,[dy],a,B,B⟩).cell]))/\
   Inv (rest++[Y4 O [Z dy],(vst dy ps ⟨dy,rest.length,o,g,[dy],a,B,B⟩).cell]) (cs++[vst dy ps ⟨dy,rest.length,o,g,[dy],a,B,B⟩]):=by
 have j:=qkf (m+1) (st:=FC sz T d fo jo cs ro (rest++[Y4 O [Z dy]])) (T:=T) (q:=Yc [Z dy]) (xs:=[dy]) (by simp) (by simp) (λr=>rfl);rw[p]at j;generalize hc:(⟨dy,rest.length,o,g,[dy],a,B,B⟩:Cl)=c;have c1:c.nm=dy:=by rw[<- hc]
 have c2:c.j=rest.length:=by rw[<- hc]
 have c3:c.dl=Y4 O [Z dy]:=by rw[<- hc]; rfl
 have c4:c.cell=.obj 301 (clF o g (Y1 (rest.length+8)) a):=by rw[<- hc]; rfl
 have b:=I.add c c2 (by rw[c1]; exact h) (by rw[<- hc]; simp);have V:=qzr dy ps c;have e:=cinit (m+2) (FC sz T d fo jo cs ro (rest++[Y4 O [Z dy]])) o a g (Y1 (rest.length+8));have hv:=qck m b (c:=c) (by simp) dy (k _ _) hl (by lia);have i:FS sz T d fo jo (dput (qzh cs) (Z dy) (Y1 (FC sz T d fo jo cs ro (rest++[Y4 O [Z dy]])).length)) (rowD ro) (rest++[Y4 O [Z dy]]++[.obj 301 (clF o g (Y1 (rest.length+8)) a)])=FC sz T d fo jo (cs++[c]) ro (rest++[c.dl,c.cell]):=by
  have:(FC sz T d fo jo cs ro (rest++[Y4 O [Z dy]])).length=c.j+9:=by rw[qlp,c2]; simp
  rw[this,<- c1,qa5 (by rw[c1]; exact h),c1,<- c3,<- c4];simp
 rw[c1,<- i]at hv;have n:=qzv (st:=FC sz T d fo jo cs ro (rest++[Y4 O [Z dy]])) (ds:=[Z dy]) rfl;generalize hS:(if hit dy ps c=O then _ else _:Y2)=S1 at hv;have f:decide ((qzh cs).length<lim)=true:=Z3 (by unfold qzh lim; rw[Qqz]; lia);have run:callD fns (m+4) 23 [Y1 3,Z dy,Z o,rD g,q] ?k=Y (.non,S1):=
  qzz 8 [15,16,24] 4 (λq=>_/\_/\_/\_/\_/\q) [.l [Z dy],.c (Z a,FC sz T d fo jo cs ro (rest++[Y4 O [Z dy]])),.c (.non,FC sz T d fo jo cs ro (rest++[Y4 O [Z dy]])++[.obj 301 (clF o g (Y1 (rest.length+8)) a)]),.b O,.c (.non,S1)] ⟨n,j,e,f,hv,rfl⟩
 rw[run,<- hS];rw[i]
 cases l:hit dy ps c with
 |true=>
  have:=b.cell (by simp) V.1 V.2.1 V.2.2;rw[qcv V.1 b.nd,c2,set2]at this;rw[c3]at this;refine⟨?_,this⟩;rw[Z6 rfl,Z6 rfl,c2,set2,c3];unfold FC;rw[bk1 V.1 V.2.1]
 |false=>
  have:vst dy ps c=c:=by unfold vst; rw[l]; rfl
  rw[this,<- c3];refine⟨?_,b⟩;rw[Z5 (by simp),Z5 (by simp),Qzx]
end
def over(day:J)(c:Cl):Prop:=c.gv≠B\/c.la<day
inductive Op (day:J):L Cl->L J->L Cl->L J->Prop
 |same {cs ro}:Op day cs ro cs ro
 |upd {cs ro c c'} (hc:c∈cs) (hn:c'.nm=c.nm) (hv:c'.v=c.v):Op day cs ro (upd cs c') ro
 |vein {cs ro} (ps:L (J×J)):Op day cs ro (cs.map (vst day ps)) (ro++(cs.filter (hit day ps)).map (·.nm))
 |stake {cs ro c} (ps:L (J×J)) (hn:c.nm=day) (hv:c.v=B):Op day cs ro (cs++[vst day ps c]) (ro++if hit day ps c then [day] else [])
 |part0 {cs ro c c' p} (hc:c∈cs) (hn:c'.nm=c.nm) (hv:c'.v=c.v) (pn:p.nm=day) (pv:p.v=c.v) (h:c.v=B):Op day cs ro (K50.upd cs c'++[p]) ro
 |part1 {cs ro c c' p A R} (hc:c∈cs) (hn:c'.nm=c.nm) (hv:c'.v=c.v) (pn:p.nm=day) (pv:p.v=c.v) (h:c.v≠B) (hr:ro=A++c.nm::R):Op day cs ro (K50.upd cs c'++[p]) (A++c.nm::day::R)
noncomputable def Cl.z(c:Cl):Cl:={ c with j:=0 }
def qgc(cs)(c):(upd cs c).map Cl.z=upd (cs.map Cl.z) c.z:=by
 unfold upd;rw[Qqp,Qqp];refine Qz5 λx _=>?_
 show(if x.nm=c.nm then c else x).z=if x.nm=c.nm then c.z else x.z
 split<;>rfl
noncomputable def cutG(g:J×J×J×J)(s l:J):Y3 ((J×J×J×J)×(J×J×J×J)):=
 if s=0 then if g.1<l/\l<=g.2.2.1 then Y ((g.1,g.2.1,l - 1,g.2.2.2),(l,g.2.1,g.2.2.1,g.2.2.2)) else B
 else if g.2.1<l/\l<=g.2.2.2 then Y ((g.1,g.2.1,g.2.2.1,l - 1),(g.1,l,g.2.2.1,g.2.2.2)) else B
inductive Tr (T day:J) (zs:L Cl) (ro:L J):D->String->L Cl->L J->Prop
 |no {n w r} (h:∀c∈zs,c.nm≠n):Tr T day zs ro (.tup (sO w::.int n::r)) "noclaim" zs ro
 |over {c w r} (hc:c∈zs) (ho:over day c):Tr T day zs ro (.tup (sO w::.int c.nm::r)) "ended" zs ro
 |work {c} (hc:c∈zs) (ho:¬ K50.over day c):Tr T day zs ro (.tup [sO "work",.int c.nm]) "good" (upd zs { c with ds:=c.ds++[day],la:=day+T }) ro
 |give {c} (hc:c∈zs) (ho:¬ K50.over day c):Tr T day zs ro (.tup [sO "give",.int c.nm]) "good" (upd zs { c with gv:=Y day }) ro
 |sell {c o} (hc:c∈zs) (ho:¬ K50.over day c):Tr T day zs ro (.tup [sO "sell",.int c.nm,.int o]) "good" (upd zs { c with o:=o }) ro
 |nocut {c s l o} (hc:c∈zs) (ho:¬ K50.over day c) (hs:s=0\/s=1) (h:cutG c.g s l=B):Tr T day zs ro (.tup [sO "part",.int c.nm,.int s,.int l,.int o]) "nocut" zs ro
 |part {c s l o a b ro'} (hc:c∈zs) (ho:¬ K50.over day c) (hs:s=0\/s=1) (h:cutG c.g s l=Y (a,b)) (hr:c.v=B/\ro'=ro\/∃x A R,c.v=Y x/\ro=A++c.nm::R/\c.nm ∉ A/\ro'=A++c.nm::day::R):Tr T day zs ro (.tup [sO "part",.int c.nm,.int s,.int l,.int o]) "good" (upd zs { c with g:=a }++[⟨day,0,o,b,c.ds,c.la,c.v,B⟩]) ro'
def ix1:idxD st (Y9 (a::b::r)) (Z 1)=Y b:=by
 show atI (a::b::r) 1=_;unfold atI ixN;rw[Z6 (by decide),Z6 (by simp; lia)]
 rfl
section
variable {sz:Zt}{T d:J}{fo jo:L (D×D)}{ro:L J}{rest:Y2}{cs:L Cl}
def chg_no(m)(day n)(w)(r)(e:∀c∈cs,c.nm≠n):callD fns (m+1) 26 [Y1 3,Z day,Y9 (sO w::Z n::r)] ?k=Y (sO "noclaim",FC sz T d fo jo cs ro rest):=
 qzz 8 [] 1 (λq=>_/\_/\q) [.i (Z n),.q B] ⟨ix1 (st:=FC sz T d fo jo cs ro rest) (a:=sO w) (b:=Z n) (r:=r),qo9 e,rfl⟩
def qig(m)(I:Inv rest cs)(day)(w)(r)(hc:c∈cs)(h:over day c):callD fns (m+2) 26 [Y1 3,Z day,Y9 (sO w::Z c.nm::r)] ?k=Y (sO "ended",FC sz T d fo jo cs ro rest):=by
 have hs:=qqr (sz:=sz) (T:=T) (d:=d) (fo:=fo) (jo:=jo) (bo:=qzh cs) (ro:=rowD ro) m c day (I.at_ c hc).2;have g:=I.get hc;have f:=(I.at_ c hc).2;rcases qxq c day with⟨e,h1,h2,i⟩|⟨e,h1,h2,i⟩|⟨e,_⟩|⟨e,_⟩
 ·rcases h with z|z
  ·exact absurd h2 z
  ·lia
 ·rcases h with z|z
  ·exact absurd h2 z
  ·lia
 ·rw[e]at hs;exact qzz 8 [18] 2 (λq=>_/\_/\_/\_/\_/\q) [.i (Z c.nm),.q ?E,.q ?E,.r c.cell,.c (sO "given",FC sz T d fo jo cs ro rest)] ⟨ix1 (st:=FC sz T d fo jo cs ro rest) (a:=sO w) (b:=Z c.nm) (r:=r),g,g,f,hs,rfl⟩
 ·rw[e]at hs;exact qzz 8 [18] 2 (λq=>_/\_/\_/\_/\_/\q) [.i (Z c.nm),.q ?E,.q ?E,.r c.cell,.c (sO "fallen",FC sz T d fo jo cs ro rest)] ⟨ix1 (st:=FC sz T d fo jo cs ro rest) (a:=sO w) (b:=Z c.nm) (r:=r),g,g,f,hs,rfl⟩
def qae(a:¬ over day c):stW c day = "unvested"\/stW c day = "stands":=by
 rcases qxq c day with⟨e,_⟩|⟨e,_⟩|⟨_,e⟩|⟨_,e,_⟩
 ·exact .inl e
 ·exact .inr e
 ·exact absurd (.inl e) a
 ·exact absurd (.inr e) a
def qih(m)(I:Inv rest cs)(day)(hc:c∈cs)(f:¬ over day c):callD fns (m+2) 26 [Y1 3,Z day,Y9 [sO "give",Z c.nm]] ?k=Y (sO "good",FC sz T d fo jo cs ro (rest.set (c.j+1) { c with gv:=Y day:Cl }.cell)):=by
 have hs:=qqr (sz:=sz) (T:=T) (d:=d) (fo:=fo) (jo:=jo) (bo:=qzh cs) (ro:=rowD ro) m c day (I.at_ c hc).2;have b:=I.get hc;have a:=(I.at_ c hc).2;rcases qae f with e|e
 ·rw[e]at hs;exact qzz 8 [18] 2 (λq=>_/\_/\_/\_/\_/\q) [.q ?E,.q ?E,.r c.cell,.c ?qi,.r c.cell] ⟨b,b,a,hs,a,rfl⟩
 ·rw[e]at hs;exact qzz 8 [18] 2 (λq=>_/\_/\_/\_/\_/\q) [.q ?E,.q ?E,.r c.cell,.c (sO "stands",FC sz T d fo jo cs ro rest),.r c.cell] ⟨b,b,a,hs,a,rfl⟩
def qif(m)(I:Inv rest cs)(day o)(hc:c∈cs)(f:¬ over day c):callD fns (m+2) 26 [Y1 3,Z day,Y9 [sO "sell",Z c.nm,Z o]] ?k=Y (sO "good",FC sz T d fo jo cs ro (rest.set (c.j+1) { c with o:=o:Cl }.cell)):=by
 have hs:=qqr (sz:=sz) (T:=T) (d:=d) (fo:=fo) (jo:=jo) (bo:=qzh cs) (ro:=rowD ro) m c day (I.at_ c hc).2;have b:=I.get hc;have a:=(I.at_ c hc).2;rcases qae f with e|e
 ·rw[e]at hs;exact qzz 8 [18] 2 (λq=>_/\_/\_/\_/\_/\q) [.q ?E,.q ?E,.r c.cell,.c ?qi,.r c.cell] ⟨b,b,a,hs,a,rfl⟩
 ·rw[e]at hs;exact qzz 8 [18] 2 (λq=>_/\_/\_/\_/\_/\q) [.q ?E,.q ?E,.r c.cell,.c (sO "stands",FC sz T d fo jo cs ro rest),.r c.cell] ⟨b,b,a,hs,a,rfl⟩
def qie(m)(I:Inv rest cs)(day)(hc:c∈cs)(k:¬ over day c)(o:c.ds.length<899)(l:thr T (c.ds++[day])=g):callD fns (m+3) 26 [Y1 3,Z day,Y9 [sO "work",Z c.nm]] ?k=Y (sO "good",FC sz T d fo jo cs ro ((rest.set c.j { c with ds:=c.ds++[day],la:=g:Cl }.dl).set (c.j+1) { c with ds:=c.ds++[day],la:=g:Cl }.cell)):=by
 have hs:=qqr (sz:=sz) (T:=T) (d:=d) (fo:=fo) (jo:=jo) (bo:=qzh cs) (ro:=rowD ro) (m+1) c day (I.at_ c hc).2;have i:=I.get hc;obtain⟨b,f⟩:=I.at_ c hc;have lt:=(Qqk.mp b).1;have a:(rest.set c.j (Y4 O (c.ds.map Z++[Z day])))[c.j+1]?=Y c.cell:=by rw[Qq0 (by lia)]; exact f
 have h:(c.ds.map D.int).length<lim:=by rw[Qqz]; unfold lim; lia
 have j:=qkf m (T:=T) (q:=Y1 (c.j+8)) (xs:=c.ds++[day]) (by simp) (by simp; lia) (λr=>by
  show listAt _ _=_;unfold listAt;have:(FC sz T d fo jo cs ro (rest.set c.j (Y4 O (c.ds.map Z++[Z day])))++r)[c.j+8]?=((rest.set c.j (Y4 O (c.ds.map Z++[Z day])))++r)[c.j]?:=rfl;rw[this,Qqs (by rw[Qz9]; exact lt),Qzv lt]
  simp)
 rw[l]at j;have n:({ c with ds:=c.ds++[day],la:=g:Cl }).dl=Y4 O (c.ds.map Z++[Z day]):=by unfold Cl.dl; simp
 rw[n];rcases qae k with e|e
 ·rw[e]at hs;exact qzz 8 [18,15] 3 (λq=>_/\_/\_/\_/\_/\_/\_/\_/\_/\_/\_/\q) [.q ?E,.q ?E,.r c.cell,.c ?qi,.r c.cell,.r c.dl,.r c.dl,.b O,.r c.cell,.c (Z g,FC sz T d fo jo cs ro (rest.set c.j (Y4 O (c.ds.map Z++[Z day])))),.r c.cell] ⟨i,i,f,hs,f,b,b,Z3 h,a,j,a,rfl⟩
 ·rw[e]at hs;exact qzz 8 [18,15] 3 (λq=>_/\_/\_/\_/\_/\_/\_/\_/\_/\_/\_/\q) [.q ?E,.q ?E,.r c.cell,.c (sO "stands",FC sz T d fo jo cs ro rest),.r c.cell,.r c.dl,.r c.dl,.b O,.r c.cell,.c (Z g,FC sz T d fo jo cs ro (rest.set c.j (Y4 O (c.ds.map Z++[Z day])))),.r c.cell] ⟨i,i,f,hs,f,b,b,Z3 h,a,j,a,rfl⟩
end
section
variable {sz:Zt}{T d:J}{fo jo:L (D×D)}{ro:L J}{rest:Y2}{cs:L Cl}
def ga(X){S:Y2}{p:Y0}(h:S[p]?=Y c):(S++X)[p]?=Y c:=by rw[Qqs (Qqk.mp h).1]; exact h
def pieceG(m){S:Y2}(c:Cl)(hc:S[p]?=Y (c.cel (Y1 q)))(hd:S[q]?=Y c.dl)(o)(g):callD fns (m+2) 17 [Y1 p,Z o,rD g] S=Y (Y1 (S.length+1),S++[c.dl,(⟨0,0,o,g,[],c.la,c.v,B⟩:Cl).cel (Y1 S.length)]):=by
 have a:=cinit m (S++[c.dl]) o c.la g (Y1 S.length);have b:=gl (st:=S++[c.dl]) (c:=.obj 301 (clF o g (Y1 S.length) c.la));refine qjb 0 [16] 2 (Y1 (S++[c.dl]).length,(S++[c.dl]++[Ya.obj 301 (clF o g (Y1 S.length) c.la)]).set (S++[c.dl]).length ((⟨0,0,o,g,[],c.la,c.v,B⟩:Cl).cel (Y1 S.length))) (λq=>_/\_/\_/\_/\_/\_/\q) [.r (c.cel (Y1 q)),.r c.dl,.r (c.cel (Y1 q)),.c (.non,S++[c.dl]++[.obj 301 (clF o g (Y1 S.length) c.la)]),.r (c.cel (Y1 q)),.r (.obj 301 (clF o g (Y1 S.length) c.la))] ⟨hc,hd,ga [c.dl] hc,a,ga [.obj 301 (clF o g (Y1 S.length) c.la)] (ga [c.dl] hc),b,?_⟩;rw[sl];simp
def qhv(m){c:Cl}(a:rest[c.j]?=Y c.dl)(b:rest[c.j+1]?=Y c.cell)(nm o)(g):callD fns (m+2) 17 [Y1 (c.j+9),Z o,rD g] ?k=Y (Y1 (rest.length+9),FC sz T d fo jo cs ro (rest++[c.dl,(⟨nm,rest.length,o,g,c.ds,c.la,c.v,B⟩:Cl).cell])):=by
 have:=pieceG m (S:=FC sz T d fo jo cs ro rest) (p:=c.j+9) (q:=c.j+8) c b a o g;rw[qlp]at this;exact this
noncomputable def cuD:Y3 ((J×J×J×J)×(J×J×J×J))->D
 |some p=>.tup [rD p.1,rD p.2]
 |none=>.non
def qdu(m)(g)(s line)(hs:s=0\/s=1)(st):callD fns (m+2) 12 [rD g,Z s,Z line] st=Y (cuD (cutG g s line),st):=by
 unfold cutG;rcases hs with rfl|rfl
 ·rw[Z6 rfl]
  by_cases h1:g.1<line
  ·by_cases h2:line<=g.2.2.1
   ·rw[Z6 ⟨h1,h2⟩];exact qzz 0 [] 2 (λq=>_/\_/\q) [.b O,.b O,.k] ⟨Z3 h1,Z3 h2,rfl⟩
   ·rw[Z5 λz=>h2 z.2];exact qzz 0 [] 2 (λq=>_/\_/\q) [.b O,.b Y6] ⟨Z3 h1,Z4 h2,rfl⟩
  ·rw[Z5 λz=>h1 z.1];exact qzz 0 [] 2 (λq=>_/\q) [.b Y6] ⟨Z4 h1,rfl⟩
 ·rw[Z5 (by decide)]
  by_cases h1:g.2.1<line
  ·by_cases h2:line<=g.2.2.2
   ·rw[Z6 ⟨h1,h2⟩];exact qzz 0 [] 2 (λq=>_/\_/\q) [.b O,.b O,.k] ⟨Z3 h1,Z3 h2,rfl⟩
   ·rw[Z5 λz=>h2 z.2];exact qzz 0 [] 2 (λq=>_/\_/\q) [.b O,.b Y6] ⟨Z3 h1,Z4 h2,rfl⟩
  ·rw[Z5 λz=>h1 z.1];exact qzz 0 [] 2 (λq=>_/\q) [.b Y6] ⟨Z4 h1,rfl⟩
def qol(X)(y z)(Z7:L D):(X++y::Z7).take (X.length+1)++z::(X++y::Z7).drop (X.length+1)=X++y::z::Z7:=by
 induction X with
 |nil=>rfl
 |cons x r a=>exact congrArg (x::·) a
def eqI(a b):eqT (Z a) (Z b)=(a==b):=rfl
def row_ix{R:L J}(h:n ∉ A)(st:Y2):(if flat 9 (Z n)&&flats 9 (rowD (A++n::R)) then((rowD (A++n::R)).findIdx? λy=>eqT y (Z n)).map λ(j:Y0)=>(D.int (j:J),st) else B)=Y (Z (A.length:J),st):=by
 have f:∀l:L J,flats 9 (rowD l)=true:=λl=>by
  induction l with
  |nil=>rfl
  |cons a r b=>show(flat 9 (Z a)&&flats 9 (rowD r))=O; rw[b]; rfl
 rw[f,show flat 9 (Z n)=O from rfl,Qjc,Z6 rfl];have:(rowD (A++n::R)).findIdx? (λy=>eqT y (Z n))=Y A.length:=by
  induction A with
  |nil=>show(if (n==n)=O then _ else _)=_; simp
  |cons a r b=>
   have c:(a==n)=false:=by simp only[Qqb,not_or]at h; simpa using λe=>h.1 e.symm
   show List.findIdx? _ (D.int a::rowD (r++n::R))=_;rw[List.findIdx?_cons];rw[eqI,c];simp only[Qzm,if_false];rw[b (λz=>h (Qq3 _ z))]
   rfl
 rw[this]
 rfl
def qno(m)(I:Inv rest cs)(day line o s)(hs:s=0\/s=1)(hc:c∈cs)(hr:ro.length+cs.length<900)(hn:∀x∈cs,x.nm≠day)(hv:c.v≠B->∃A R,ro=A++c.nm::R/\c.nm ∉ A)(u:¬ over day c):
  ∃w cs' ro' k,(∀sz:Zt,callD fns (m+3) 27 [Y1 3,Z day,Y9 [sO "part",Z c.nm,Z s,Z line,Z o]] ?k=Y (sO w,FC sz T d fo jo cs' ro' k))/\Inv k cs'/\Op day cs ro cs' ro'/\(∀c∈cs',∃x,x.ds.length<=c.ds.length/\c.ds.length<=x.ds.length+1/\x∈cs)/\Tr T day (cs.map Cl.z) ro (Y9 [sO "part",Z c.nm,Z s,Z line,Z o]) w (cs'.map Cl.z) ro':=by
 have S:=I.get hc;have C:c.z∈cs.map Cl.z:=Qqj.mpr ⟨c,hc,rfl⟩;obtain⟨U,j⟩:=I.at_ c hc;have E:=qdu m c.g s line hs
 cases l:cutG c.g s line with
 |none=>
  rw[l]at E;exact⟨"nocut",cs,ro,rest,λsz=>qzz 8 [12] 3 (λq=>_/\_/\_/\q) [.q ?E,.r c.cell,.c (.non,FC sz T d fo jo cs ro rest),.k] ⟨S,j,E ?k,rfl⟩,I,.same,λc hc=>⟨c,by lia,by lia,hc⟩,.nocut (c:=c.z) C u hs l⟩
 |some q=>
  obtain⟨a,b⟩:=q;rw[l]at E;have Jq:=I.cell (c':={ c with g:=a }) hc rfl rfl rfl;have lt:=(Qqk.mp j).1;have k1:(rest.set (c.j+1) ({ c with g:=a }:Cl).cell)[c.j]?=Y ({ c with g:=a }:Cl).dl:=by rw[Qq0 (by lia)]; exact U
  have k2:(rest.set (c.j+1) ({ c with g:=a }:Cl).cell)[c.j+1]?=Y ({ c with g:=a }:Cl).cell:=Qzv (by lia);have i:=λsz:Zt=>qhv (sz:=sz) (T:=T) (d:=d) (fo:=fo) (jo:=jo) (cs:=cs) (ro:=ro) (m:=m) (c:={ c with g:=a }) k1 k2 day o b;have V:=qjj (c':={ c with g:=a }) hc I.nd rfl rfl;generalize t:rest.set (c.j+1) ({ c with g:=a }:Cl).cell=r1 at Jq k1 k2 i;have a0:r1.length=rest.length:=by rw[<- t,Qz9]
  generalize f:(⟨day,r1.length,o,b,({ c with g:=a }:Cl).ds,({ c with g:=a }:Cl).la,({ c with g:=a }:Cl).v,B⟩:Cl)=p at i;have p1:p.nm=day:=by rw[<- f]
  have p2:p.j=r1.length:=by rw[<- f]
  have p3:p.dl=({ c with g:=a }:Cl).dl:=by rw[<- f]; rfl
  have X:p.v=c.v:=by rw[<- f]
  have F:∀x∈upd cs { c with g:=a },x.nm≠p.nm:=λx hx=>by
   have:x.nm∈(upd cs { c with g:=a }).map (·.nm):=Qqj.mpr ⟨x,hx,rfl⟩;rw[qqh]at this;obtain⟨y,r,e⟩:=Qqj.mp this;rw[<- e,p1];exact hn y r
  have W:=Jq.add p p2 F (by rw[<- f]; exact I.ne c hc);rw[p3]at W;have n:dput (qzh cs) (Z day) (Y1 (r1.length+9))=qzh (upd cs { c with g:=a }++[p]):=by
   rw[<- qa5 F,V,p1,p2]
  have P:(r1++[({ c with g:=a }:Cl).dl,p.cell])[c.j+1]?=Y ({ c with g:=a }:Cl).cell:=by rw[Qqs (by lia)]; exact k2
  have N:decide ((qzh cs).length<lim)=true:=Z3 (by unfold qzh lim; rw[Qqz]; lia);have K:∀y∈upd cs { c with g:=a }++[p],∃x,x.ds.length<=y.ds.length/\y.ds.length<=x.ds.length+1/\x∈cs:=λy r=>by
   rcases Qqr.mp r with r|r
   ·obtain⟨z,C,rfl⟩:=Qqj.mp r
    by_cases e:z.nm=({ c with g:=a }:Cl).nm
    ·rw[Z6 e]; exact⟨c,Qqv _,Qxh _,hc⟩
    ·rw[Z5 e]; exact⟨z,Qqv _,Qxh _,C⟩
   ·cases Qqy.mp r;exact⟨c,by rw[<- f]; exact Qqv _,by rw[<- f]; exact Qxh _,hc⟩
  have v:(upd cs { c with g:=a }++[p]).map Cl.z=upd (cs.map Cl.z) { c.z with g:=a }++[⟨day,0,o,b,c.ds,c.la,c.v,B⟩]:=by rw[Qqm,qgc,<- f]; rfl
  cases h:c.v with
  |none=>
   refine⟨"good",upd cs { c with g:=a }++[p],ro,r1++[({ c with g:=a }:Cl).dl,p.cell],λsz=>?_,W,.part0 hc rfl rfl p1 X h,K,by rw[v]; exact .part (c:=c.z) C u hs l (.inl ⟨h,rfl⟩)⟩;rw[<- t]at i k2 P n ⊢;unfold FC;rw[<- n];exact qzz 8 [12,17] 3 (λq=>_/\_/\_/\_/\_/\_/\_/\_/\_/\q) [.q ?E,.r c.cell,.c (Y9 [rD a,rD b],FC sz T d fo jo cs ro rest),.k,.r c.cell,.r ({ c with g:=a }:Cl).cell,.c (Y1 ((rest.set (c.j+1) ({ c with g:=a }:Cl).cell).length+9),FC sz T d fo jo cs ro (rest.set (c.j+1) ({ c with g:=a }:Cl).cell++[({ c with g:=a }:Cl).dl,p.cell])),.b O,.r ({ c with g:=a }:Cl).cell,.b Y6] ⟨S,j,E ?k,j,k2,i sz,N,P,nnN h,rfl⟩
  |some x=>
   obtain⟨A,R,e,hA⟩:=hv (by rw[h]; simp);refine⟨"good",upd cs { c with g:=a }++[p],A++c.nm::day::R,r1++[({ c with g:=a }:Cl).dl,p.cell],λsz=>?_,W,.part1 hc rfl rfl p1 X (λz=>nomatch z.symm.trans h) e,K,by rw[v]; exact .part (c:=c.z) C u hs l (.inr ⟨x,A,R,h,e,hA,rfl⟩)⟩;rw[<- t]at i k2 P n ⊢;have H:=row_ix (R:=R) hA (FS sz T d fo jo (dput (qzh cs) (Z day) (Y1 ((rest.set (c.j+1) ({ c with g:=a }:Cl).cell).length+9))) (rowD ro) (rest.set (c.j+1) ({ c with g:=a }:Cl).cell++[({ c with g:=a }:Cl).dl,p.cell]));rw[<- e]at H;have G:(rowD ro).length=ro.length:=by simp
   have a1:ro.length=A.length+(R.length+1):=by rw[e]; simp
   have hok:decide (0<=(A.length:J)+1/\(A.length:J)+1<=(rowD ro).length/\(rowD ro).length<lim)=true:=Z3 ⟨by lia,by rw[G]; lia,by rw[G]; unfold lim; lia⟩;have Q:(rowD ro).take ((A.length:J)+1).toNat++Z day::(rowD ro).drop ((A.length:J)+1).toNat=rowD (A++c.nm::day::R):=by
    rw[show((A.length:J)+1).toNat=(rowD A).length+1 by simp,e];have:=qol (rowD A) (Z c.nm) (Z day) (rowD R);simpa[rowD] using this
   unfold FC;rw[<- n,<- Q];exact qzz 8 [12,17] 3 (λq=>_/\_/\_/\_/\_/\_/\_/\_/\_/\_/\_/\q) [.q ?E,.r c.cell,.c (Y9 [rD a,rD b],FC sz T d fo jo cs ro rest),.k,.r c.cell,.r ({ c with g:=a }:Cl).cell,.c (Y1 ((rest.set (c.j+1) ({ c with g:=a }:Cl).cell).length+9),FC sz T d fo jo cs ro (rest.set (c.j+1) ({ c with g:=a }:Cl).cell++[({ c with g:=a }:Cl).dl,p.cell])),.b O,.r ({ c with g:=a }:Cl).cell,.b O,.c (Z (A.length:J),FS sz T d fo jo (dput (qzh cs) (Z day) (Y1 ((rest.set (c.j+1) ({ c with g:=a }:Cl).cell).length+9))) (rowD ro) (rest.set (c.j+1) ({ c with g:=a }:Cl).cell++[({ c with g:=a }:Cl).dl,p.cell])),.b O] ⟨S,j,E ?k,j,k2,i sz,N,P,nnS h,H,hok,rfl⟩
end
structure RowI (day:J) (cs:L Cl) (ro:L J):Prop where
 in1:∀n∈ro,∃c∈cs,c.nm=n
 in2:∀c∈cs,c.v≠B->c.nm∈ro
 le:∀c∈cs,c.nm<=day
noncomputable def voD(vs:L (J×D×L (J×J))):L (D×D):=vs.map λv=>(.int v.1,.tup [v.2.1,.tup ?qk])
def ChI(T:J)(c:Cl):Prop:=c.ds.foldl (chS T) []=c.ds/\c.la=thr T c.ds
def qco{T:J}(a:ds≠[])(hf:ds.foldl (chS T) []=ds)(hd:day<=thr T ds):(ds++[day]).foldl (chS T) []=ds++[day]/\thr T (ds++[day])=day+T:=by
 unfold thr at hd;rw[hf,Qju a]at hd;have hd:day<=ds.getLast a+T:=hd;have e:(ds++[day]).foldl (chS T) []=ds++[day]:=by
  rw[Qx6,hf];show chS T ds day=_;unfold chS;rw[dif_neg a,Z6 hd]
 refine⟨e,?_⟩;unfold thr;rw[e];simp
section
variable {sz:Zt}{T d:J}{fo jo:L (D×D)}{ro:L J}{rest:Y2}{cs:L Cl}
def qaj(h:Op day cs ro cs' f):(∀c∈cs',(∃x∈cs,x.nm=c.nm)\/c.nm=day)/\cs'.length<=cs.length+1/\f.length+cs.length<=ro.length+cs'.length+cs.length:=by
 have e:∀(cs:L Cl) b,(upd cs b).length=cs.length:=λcs b=>by unfold upd; simp
 have un:∀(cs:L Cl) b,∀c∈upd cs b,∃x∈cs,x.nm=c.nm:=λcs b c hc=>by
  have:c.nm∈(upd cs b).map (·.nm):=Qqj.mpr ⟨c,hc,rfl⟩;rw[qqh]at this;exact Qqj.mp this
 cases h with
 |same=>exact⟨λc hc=>.inl ⟨c,hc,rfl⟩,by lia,by lia⟩
 |upd hc hn hv=>exact⟨λc hc=>.inl (un _ _ c hc),by rw[e]; lia,by rw[e]; lia⟩
 |vein ps=>
  refine⟨λc hc=>?_,by simp,?_⟩
  ·obtain⟨x,a,rfl⟩:=Qqj.mp hc;exact .inl ⟨x,a,(qzr day ps x).1.symm⟩
  ·have:=Qzd (hit day ps) cs;simp
   lia
 |@stake c ps hn hv=>
  refine⟨λx a=>?_,by simp,?_⟩
  ·rcases Qqr.mp a with a|a
   ·exact .inl ⟨x,a,rfl⟩
   ·cases Qqy.mp a;exact .inr ((qzr day ps c).1.trans hn)
  ·split<;>simp<;>lia
 |@part0 c b p hc hn hv pn g h=>
  refine⟨λx a=>?_,by simp[e],by simp[e]<;>lia⟩;rcases Qqr.mp a with a|a
  ·exact .inl (un _ _ x a)
  ·cases Qqy.mp a; exact .inr pn
 |@part1 c b p A R hc hn hv pn g h hr=>
  subst hr;refine⟨λx a=>?_,by simp[e],by simp[e]; lia⟩;rcases Qqr.mp a with a|a
  ·exact .inl (un _ _ x a)
  ·cases Qqy.mp a; exact .inr pn
inductive CF':D->Prop
 |work (n:J):CF' (.tup [sO "work",.int n])
 |give (n:J):CF' (.tup [sO "give",.int n])
 |sell (n o:J) (ho:1<=o/\o<=40):CF' (.tup [sO "sell",.int n,.int o])
 |part (n s l o:J) (hs:s=0\/s=1) (ho:1<=o/\o<=40):CF' (.tup [sO "part",.int n,.int s,.int l,.int o])
def qas(cs:L Cl)(n):(∀c∈cs,c.nm≠n)\/∃c∈cs,c.nm=n:=by
 by_cases h:∃c∈cs,c.nm=n
 ·exact .inr h
 ·exact .inl λc hc e=>h ⟨c,hc,e⟩
theorem qv6{n:J}:∀{l},n∈l->∃A R,l=A++n::R/\n ∉ A
 |a::r,h=>by
  by_cases e:a=n
  ·exact⟨[],r,by rw[e]; rfl,by simp⟩
  ·rcases Qqb.mp h with z|z
   ·exact absurd z.symm e
   ·obtain⟨A,R,rfl,hA⟩:=qv6 z;exact⟨a::A,R,rfl,by simp only[Qqb,not_or]; exact⟨λq=>e q.symm,hA⟩⟩
def qfi(m)(I:Inv rest cs)(i day)(hd:i<day)(hr:ro.length+cs.length<900)(F:∀c∈cs,c.ds.length<899)(Rw:RowI i cs ro)(p:∀c∈cs,ChI T c)(hf:CF' f):
  ∃w cs' ro' a,(∀sz:Zt,callD fns (m+4) 26 [Y1 3,Z day,f] ?k=Y (sO w,FC sz T d fo jo cs' ro' a))/\Inv a cs'/\Op day cs ro cs' ro'/\(∀c∈cs',∃x,x.ds.length<=c.ds.length/\c.ds.length<=x.ds.length+1/\(x∈cs))/\Tr T day (cs.map Cl.z) ro f w (cs'.map Cl.z) ro':=by
 have u:∀{c:Cl},c∈cs->c.z∈cs.map Cl.z:=λh=>Qqj.mpr ⟨_,h,rfl⟩;have self:∀c∈cs,∃x,x.ds.length<=c.ds.length/\c.ds.length<=x.ds.length+1/\x∈cs:=λc hc=>⟨c,by lia,by lia,hc⟩
 have g:∀{c t:Cl},c∈cs->c.ds.length<=t.ds.length->t.ds.length<=c.ds.length+1->∀y∈upd cs t,∃x,x.ds.length<=y.ds.length/\y.ds.length<=x.ds.length+1/\x∈cs:=λ{c t} hc h1 h2 y H=>by
  obtain⟨z,G,rfl⟩:=Qqj.mp H
  by_cases e:z.nm=t.nm
  ·rw[Z6 e]; exact⟨c,h1,h2,hc⟩
  ·rw[Z5 e]; exact self z G
 have no:∀n w r,(∀c∈cs,c.nm≠n)->∃k cs' ro' a,(∀sz:Zt,callD fns (m+4) 26 [Y1 3,Z day,Y9 (sO w::Z n::r)] ?k=Y (sO k,FC sz T d fo jo cs' ro' a))/\Inv a cs'/\Op day cs ro cs' ro'/\(∀c∈cs',∃x,x.ds.length<=c.ds.length/\c.ds.length<=x.ds.length+1/\(x∈cs))/\Tr T day (cs.map Cl.z) ro (Y9 (sO w::Z n::r)) k (cs'.map Cl.z) ro':=λn w r h=>
  ⟨"noclaim",cs,ro,rest,λ_=>chg_no (m+3) day n w r h,I,.same,self,.no λc hc=>by obtain⟨x,C,rfl⟩:=Qqj.mp hc; exact h x C⟩
 have v:∀c w r,c∈cs->over day c->∃k cs' ro' a,(∀sz:Zt,callD fns (m+4) 26 [Y1 3,Z day,Y9 (sO w::Z c.nm::r)] ?k=Y (sO k,FC sz T d fo jo cs' ro' a))/\Inv a cs'/\Op day cs ro cs' ro'/\(∀c∈cs',∃x,x.ds.length<=c.ds.length/\c.ds.length<=x.ds.length+1/\(x∈cs))/\Tr T day (cs.map Cl.z) ro (Y9 (sO w::Z c.nm::r)) k (cs'.map Cl.z) ro':=λc w r h b=>
  ⟨"ended",cs,ro,rest,λ_=>qig (m+2) I day w r h b,I,.same,self,.over (c:=c.z) (u h) b⟩
 cases hf with
 |work n=>
  rcases qas cs n with h|⟨c,hc,rfl⟩
  ·exact no n _ _ h
  ·by_cases b:over day c
   ·exact v c _ _ hc b
   ·have h:=λsz:Zt=>qie (sz:=sz) (T:=T) (d:=d) (fo:=fo) (jo:=jo) (ro:=ro) (m+1) I day hc b (F c hc) (qco (I.ne c hc).1 (p c hc).1 (by rw[<- (p c hc).2]; unfold over at b; lia)).2;refine⟨"good",upd cs { c with ds:=c.ds++[day],la:=day+T },ro,_,?_,I.put hc rfl rfl ⟨by simp,by have:=F c hc; simp; lia⟩,.upd hc rfl rfl,g hc (by simp) (by simp),by rw[qgc]; exact .work (c:=c.z) (u hc) b⟩
    ·intro sz;unfold FC;rw[qjj (c':={ c with ds:=c.ds++[day],la:=day+T }) hc I.nd rfl rfl];exact h sz
 |give n=>
  rcases qas cs n with h|⟨c,hc,rfl⟩
  ·exact no n _ _ h
  ·by_cases b:over day c
   ·exact v c _ _ hc b
   ·refine⟨"good",upd cs { c with gv:=Y day },ro,_,?_,I.cell hc rfl rfl rfl,.upd hc rfl rfl,g hc (Qqv _) (by simp),by rw[qgc]; exact .give (c:=c.z) (u hc) b⟩;intro sz;unfold FC;rw[qjj (c':={ c with gv:=Y day }) hc I.nd rfl rfl];exact qih (m+2) I day hc b
 |sell n o E=>
  rcases qas cs n with h|⟨c,hc,rfl⟩
  ·exact no n _ _ h
  ·by_cases b:over day c
   ·exact v c _ _ hc b
   ·refine⟨"good",upd cs { c with o:=o },ro,_,?_,I.cell hc rfl rfl rfl,.upd hc rfl rfl,g hc (Qqv _) (by simp),by rw[qgc]; exact .sell (c:=c.z) (u hc) b⟩;intro sz;unfold FC;rw[qjj (c':={ c with o:=o }) hc I.nd rfl rfl];exact qif (m+2) I day o hc b
 |part n s l o hs E=>
  rcases qas cs n with h|⟨c,hc,rfl⟩
  ·exact no n _ _ h
  ·by_cases b:over day c
   ·exact v c _ _ hc b
   ·obtain⟨w,cs',ro',a,h1,h2,P,N,K⟩:=qno (T:=T) (d:=d) (fo:=fo) (jo:=jo) m I day l o s hs hc hr (λx C e=>by have:=Rw.le x C; lia) (λhv=>qv6 (Rw.in2 c hc hv)) b;have A:=I.get hc;have j:=(I.at_ c hc).2;refine⟨w,cs',ro',a,λsz=>?_,h2,P,N,K⟩;have h1:=h1 sz;have hst:=qqr (sz:=sz) (T:=T) (d:=d) (fo:=fo) (jo:=jo) (bo:=qzh cs) (ro:=rowD ro) (m+2) c day j;rcases qae b with e|e
    ·rw[e]at hst;exact qzz 8 [18,27] 4 (λq=>_/\_/\_/\_/\_/\q) [.q ?E,.q ?E,.r c.cell,.c ?qi,.c (sO w,FC sz T d fo jo cs' ro' a)] ⟨A,A,j,hst,h1,rfl⟩
    ·rw[e]at hst;exact qzz 8 [18,27] 4 (λq=>_/\_/\_/\_/\_/\q) [.q ?E,.q ?E,.r c.cell,.c (sO "stands",FC sz T d fo jo cs ro rest),.c (sO w,FC sz T d fo jo cs' ro' a)] ⟨A,A,j,hst,h1,rfl⟩
end
inductive Jn (fo jo:L (D×D)) (a b f:J):String->L (D×D)->Prop
 |nv1 (h:dget fo (.int a)=B):Jn fo jo a b f "novein" jo
 |nv2 {x} (h:dget fo (.int a)=Y x) (h2:dget fo (.int b)=B):Jn fo jo a b f "novein" jo
 |ord {x y} (h:dget fo (.int a)=Y x) (h2:dget fo (.int b)=Y y) (h3:a<=b):Jn fo jo a b f "order" jo
 |joi {x y z} (h:dget fo (.int a)=Y x) (h2:dget fo (.int b)=Y y) (h3:¬ a<=b) (h4:dget jo (.int a)=Y z):Jn fo jo a b f "joined" jo
 |good {x y} (h:dget fo (.int a)=Y x) (h2:dget fo (.int b)=Y y) (h3:¬ a<=b) (h4:dget jo (.int a)=B):Jn fo jo a b f "good" (dput jo (.int a) (.tup [.int b,.int f]))
def vst_z(day)(ps)(c):(vst day ps c).z=vst day ps c.z:=by
 unfold vst
 show(if hit day ps c then _ else c).z=if hit day ps c then _ else _
 split<;>rfl
def vsts_z(day)(ps)(cs:L Cl):(cs.map ?qq).map Cl.z=(cs.map Cl.z).map ?qq/\(cs.filter (hit day ps)).map (·.nm)=((cs.map Cl.z).filter (hit day ps)).map (·.nm):=by
 constructor
 ·rw[Qqp,Qqp];exact Qz5 λc _=>vst_z day ps c
 ·rw[Qjj,Qqp]
  rfl
section
variable {sz:Zt}{T d:J}{fo jo:L (D×D)}{ro:L J}{rest:Y2}{cs:L Cl}
def qwl(m)(st)(day)(b:1<=day)(a:day<=400):callD fns (m+2) 41 [Z day] st=Y (.non,st):=
 qzz 0 [] 2 (λq=>_/\_/\q) [.b O,.b O] ⟨Z3 b,Z3 a,rfl⟩
def qja(m){S:Y2}(c:1<=day)(b:day<=400)(hd:d<day)(hs:callD fns (m+6) 8 [sz.s,f] ?k=Y (.bl O,FC sz T d fo jo cs ro rest))(a:callD fns (m+6) 44 [Y1 0,f] (FC sz T day fo jo cs ro rest)=Y (v,S)):
  callD fns (m+7) 43 [Y1 0,Z day,f] ?k=Y (v,S):=
 qzz 8 [41,8,44] 7 (λq=>_/\_/\_/\_/\q) [.c (.non,FC sz T d fo jo cs ro rest),.c (.bl O,FC sz T d fo jo cs ro rest),.b Y6,.c (v,S)] ⟨qwl (m+4) ?k day c b,hs,Z4 (show ¬ day<=d by lia),a,rfl⟩
def qgv(m){S:Y2}(hf:CF' f)(h:callD fns (m+4) 26 [Y1 3,Z d,f] ?k=Y (v,S)):callD fns (m+5) 44 [Y1 0,f] ?k=Y (v,S):=by
 cases hf with
 |work n=>exact qzz 8 [26] 5 (λq=>_/\q) [.c (v,S)] ⟨h,rfl⟩
 |give n=>exact qzz 8 [26] 5 (λq=>_/\q) [.c (v,S)] ⟨h,rfl⟩
 |sell n o _=>exact qzz 8 [26] 5 (λq=>_/\q) [.c (v,S)] ⟨h,rfl⟩
 |part n s l o hs _=>exact qzz 8 [26] 5 (λq=>_/\q) [.c (v,S)] ⟨h,rfl⟩
def qim(m)(a b f)(hj:jo.length<1000):∃w c,(∀sz:Zt,callD fns (m+2) 44 [Y1 0,Y9 [sO "join",Z a,Z b,Z f]] ?k=Y (sO w,FC sz T d fo c cs ro rest))/\Jn fo jo a b f w c/\c.length<=jo.length+1/\(c=jo\/(b<a/\(dget fo (Z b)).isSome/\c=dput jo (Z a) (Y9 [Z b,Z f]))):=by
 have hl:decide (jo.length<lim)=true:=Z3 (by unfold lim; lia);have dl:∀v,(dput jo (Z a) v).length<=jo.length+1:=λv=>by unfold dput; split<;>simp
 cases h1:dget fo (Z a) with
 |none=>exact⟨"novein",jo,λsz=>qzz 8 [] 2 (λq=>_/\q) [.q B] ⟨h1,rfl⟩,.nv1 h1,by lia,.inl rfl⟩
 |some x=>
  cases h2:dget fo (Z b) with
  |none=>exact⟨"novein",jo,λsz=>qzz 8 [] 2 (λq=>_/\_/\q) [.q (Y x),.q B] ⟨h1,h2,rfl⟩,.nv2 h1 h2,by lia,.inl rfl⟩
  |some y=>
   by_cases e:a<=b
   ·exact⟨"order",jo,λsz=>qzz 8 [] 2 (λq=>_/\_/\_/\q) [.q (Y x),.q (Y y),.b O] ⟨h1,h2,Z3 e,rfl⟩,.ord h1 h2 e,by lia,.inl rfl⟩
   ·cases g:dget jo (Z a) with
    |some z=>exact⟨"joined",jo,λsz=>qzz 8 [] 2 (λq=>_/\_/\_/\_/\q) [.q (Y x),.q (Y y),.b Y6,.q (Y z)] ⟨h1,h2,Z4 e,g,rfl⟩,.joi h1 h2 e g,by lia,.inl rfl⟩
    |none=>exact⟨"good",dput jo (Z a) (Y9 [Z b,Z f]),λsz=>qzz 8 [] 2 (λq=>_/\_/\_/\_/\_/\q) [.q (Y x),.q (Y y),.b Y6,.q B,.b O] ⟨h1,h2,Z4 e,g,hl,rfl⟩,.good h1 h2 e g,dl _,.inr ⟨by lia,rfl,rfl⟩⟩
def qxp(h:∀p∈kvs,eqT p.1 (Z n)=Y6):dput kvs (Z n) v=kvs++[(Z n,v)]:=by
 unfold dput;have:kvs.any (λp=>eqT p.1 (Z n))=false:=by
  rw[Qj7];intro p a;rw[h p a];simp
 rw[this];simp
def qgb(h:∀v∈vs,v.1≠n)(s)(ps):dput ?R (Z n) (Y9 [s,Y9 ?i])=voD (vs++[(n,s,ps)]):=by
 rw[qxp λp a=>?_]
 ·simp[voD]
 ·obtain⟨v,hv,rfl⟩:=Qqj.mp a;show(v.1==n)=Y6;simpa using h v hv
def qil(m)(I:Inv rest cs)(s)(ps)(vs)(hv:∀v∈vs,v.1≠d)(a:vs.length<1000)(hl:ps.length<1000)(hr:ro.length+cs.length<1000):
  (∀sz:Zt,callD fns (m+6) 44 [Y1 0,Y9 [sO "vein",s,Y9 ?i]] (FC sz T d ?R jo cs ro rest)=Y (sO "good",FC sz T d (voD (vs++[(d,s,ps)])) jo (cs.map (vst d ps)) (ro++(cs.filter (hit d ps)).map (·.nm)) (cs.foldl (rvF Cl.cell d ps) rest)))/\Inv (cs.foldl (rvF Cl.cell d ps) rest) (cs.map (vst d ps)):=by
 obtain⟨h1,h2⟩:=ql6 (T:=T) (d:=d) (fo:=voD (vs++[(d,s,ps)])) (jo:=jo) m I d ps (by unfold lim; lia) hr;refine⟨λsz=>?_,h2⟩;have h1:=h1 sz;have hb:decide ((?R).length<lim)=true:=Z3 (by unfold voD lim; rw[Qqz]; lia);rw[<- qgb hv]at h1 ⊢;exact qzz 8 [25] 6 (λq=>_/\_/\q) [.b O,.c (.non,FC sz T d (dput ?R (Z d) (Y9 [s,Y9 ?i])) jo (cs.map (vst d ps)) (ro++(cs.filter (hit d ps)).map (·.nm)) (cs.foldl (rvF Cl.cell d ps) rest))] ⟨hb,h1,rfl⟩
end
section
variable {sz:Zt}{T d:J}{jo:L (D×D)}{ro:L J}{rest:Y2}{cs:L Cl}
noncomputable def FSf(sz:Zt)(T d:J)(fo jo bo:L (D×D))(ro:L D)(rest:Y2):Y2:=
 .obj 678 [("extent",sz.s),("year",.int T),("day",.int d),("found",.loc 1),("joints",.loc 2),("staked",.loc 3),("dug",.loc 6),("debts",.loc 7)]::.dic Y6 fo::.dic O jo::.obj 383 [("year",.int T),("book",.loc 4),("row",.loc 5)]::.dic O bo::.lst O ro::.dic O sz.dg::.lst O sz.es::rest
def thr1(T d):thr T [d]=d+T:=by
 unfold thr;show((chS T [] d).getLast?.getD 0)+T=_;unfold chS;rw[dif_pos rfl]
 rfl
theorem qyn:∀{vs}{v},v∈vs->(vs.map (·.1)).Nodup->dget ?R (Z v.1)=Y (Y9 [v.2.1,Y9 ?qk])
 |a::r,v,h,hn=>by
  unfold dget voD;rw[Qqg,Qzq];show Option.map _ (match (a.1==v.1) with|true=>_|false=>_)=_;rw[Qqg,Qze]at hn;rcases Qqb.mp h with rfl|h'
  ·simp
  ·have e:(a.1==v.1)=false:=by
    rw[beq_eq_false_iff_ne];exact λe=>hn.1 (Qqj.mpr ⟨v,h',e.symm⟩)
   rw[e];exact qyn h' hn.2
def qgj(m)(I:Inv rest cs)(o)(g)(vs)(t:(vs.map (·.1)).Nodup)(F:vs.length<1000)(i:∀v∈vs,v.2.2.length<=16)(hr:ro.length+cs.length<900)(G:∀x∈cs,x.nm≠d):
  ∃cs' ro' b,(∀sz:Zt,callD fns (m+6) 44 [Y1 0,.tup ?t] (FC sz T d ?R jo cs ro rest)=Y (sO "good",FC sz T d ?R jo cs' ro' b))/\Inv b cs'/\Op d cs ro cs' ro'/\(∀c∈cs',c∈cs\/c.ds.length=1)/\cs'.map Cl.z=cs.map Cl.z++[vst d (vs.flatMap (·.2.2)) ⟨d,0,o,g,[d],d+T,B,B⟩]/\ro'=ro++(if hit d (vs.flatMap (·.2.2)) ⟨d,0,o,g,[d],d+T,B,B⟩ then [d] else []):=by
 have keys:keysOf ?R=vs.map λv=>D.int v.1:=by unfold keysOf voD; rw[Qqp]; rfl
 have n:∀k,((vs.take k).flatMap (·.2.2)).length<=16*k:=λk=>by
  rw[List.length_flatMap];have:∀l:L (J×D×L (J×J)),(∀v∈l,v.2.2.length<=16)->(l.map λv=>v.2.2.length).sum<=16*l.length:=λl=>by
   induction l with
   |nil=>intro _; simp
   |cons a r E=>
    intro h;have h1:=h a (Qzk ..);have h2:=E λv hv=>h v (Qq3 _ hv);simp only[Qqg,List.sum_cons,Qqh]
    lia
  have h:=this (vs.take k) λv hv=>i v (Qjt hv);have:(vs.take k).length<=k:=by rw[Qq9]; lia
  lia
 obtain⟨ps,e⟩:∃ps,vs.flatMap (·.2.2)=ps:=⟨_,rfl⟩
 have u:ps.length<lim:=by
  have:=n vs.length;rw[Qzg,e]at this;unfold lim
  lia
 have all:∀sz:Zt,callD fns (m+6) 44 [Y1 0,.tup ?t] (FC sz T d ?R jo cs ro rest)=Y (sO "good",FC sz T d ?R jo (cs++[vst d ps ⟨d,(rest++[Ya.lst O ?i]).length,o,g,[d],thr T [d],B,B⟩]) (ro++if hit d ps ⟨d,(rest++[Ya.lst O ?i]).length,o,g,[d],thr T [d],B,B⟩ then [d] else []) (rest++[Y4 O ?i]++[Y4 O [Z d],(vst d ps ⟨d,(rest++[Ya.lst O ?i]).length,o,g,[d],thr T [d],B,B⟩).cell]))/\Inv (rest++[Y4 O ?i]++[Y4 O [Z d],(vst d ps ⟨d,(rest++[Ya.lst O ?i]).length,o,g,[d],thr T [d],B,B⟩).cell]) (cs++[vst d ps ⟨d,(rest++[Ya.lst O ?i]).length,o,g,[d],thr T [d],B,B⟩]):=λsz=>by
  obtain⟨τ',st',h1,h2⟩:=qab (f:=λτ st x=>(setT (.var 3) x τ).bind λτ'=>(RL (callD fns (m+4))).ex τ' st [.expr (.meth (.var 2) .extend [.idx (.didx (.attr 678 ?L "found") (.var 3)) (.lit (Z 1))])]) (s:=.tup (keysOf ?R)) (ds:=vs.map λv=>D.int v.1) (st:=FSf sz T d ?R jo (qzh cs) (rowD ro) (rest++?I))
   (λk τ' st'=>∃x,τ'=[Y (Y1 0),Y (.tup ?t),Y (Y1 (rest.length+8)),x]/\st'=FSf sz T d ?R jo (qzh cs) (rowD ro) (rest++[Y4 O (((vs.take k).flatMap (·.2.2)).map cD)]))
   ⟨B,rfl,by simp⟩ (by simp[Src.size,keys]) (λk τ' st' _=>by rw[keys]; rfl) (λk τ' st' x A h=>by
    obtain⟨y,rfl,rfl⟩:=h;rw[Qqw]at A;obtain⟨v,hv,rfl⟩:=Qqa.mp A;have hk:=(Qqk.mp hv).1;have w:=(Qqk.mp hv).2;have tk:vs.take (k+1)=vs.take k++[v]:=by rw[Qzy hk,w]
    have H:=qyn (Qqi hv) t;have C:=gl (st:=rest) (c:=Y4 O (((vs.take k).flatMap (·.2.2)).map cD))
    have hb:decide ((((vs.take k).flatMap (·.2.2)).map cD).length+(?qk).length<=lim)=true:=Z3 (by
     have:=n k;have:=i v (Qqi hv);rw[Qqz,Qqz];unfold lim
     lia)
    refine⟨[Y (Y1 0),Y (.tup ?t),Y (Y1 (rest.length+8)),Y (Z v.1)],FSf sz T d ?R jo (qzh cs) (rowD ro) ((rest++[Ya.lst O (((vs.take k).flatMap (·.2.2)).map cD)]).set rest.length (Y4 O (((vs.take k).flatMap (·.2.2)).map cD++v.2.2.map cD))),(qze 8 [] 4 (λq=>_/\_/\_/\_/\q) [.r (Y4 O (((vs.take k).flatMap (·.2.2)).map cD)),.q (Y (.tup [v.2.1,.tup ?qk])),.r (Y4 O (((vs.take k).flatMap (·.2.2)).map cD)),.b O] ⟨C,H,C,hb,rfl⟩),Y (Z v.1),rfl,?_⟩;rw[sl,tk]
    simp)
  obtain⟨x,rfl,rfl⟩:=h2;rw[Qqz,Qzg]at h1;rw[e]at h1;have j:stepEx (RL (callD fns (m+4))) [Y (Y1 0),Y (.tup ?t),Y (Y1 (rest.length+8)),B] (FC sz T d ?R jo cs ro (rest++?I)) (.ford (.var 3) (.attr 678 ?L "found") [.expr (.meth (.var 2) .extend [.idx (.didx (.attr 678 ?L "found") (.var 3)) (.lit (Z 1))])])=Y (.nx [Y (Y1 0),Y (.tup ?t),Y (Y1 (rest.length+8)),x],FC sz T d ?R jo cs ro (rest++[Y4 O ?i])):=by
   have N:(RL (callD fns (m+4))).ev [Y (Y1 0),Y (.tup ?t),Y (Y1 (rest.length+8)),B] (FC sz T d ?R jo cs ro (rest++?I)) (.attr 678 ?L "found")=Y (Y1 1,FC sz T d ?R jo cs ro (rest++?I)):=qzc 8 [] 4 (λq=>q) [] rfl;show((RL (callD fns (m+4))).ev _ _ _).bind _=_;rw[N];show((loop (.tup (keysOf ?R)) _ ((?R).length+1) 0 _ (FSf sz T d ?R jo (qzh cs) (rowD ro) (rest++?I))).bind _)=_;have:(?R).length+1=(Src.tup (keysOf ?R)).size (FSf sz T d ?R jo (qzh cs) (rowD ro) (rest++?I))+1:=by simp[Src.size,keysOf]
   rw[this,h1]
   rfl
  have ⟨z,K⟩:=qg1 (sz:=sz) (T:=T) (d:=d) (fo:=voD vs) (jo:=jo) (ro:=ro) m (I.more [Y4 O ?i]) d o g (q:=Y1 (rest.length+8)) (λbo r=>by
   show listAt _ _=_;unfold listAt;have:(FS sz T d ?R jo bo (rowD ro) (rest++[Y4 O ?i]++r))[rest.length+8]?=(rest++[Ya.lst O ?i]++r)[rest.length]?:=rfl;rw[this]
   simp) u hr G rfl
  have p:∀cs' ro' b,callD fns (m+4) 23 [Y1 3,Z d,Z o,rD g,Y1 (rest.length+8)] (FC sz T d ?R jo cs ro (rest++[Y4 O ?i]))=Y (.non,FC sz T d ?R jo cs' ro' b)->callD fns (m+6) 44 [Y1 0,.tup ?t] (FC sz T d ?R jo cs ro rest)=Y (sO "good",FC sz T d ?R jo cs' ro' b):=λcs' ro' b z=>
   qzz 8 [23] 6 (λq=>_/\_/\q) [.s (.nx [Y (Y1 0),Y (.tup ?t),Y (Y1 (rest.length+8)),x],FC sz T d ?R jo cs ro (rest++[Y4 O ?i])),.c (.non,FC sz T d ?R jo cs' ro' b)] ⟨j,z,rfl⟩
  exact⟨p _ _ _ z,K⟩
 refine⟨_,_,_,λsz=>(all sz).1,(all ⟨.non,[],[]⟩).2,.stake ps rfl rfl,?_,?_,?_⟩
 ·intro c hc;rcases Qqr.mp hc with hc|hc
  ·exact .inl hc
  ·cases Qqy.mp hc;rw[(qzr _ _ _).2.2];exact .inr rfl
 ·rw[Qqm,List.map_singleton,vst_z,e,thr1]
  rfl
 ·rw[e,thr1]
  rfl
end
noncomputable def stB(cs:L Cl)(day:J)(n:J):Bool:=match cs.find? λc=>c.nm==n with
 |some c=>decide (stW c day = "stands")
 |none=>Y6
def stB_of(d:(cs.map (·.nm)).Nodup)(hc:c∈cs)(day):stB cs day c.nm=decide (stW c day = "stands"):=by
 have:cs.find? (λx=>x.nm==c.nm)=Y c:=by
  induction cs with
  |nil=>cases hc
  |cons a r f=>
   rw[Qqg,Qze]at d;rw[Qzq];rcases Qqb.mp hc with rfl|b
   ·simp
   ·have e:(a.nm==c.nm)=false:=by
     rw[beq_eq_false_iff_ne];exact λe=>d.1 (Qqj.mpr ⟨c,b,e.symm⟩)
    rw[e];exact f d.2 b
 unfold stB;rw[this]
structure Pl where
 a:Y0
 f:Y0
 j:Y0
 s:Y0
 b:Y0
 r:Y0
 T:D
 g:D
 e:D
 bo:L (D×D)
noncomputable abbrev Pl.fc(p:Pl)(sz:D)(d:J):Ya:=.obj 678 [("extent",sz),("year",p.T),("day",.int d),("found",.loc p.f),("joints",.loc p.j),("staked",.loc p.s),("dug",p.g),("debts",p.e)]
noncomputable abbrev Pl.sc(p:Pl):Ya:=.obj 383 [("year",p.T),("book",.loc p.b),("row",.loc p.r)]
structure FA (p:Pl) (sz:D) (d:J) (fo jo:L (D×D)) (cs:L Cl) (ro:L J) (S:Y2):Prop where
 hf:S[p.a]?=Y (p.fc sz d)
 hv:S[p.f]?=Y (.dic O fo)
 hj:S[p.j]?=Y (.dic O jo)
 hs:S[p.s]?=Y p.sc
 hb:S[p.b]?=Y (.dic O p.bo)
 hr:S[p.r]?=Y (.lst O (rowD ro))
 hc:∀c∈cs,∃q y,dget p.bo (.int c.nm)=Y (.loc q)/\S[q]?=Y (c.cel (.loc y))/\S[y]?=Y c.dl
 hk:keysOf p.bo=cs.map λc=>.int c.nm
structure FV (p:Pl) (sz:D) (d:J) (fo jo:L (D×D)) (S:Y2):Prop where
 hf:S[p.a]?=Y (p.fc sz d)
 hv:S[p.f]?=Y (.dic O fo)
 hj:S[p.j]?=Y (.dic O jo)
def FA.v{S:Y2}(A:FA p sz d fo jo cs ro S):FV p sz d fo jo S:=⟨A.hf,A.hv,A.hj⟩
def FV.app{S:Y2}(A:FV p sz d fo jo S)(X):FV p sz d fo jo (S++X):=⟨ga X A.hf,ga X A.hv,ga X A.hj⟩
section
variable {p:Pl}{sz:D}{d:J}{fo jo:L (D×D)}{ro:L J}{S:Y2}{cs:L Cl}
def qk7(m)(A:FA p sz d fo jo cs ro S)(nd:(cs.map (·.nm)).Nodup)(g:∀n∈ro,∃c∈cs,c.nm=n)(hl:ro.length<1000):callD fns (m+3) 54 [Y1 p.a] S=Y (Y1 S.length,S++[Y4 O (rowD (ro.filter (stB cs d)))]):=by
 have b:listAt S p.r=Y (rowD ro):=by unfold listAt; rw[A.hr]
 have j:(?v).ev [Y (Y1 p.s),Y (Z d)] S (.attr 383 ?L "row")=Y (Y1 p.r,S):=qzc 0 [] 1 (λq=>_/\q) [.r p.sc] ⟨A.hs,rfl⟩;have h:=qkj (it:=.attr 383 ?L "row") (elt:=.var 0) (c:=.cmp .Eq (.mcall 301 18 "state" (.didx (.attr 383 (.var 2) "book") ?L) [.var 1]) (.lit (sO "stands"))) (sr:=[B,Y 1,Y 0]) (p:=λx=>match x with|Z n=>stB cs d n|_=>Y6) (s:=.lst (Y1 p.r)) id
  (by show((?v).ev _ _ _).bind _=_; rw[j]; show(listAt S p.r).map _=_; rw[b]; rfl) (qqq b) (qzn b) rfl (by simp; unfold lim; lia)
  (λi x k=>by
   rw[Qqw]at k;obtain⟨n,hn,rfl⟩:=Qqa.mp k;obtain⟨c,hc,rfl⟩:=g n (Qqi hn);obtain⟨q,y,f,a,_⟩:=A.hc c hc;have hst:=qi3 m c d a;show _=Y (stB cs d c.nm,_);rw[stB_of nd hc];rcases qxq c d with⟨e,_⟩|⟨e,_⟩|⟨e,_⟩|⟨e,_⟩<;>rw[e]at hst ⊢
   ·exact qzf 0 [18] 1 (λq=>_/\_/\_/\_/\_/\q) [.r p.sc,.r (.dic O p.bo),.q (Y (Y1 q)),.r (c.cel (Y1 y)),.c (sO "unvested",S)] ⟨A.hs,A.hb,f,a,hst,rfl⟩
   ·exact qzf 0 [18] 1 (λq=>_/\_/\_/\_/\_/\q) [.r p.sc,.r (.dic O p.bo),.q (Y (Y1 q)),.r (c.cel (Y1 y)),.c (sO "stands",S)] ⟨A.hs,A.hb,f,a,hst,rfl⟩
   ·exact qzf 0 [18] 1 (λq=>_/\_/\_/\_/\_/\q) [.r p.sc,.r (.dic O p.bo),.q (Y (Y1 q)),.r (c.cel (Y1 y)),.c (sO "given",S)] ⟨A.hs,A.hb,f,a,hst,rfl⟩
   ·exact qzf 0 [18] 1 (λq=>_/\_/\_/\_/\_/\q) [.r p.sc,.r (.dic O p.bo),.q (Y (Y1 q)),.r (c.cel (Y1 y)),.c (sO "fallen",S)] ⟨A.hs,A.hb,f,a,hst,rfl⟩)
  (λi x _ _=>qqg _ _ _ _ _ rfl)
 have e:((rowD ro).filter λx=>match x with|Z n=>stB cs d n|_=>Y6).map id=rowD (ro.filter (stB cs d)):=by
  rw[Qx3];unfold rowD;rw[Qjj]
  rfl
 rw[e]at h;exact qzz 0 [] 3 (λq=>_/\_/\_/\_/\q) [.r (p.fc sz d),.r p.sc,.r (p.fc sz d),.c (Y1 S.length,S++[Y4 O (rowD (ro.filter (stB cs d)))])] ⟨A.hf,A.hs,A.hf,h,rfl⟩
noncomputable abbrev clT(c:Cl):D:=.tup [.int c.o,rD c.g,.int c.la,oD c.v,oD c.gv]
def qid(m)(A:FA p sz d fo jo cs ro S)(hc:c∈cs):callD fns (m+2) 53 [Y1 p.a,Z c.nm] S=Y (clT c,S):=by
 obtain⟨q,y,a,h,_⟩:=A.hc c hc;exact qzz 0 [] 2 (λq=>_/\_/\_/\_/\_/\_/\_/\_/\_/\_/\_/\_/\_/\q) [.r (p.fc sz d),.r p.sc,.r p.sc,.r (.dic O p.bo),.q (Y (Y1 q)),.r p.sc,.r (.dic O p.bo),.q (Y (Y1 q)),.r (c.cel (Y1 y)),.r (c.cel (Y1 y)),.r (c.cel (Y1 y)),.r (c.cel (Y1 y)),.r (c.cel (Y1 y))] ⟨A.hf,A.hs,A.hs,A.hb,a,A.hs,A.hb,a,h,h,h,h,h,rfl⟩
end
def qo6{cs a:L Cl}(e:a.map (·.nm)=cs.map (·.nm))(h:∃c∈cs,c.nm=n):∃c∈a,c.nm=n:=by
 have:=Qqj.mpr h;rw[<- e]at this;exact Qqj.mp this
def qfj{cs:L Cl}(h:∃c∈cs,c.nm=n):∃c∈cs++[p],c.nm=n:=by
 obtain⟨c,hc,e⟩:=h;exact⟨c,Qzb _ hc,e⟩
def qvg{Q:Cl->Prop}(h:∀c∈cs,Q c)(a:Q p):∀c∈cs++[p],Q c:=λc hc=>by
 rcases Qqr.mp hc with hc|hc
 ·exact h c hc
 ·cases Qqy.mp hc; exact a
def qq9{Q:Cl->Prop}(h:∀c∈cs,Q c)(b:Q c'):∀c∈upd cs c',Q c:=λc hc=>by
 obtain⟨y,a,rfl⟩:=Qqj.mp hc
 by_cases z:y.nm=c'.nm
 ·rw[Z6 z]; exact b
 ·rw[Z5 z]; exact h y a
def RowI.later(R:RowI a cs ro)(h:a<=day):RowI day cs ro:=
 ⟨R.in1,R.in2,λc hc=>by have:=R.le c hc; lia⟩
def qd1(hd:j<day)(R:RowI j cs ro)(h:Op day cs ro d ro'):RowI day d ro':=by
 have a:∀c∈d,c.nm<=day:=λc hc=>by
  rcases (qaj h).1 c hc with⟨x,b,e⟩|e
  ·have:=R.le x b; lia
  ·lia
 have g:∀c:Cl,c∈cs->∀f:Cl,f.nm=c.nm->f.v=c.v->f.v≠B->f.nm∈ro:=λc hc f hn hv z=>by
  rw[hn]; exact R.in2 c hc (hv▸z)
 cases h with
 |same=>exact⟨R.in1,R.in2,a⟩
 |upd hc hn hv=>exact⟨λn hr=>qo6 qqh (R.in1 n hr),qq9 (Q:=λx=>x.v≠B->x.nm∈ro) R.in2 (g _ hc _ hn hv),a⟩
 |vein ps=>
  refine⟨λn hr=>?_,λc hc=>?_,a⟩
  ·have:∃c∈cs,c.nm=n:=by
    rcases Qqr.mp hr with hr|hr
    ·exact R.in1 n hr
    ·obtain⟨c,hc,e⟩:=Qqj.mp hr;exact⟨c,(Qzn.mp hc).1,e⟩
   obtain⟨c,hc,e⟩:=this;exact⟨_,Qqj.mpr ⟨c,hc,rfl⟩,(qzr day ps c).1.trans e⟩
  ·obtain⟨x,b,rfl⟩:=Qqj.mp hc;rw[(qzr day ps x).1];unfold vst
   cases h:hit day ps x with
   |true=>exact λ_=>Qqn _ (Qqj.mpr ⟨x,Qzn.mpr ⟨b,h⟩,rfl⟩)
   |false=>exact λz=>Qzb _ (R.in2 x b z)
 |@stake c ps hn hv=>
  refine⟨λn hr=>?_,qvg (Q:=λx=>x.v≠B->x.nm∈_) (λx b z=>Qzb _ (R.in2 x b z)) ?_,a⟩
  ·rcases Qqr.mp hr with hr|hr
   ·exact qfj (R.in1 n hr)
   ·refine⟨_,Qqn _ (.head _),(qzr day ps c).1.trans ?_⟩
    cases h:hit day ps c with
    |true=>rw[h]at hr; exact hn.trans (Qqy.mp hr).symm
    |false=>rw[h]at hr; exact nomatch hr
  ·rw[(qzr day ps c).1];unfold vst
   cases h:hit day ps c with
   |true=>exact λ_=>Qqn _ (by rw[hn]; exact .head _)
   |false=>exact λz=>absurd hv z
 |part0 hc hn hv pn i h=>
  exact⟨λn hr=>qfj (qo6 qqh (R.in1 n hr)),qvg (Q:=λx=>x.v≠B->x.nm∈ro) (qq9 R.in2 (g _ hc _ hn hv)) (λz=>absurd (i.trans h) z),a⟩
 |@part1 c f p A Bq hc hn hv pn i h hr=>
  have up:∀{n},n∈ro->n∈A++c.nm::day::Bq:=λ{n} z=>by
   rw[hr]at z;rcases Qqr.mp z with z|z
   ·exact Qzb _ z
   ·rcases Qqb.mp z with z|z
    ·exact Qqn _ (by rw[z]; exact .head _)
    ·exact Qqn _ (.tail _ (.tail _ z))
  refine⟨λn z=>?_,qvg (Q:=λx=>x.v≠B->x.nm∈_) (qq9 (λx b z=>up (R.in2 x b z)) λz=>up (g _ hc _ hn hv z)) (λ_=>by rw[pn]; simp),a⟩
  by_cases e:n=day
  ·exact⟨p,Qqn _ (.head _),pn.trans e.symm⟩
  ·refine qfj (qo6 qqh (R.in1 n ?_));rw[hr];rcases Qqr.mp z with z|z
   ·exact Qzb _ z
   ·rcases Qqb.mp z with z|z
    ·exact Qqn _ (by rw[z]; exact .head _)
    ·rcases Qqb.mp z with z|z
     ·exact absurd z e
     ·exact Qqn _ (.tail _ z)
theorem qv9{ds:L D}{S:Y2}(g:D->Y3 D)(P:Sl->Prop)(a:∀i,it.at S i=Y ds[i]?)(hl:ds.length<lim)(hf:∀τ d,d∈ds->P τ->∃τ',f τ S d=Y (g d,τ',S)/\P τ'):
  ∀(k i:Y0) (τ:Sl),i+k=ds.length->P τ->loopC it f (k+1) i ((ds.take i).filterMap g) τ S=Y (ds.filterMap g,S)
 |0,i,τ,h,p=>by
  have e:i=ds.length:=by lia
  subst e;rw[loopC,a,Qz1 (Qqv _),Qzg];simp only[oBs];rw[Z5 (by have:=Qxc g ds; lia)]
 |k+1,i,τ,h,p=>by
  have hi:i<ds.length:=by lia
  obtain⟨τ',l,j⟩:=hf τ ds[i] (Qxk hi) p;rw[loopC,a,Qqd hi];simp only[oBs];rw[Z5 (by have:=Qxc g (ds.take i); rw[Qq9]at this; lia),l];have b:=qv9 g P a hl hf k (i+1) τ' (by lia) j;rw[Qzy hi,Qjm]at b;simp only[oBs]
  cases c:g ds[i] with
  |none=>simpa[c] using b
  |some x=>simpa[c] using b
def qqz{ds:L D}(g:D->Y3 D)(P:Sl->Prop)(hs:src (RL c) τ st it=Y (s,st))(a:∀i,s.at st i=Y ds[i]?)(b:s.size st=ds.length)(hl:ds.length<lim)(e:P (inner sr τ))(hf:∀τ d,d∈ds->P τ->∃τ',turnC (RL c) t test elt τ st d=Y (g d,τ',st)/\P τ'):
  stepEv (RL c) τ st (.comp t it test elt sr)=Y (Y1 st.length,st++[Y4 O (ds.filterMap g)]):=by
 show((src (RL c) τ st it).bind λp=>(loopC p.1 (turnC (RL c) t test elt) (p.1.size p.2+1) 0 [] (inner sr τ) p.2).map λq=>alloc q.2 (Y4 O q.1))=_;rw[hs];simp only[oBs,b];have:=qv9 g P a hl hf ds.length 0 (inner sr τ) (by lia) e;rw[Qke,List.filterMap_nil]at this;rw[this]
 rfl
def qk3(h:setT t d τ=Y a)(b:(RL c).ev a st elt=Y (x,st)):turnC (RL c) t B elt τ st d=Y (Y x,a,st):=by
 unfold turnC;rw[h];simp only[oBs,b,oMs]
def turn_if(h:setT t d τ=Y a)(e:(RL c).tst a st q=Y (b,st))(f:b=O->(RL c).ev a st elt=Y (x,st)):turnC (RL c) t (Y q) elt τ st d=Y (if b then Y x else B,a,st):=by
 unfold turnC;rw[h];simp only[oBs,e]
 cases b with
 |false=>rfl
 |true=>rw[Z6 rfl,f rfl]; rfl
noncomputable def szD(W H P:J):D:=.tup [.int W,.int H,.int P]
noncomputable def bD(W H P:J):L (D×D):=[(sO "day",.tup [.int 1,.int 400]),(sO "folk",.tup [.int 1,.int 40]),(sO "x",.tup [.int 0,.int (W - 1)]),(sO "y",.tup [.int 0,.int (H - 1)]),(sO "floor",.tup [.int 0,.int P]),(sO "below",.tup [.int 1,.int P]),(sO "side",.tup [.int 0,.int 1]),(sO "line",.tup [.int 1,.int 23]),(sO "step",.tup [.int 0,.int 4]),(sO "coins",.tup [.int 1,.int 1000000])]
def Fit(W H P:J)(p:J×String):Prop:=∃lo hi,dget (bD W H P) (sO p.2)=Y (.tup [.int lo,.int hi])/\lo<=p.1/\p.1<=hi
def qo2(m)(st)(d:a<=v)(c:v<=b):callD fns (m+1) 1 [Z v,Y9 [Z a,Z b]] st=Y (.bl O,st):=
 qzz 0 [] 1 (λq=>_/\_/\q) [.b O,.b O] ⟨Z3 d,Z3 c,rfl⟩
def qf4(m)(st)(W H P):callD fns (m+1) 0 [szD W H P] st=Y (Y1 st.length,st++?C):=
 qjb 0 [] 1 (Y1 st.length,(st++[Ya.dic O []]).set st.length (.dic O (bD W H P))) (λq=>_/\q) [.r (.dic O [])] ⟨gl (st:=st) (c:=.dic O []),by rw[sl]⟩
def qx4(m)(st)(d:L (J×String))(hl:d.length<1000)(hf:∀p∈d,Fit W H P p):callD fns (m+2) 2 [szD W H P,.tup (d.map λp=>sO p.2),.tup (d.map λp=>Z p.1)] st=Y (.bl O,st++?C):=by
 have h1:(!((((d.map λp=>D.int p.1).length:Y0):J)==((d.map λp=>sO p.2).length:Y0)))=false:=by simp
 have j:∀i,pairAt (d.map λp=>D.int p.1) (d.map λp=>sO p.2) i=(d.map λp=>D.tup [Z p.1,sO p.2])[i]?:=λi=>by
  unfold pairAt;rw[Qqw,Qqw,Qqw];cases d[i]?<;>rfl
 have h:=qqz (t:=.tup [0,1]) (it:=.zip (.var 2) (.var 1)) (sr:=[B,B,Y 3]) (λ_=>Y (.bl O)) (λτ=>∃a b,τ=[a,b,Y ?G])
  (by
   have u:(?v).ev [Y ?c,Y (.tup (d.map λp=>sO p.2)),Y (.tup (d.map λp=>Z p.1)),Y ?G] (st++?C) (.var 2)=Y (.tup (d.map λp=>Z p.1),st++?C):=qqg _ _ _ _ _ rfl;have v:(?v).ev [Y ?c,Y (.tup (d.map λp=>sO p.2)),Y (.tup (d.map λp=>Z p.1)),Y ?G] (st++?C) (.var 1)=Y (.tup (d.map λp=>sO p.2),st++?C):=qqg _ _ _ _ _ rfl;show((?v).ev _ _ (.var 2)).bind _=_;rw[u];show((?v).ev _ _ (.var 1)).bind _=_;rw[v]
   rfl) (λi=>by rw[<- j]; rfl) (by simp[Src.size,rowAt]) (by simp; unfold lim; lia) ⟨B,B,rfl⟩ (λτ x l f=>by
   obtain⟨a,b,rfl⟩:=f;obtain⟨p,f,rfl⟩:=Qqj.mp l;obtain⟨lo,hi,n,o,g⟩:=hf p f;refine⟨[Y (Z p.1),Y (sO p.2),Y ?G],?_,Y (Z p.1),Y (sO p.2),rfl⟩;have:=qzc (fns:=fns) (k:=m) (τ:=[Y (Z p.1),Y (sO p.2),Y ?G]) (st:=st++?C) (e:=.call 1 [.var 0,.didx (.var 2) (.var 1)]) (r:=(.bl O,st++?C)) 0 [1] 1 (λq=>_/\_/\_/\q) [.r (.dic O (bD W H P)),.q (Y (.tup [Z lo,Z hi])),.c (.bl O,st++?C)] ⟨gl (st:=st) (c:=.dic O (bD W H P)),n,qo2 m (st++?C) o g,rfl⟩
   exact qk3 rfl this)
 have s:(d.map λp=>D.tup [Z p.1,sO p.2]).filterMap (λ_=>Y (D.bl O))=(d.map λ_=>O).map .bl:=by
  rw[Qxw,Qqp];exact Qx8▸rfl
 rw[s]at h;have g:bfun (st++?C) .all [.lst ((d.map λ_=>O).map .bl)]=Y (.bl O,st++?C):=by
  show(asBools _).map _=_;rw[asB];exact congrArg (λb=>Y (D.bl b,_)) (by simp)
 exact qzz 0 [0] 2 (λq=>_/\_/\_/\_/\_/\q) [.b Y6,.c (Y1 st.length,st++?C),.c (Y1 (st++[Ya.dic O (bD W H P)]).length,st++?C++[Y4 O ((d.map λ_=>O).map .bl)]),.l ((d.map λ_=>O).map .bl),.c (.bl O,st++?C)] ⟨h1,qf4 m st W H P,h,qzv (st:=st++?C) (nlB (d.map λ_=>O)),g,rfl⟩
def tkl{c:Ya}:(st++[c]).take st.length=st:=by simp
def gB(st:Y2)(c):noLoc (.bl O)=O/\(st++[c]).take st.length=st:=⟨rfl,tkl⟩
section
def qb4(b:1<=n)(a:n<=400):Fit W H P (n,"day"):=⟨1,400,by kernel_rfl,b,a⟩
def qfq(b:1<=n)(a:n<=40):Fit W H P (n,"folk"):=⟨1,40,by kernel_rfl,b,a⟩
def f_x(a:0<=n)(b:n<W):Fit W H P (n,"x"):=⟨0,W - 1,by kernel_rfl,a,by simp; lia⟩
def f_y(a:0<=n)(b:n<H):Fit W H P (n,"y"):=⟨0,H - 1,by kernel_rfl,a,by simp; lia⟩
def qo5(b:1<=n)(a:n<=P):Fit W H P (n,"below"):=⟨1,P,by kernel_rfl,b,a⟩
def f_side(b:0<=n)(a:n<=1):Fit W H P (n,"side"):=⟨0,1,by kernel_rfl,b,a⟩
def f_line(b:1<=n)(a:n<=23):Fit W H P (n,"line"):=⟨1,23,by kernel_rfl,b,a⟩
def f_step(b:0<=n)(a:n<=4):Fit W H P (n,"step"):=⟨0,4,by kernel_rfl,b,a⟩
def s_work(m)(st)(b:1<=n)(a:n<=400):callD fns (m+3) 8 [szD W H P,Y9 [sO "work",Z n]] st=Y (.bl O,st):=
 qzz 0 [2] 3 (λq=>_/\_/\q) [.c (.bl O,st++?C),.g] ⟨qx4 m st (W:=W) (H:=H) (P:=P) [(n,"day")] (by simp) (by simp only[Qqy,forall_eq]; exact qb4 b a),gB st (.dic O (bD W H P)),rfl⟩
def s_give(m)(st)(b:1<=n)(a:n<=400):callD fns (m+3) 8 [szD W H P,Y9 [sO "give",Z n]] st=Y (.bl O,st):=
 qzz 0 [2] 3 (λq=>_/\_/\q) [.c (.bl O,st++?C),.g] ⟨qx4 m st (W:=W) (H:=H) (P:=P) [(n,"day")] (by simp) (by simp only[Qqy,forall_eq]; exact qb4 b a),gB st (.dic O (bD W H P)),rfl⟩
def s_sell(m)(st)(d:1<=n)(c:n<=400)(b:1<=o)(a:o<=40):callD fns (m+3) 8 [szD W H P,Y9 [sO "sell",Z n,Z o]] st=Y (.bl O,st):=
 qzz 0 [2] 3 (λq=>_/\_/\q) [.c (.bl O,st++?C),.g] ⟨qx4 m st (W:=W) (H:=H) (P:=P) [(n,"day"),(o,"folk")] (by simp) (by simp only[Qqb,Qzi,or_false,forall_eq_or_imp,forall_eq]; exact⟨qb4 d c,qfq b a⟩),gB st (.dic O (bD W H P)),rfl⟩
def s_part(m)(st)(h:1<=n)(g:n<=400)(f:0<=s)(e:s<=1)(d:1<=l)(c:l<=23)(b:1<=o)(a:o<=40):callD fns (m+3) 8 [szD W H P,Y9 [sO "part",Z n,Z s,Z l,Z o]] st=Y (.bl O,st):=
 qzz 0 [2] 3 (λq=>_/\_/\q) [.c (.bl O,st++?C),.g] ⟨qx4 m st (W:=W) (H:=H) (P:=P) [(n,"day"),(s,"side"),(l,"line"),(o,"folk")] (by simp) (by simp only[Qqb,Qzi,or_false,forall_eq_or_imp,forall_eq]; exact⟨qb4 h g,f_side f e,f_line d c,qfq b a⟩),gB st (.dic O (bD W H P)),rfl⟩
def s_join(m)(st)(i:1<=a)(h:a<=400)(g:1<=b)(e:b<=400)(d:1<=f)(c:f<=P):callD fns (m+3) 8 [szD W H P,Y9 [sO "join",Z a,Z b,Z f]] st=Y (.bl O,st):=
 qzz 0 [2] 3 (λq=>_/\_/\q) [.c (.bl O,st++?C),.g] ⟨qx4 m st (W:=W) (H:=H) [(a,"day"),(b,"day"),(f,"below")] (by simp) (by simp only[Qqb,Qzi,or_false,forall_eq_or_imp,forall_eq]; exact⟨qb4 i h,qb4 g e,qo5 d c⟩),gB st (.dic O (bD W H P)),rfl⟩
def s_stake(m)(st){g:J×J×J×J}(i:1<=o)(h:o<=40)(f:0<=g.1)(e:g.1<=g.2.2.1)(d:g.2.2.1<W)(c:0<=g.2.1)(b:g.2.1<=g.2.2.2)(a:g.2.2.2<H):callD fns (m+3) 8 [szD W H P,Y9 ?t] st=Y (.bl O,st):=
 qzz 0 [2] 3 (λq=>_/\_/\_/\_/\q) [.c (.bl O,st++?C),.g,.b O,.b O] ⟨qx4 m st (P:=P) [(o,"folk"),(g.1,"x"),(g.2.1,"y"),(g.2.2.1,"x"),(g.2.2.2,"y")] (by simp) (by simp only[Qqb,Qzi,or_false,forall_eq_or_imp,forall_eq]; exact⟨qfq i h,f_x f (by lia),f_y c (by lia),f_x (by lia) d,f_y (by lia) a⟩),gB st (.dic O (bD W H P)),Z3 e,Z3 b,rfl⟩
def Cin(W H:J)(p:J×J):Prop:=0<=p.1/\p.1<W/\0<=p.2/\p.2<H
def qpk(m)(st)(h:Cin W H p):callD fns (m+3) 3 [szD W H P,cD p] st=Y (.bl O,st):=
 qzz 0 [2] 3 (λq=>_/\_/\q) [.c (.bl O,st++?C),.g] ⟨qx4 m st (P:=P) [(p.1,"x"),(p.2,"y")] (by simp) (by simp only[Qqb,Qzi,or_false,forall_eq_or_imp,forall_eq]; exact⟨f_x h.1 h.2.1,f_y h.2.2.1 h.2.2.2⟩),gB st (.dic O (bD W H P)),rfl⟩
theorem qkz:∀(ks:L (L J)),ks.Nodup->∀S,(S++ks).Nodup->ks.foldl addK S=S++ks
 |[],_,S,_=>by simp
 |k::r,h,S,hS=>by
  rw[Qjp];have:addK S k=S++[k]:=by
   unfold addK;rw[Z5];rw[Qxo]at hS;exact λz=>hS.2.2 k z k (Qzk ..) rfl
  rw[this,qkz r (Qze.mp h).2 (S++[k]) (by simpa using hS)];simp
theorem qld:∀ps:L (J×J),(?i).mapM keyD=Y (ps.map λp=>[p.1,p.2])
 |[]=>rfl
 |p::r=>by
  rw[Qqg,Qkf,qld r]
  rfl
def qoq{ps:L (J×J)}(d:ps.Nodup)(hl:ps.length<=16):qvv (Y9 ?i)=Y (Z (ps.length:J)):=by
 show((?i).mapM keyD).bind _=_;rw[qld];have h:(ps.map λp=>[p.1,p.2]).Nodup:=by
  refine List.Pairwise.map _ (λa b c z=>c ?_) d;simp only[List.cons.injEq,and_true]at z;exact Prod.ext z.1 z.2
 show(if (?i).length<=16 then _ else _)=_;rw[Z6 (by simpa using hl)];unfold distinct;rw[qkz _ h [] (by simpa using h)];simp
def s_vein(m)(st){a:L J}{ps:L (J×J)}(z:(a.length:J)=P)(u:a.length<=100)(hs:∀s∈a,0<=s/\s<=4)(A:1<=ps.length)(v:ps.length<=16)(r:ps.Nodup)(hc:∀p∈ps,Cin W H p):callD fns (m+6) 8 [szD W H P,Y9 [sO "vein",Y9 (a.map Z),Y9 ?i]] st=Y (.bl O,st):=by
 have hst:=qx4 (m+1) st (W:=W) (H:=H) (P:=P) (a.map λs=>(s,"step")) (by simp; lia) (λp f=>by obtain⟨s,d,rfl⟩:=Qqj.mp f; exact f_step (hs s d).1 (hs s d).2);rw[Qqp,Qqp]at hst;have y:a.map ((λp:J×String=>sO p.2)∘λs=>(s,"step"))=List.replicate a.length (sO "step"):=by
  rw[List.eq_replicate_iff];refine⟨by simp,λb hb=>?_⟩;obtain⟨s,_,rfl⟩:=Qqj.mp hb
  rfl
 have x:a.map ((λp:J×String=>D.int p.1)∘λs=>(s,"step"))=a.map Z:=rfl;rw[y,x]at hst;have t:binop st .Mult (Y9 [sO "step"]) (Z P)=Y (Y9 (List.replicate a.length (sO "step")),st):=by
  show(if decide (P < -(2 ^ 62))||decide (2 ^ 62<=P)||decide (lim<1*P.toNat) then B else Y (D.tup (List.replicate P.toNat [sO "step"]).flatten,st))=_;have:P.toNat=a.length:=by lia
  rw[Z5 (by simp; unfold lim; lia),this]
  congr 3
  induction a.length with
  |zero=>rfl
  |succ k o=>rw[Qz4,Qxd,o]; rfl
 have l:decide ((1:J)<=((?i).length:Y0))=true:=Z3 (by simp; lia);have j:decide (((?i).length:J)<=16)=true:=Z3 (by simp; lia);have e:=qyi (c:=callD fns (m+3)) (τ:=[Y ?c,Y (Y9 ?i)]) (st:=st) (i:=1) (elt:=.call 3 [Yd 1,Yd 0]) (sr:=[B,Y 0]) ps cD (λ_=>.bl O) rfl rfl (by unfold lim; lia) rfl λp f=>qzc 0 [3] 3 (λq=>_/\q) [.c (.bl O,st)] ⟨qpk m st (P:=P) (hc p f),rfl⟩;have w:ps.map (λ_=>D.bl O)=(ps.map λ_=>O).map .bl:=by rw[Qqp]; rfl
 rw[w]at e;have n:bfun st .all [Yc ((ps.map λ_=>O).map .bl)]=Y (.bl O,st):=by
  show(asBools _).map _=_;rw[asB];exact congrArg (λb=>Y (D.bl b,_)) (by simp)
 have g:qvv (Y9 ?i)=Y (Z ((?i).length:J)):=by rw[qoq r v]; simp
 have h:(((?i).length:J)==((?i).length:Y0))=true:=by simp
 exact qzz 0 [2,3] 6 (λq=>_/\_/\_/\_/\_/\_/\_/\_/\_/\_/\q) [.k,.c (Y9 (List.replicate a.length (sO "step")),st),.c (.bl O,st++?C),.g,.b O,.b O,.c (Y1 st.length,st++[Y4 O ((ps.map λ_=>O).map .bl)]),.l ((ps.map λ_=>O).map .bl),.c (.bl O,st),.i (Z ((?i).length:J)),.b O] ⟨t,hst,gB st (.dic O (bD W H P)),l,j,e,qzv (st:=st) (nlB (ps.map λ_=>O)),n,g,h,rfl⟩
end
noncomputable def scr(ns:L J):D:=.lst (ns.map .int)
def modE(a)(h:0<b):∃v,(∀S,binop S .Mod (Z a) (Z b)=Y (Z v,S))/\0<=v/\v<b:=⟨_,λS=>bMo S a h,Int.emod_nonneg _ (by lia),Int.emod_lt_of_pos _ h⟩
def divE(a)(h:0<b)(c:b<2 ^ 64):∃v,∀S,binop S .FloorDiv (Z a) (Z b)=Y (Z v,S):=⟨_,λS=>bDi S a h c⟩
noncomputable def itD:Y0->J->J
 |0,a=>a
 |n+1,a=>itD n a / 10000000000
noncomputable abbrev drT(ns:L J)(k j many cell turn rest:J)(o:Y3 D):Sl:=[Y (scr ns),Y (.int k),Y (.int j),Y (.int many),Y (.int cell),Y (.int turn),Y (.int rest),o,B,B]
def qfa(m)(st)(hj:0<=j)(a:j<100000):∃o,stepEx ?D (drT ns k j many cell turn cell B) st (.forr (.var 7) (.rng1 (.var 2)) [.set (.var 6) (.bin .FloorDiv (.var 6) (.bin .Pow (.lit (Z 10)) (.lit (Z 10))))])=Y (.nx (drT ns k j many cell turn (itD j.toNat cell) o),st):=by
 obtain⟨τ',st',e,o,rfl,rfl⟩:=qqw (c:=callD fns m) (τ:=drT ns k j many cell turn cell B) (st:=st) (it:=.rng1 (.var 2)) (s:=.rng 0 j.toNat) (ds:=(List.range j.toNat).map λ(i:Y0)=>D.int (0+i)) (t:=.var 7) (body:=[.set (.var 6) (.bin .FloorDiv (.var 6) (.bin .Pow (.lit (Z 10)) (.lit (Z 10))))])
  (λi τ' st'=>∃o,τ'=drT ns k j many cell turn (itD i cell) o/\st'=st)
  (by
   have e:(?D).ev (drT ns k j many cell turn cell B) st (.var 2)=Y (Z j,st):=qqg _ _ _ _ _ rfl;show((?D).ev _ _ (.var 2)).bind _=_;rw[e];show(if big j=O then B else Y (Src.rng 0 j.toNat,st))=_
   rw[Z5 (by unfold big; simp; lia)])
  (by simp[Src.size]) (λi _ _ _=>qx7 _ _ _) ⟨B,rfl,rfl⟩ (λi τ' st' d hd h=>by
   obtain⟨o,rfl,rfl⟩:=h;rw[Qqw]at hd;obtain⟨x,_,rfl⟩:=Qqa.mp hd;refine⟨drT ns k j many cell turn (itD i cell / 10000000000) (Y (Z (0+x))),st',?_,_,rfl,rfl⟩;show (?D).ex (drT ns k j many cell turn (itD i cell) (Y (Z (0+x)))) st' _=_
   exact qze (k:=m) 0 [] 0 (λq=>_/\q) [.c (Z (itD i cell / 10000000000),st')] ⟨bDi st' (itD i cell) (b:=10000000000) (by decide) (by decide),rfl⟩)
 rw[Qqz,Qxp]at e;exact⟨o,e⟩
noncomputable abbrev drZ(o y t z w x u v:J)(S:Y2):Tp:=[.b O,.b O,.b O,.c (.int o,S),.b O,.c (.int y,S),.c (.int t,S),.c (.int z,S),.b O,.c (.int w,S),.b O,.b O,.c (.int x,S),.c (.int u,S),.c (.int v,S)]
noncomputable abbrev drX(a c t:J)(τ:Sl)(S:Y2)(r:Tp):Tp:=.b O::.c (.int a,S)::.i (.int c)::.c (.int t,S)::.s (.nx τ,S)::r
def dr0(U:ns.length<=63)(k j)(hj:0<=j)(e:j<100000)(r:0<many):∃v:J,(∀m st,callD fns (m+1) 66 [scr ns,Z k,Z j,Z many] st=Y (Z v,st))/\0<=v/\v<many:=by
 obtain⟨cell,c,pre⟩:∃cell c:J,(ns=[]/\cell=0/\c=1)\/(0<((ns.map D.int).length:J)/\∃a,(∀S,binop S .Mod (Z k) (Z (ns.map D.int).length)=Y (Z a,S))/\(∀S,idxD S (scr ns) (Z a)=Y (Z cell))/\∀S,binop S .FloorDiv (Z k) (Z (ns.map D.int).length)=Y (Z c,S)):=by
  by_cases s:ns=[]
  ·exact⟨0,1,.inl ⟨s,rfl,rfl⟩⟩
  ·have T:=Qxs.mpr s;have hl:(ns.map D.int).length=ns.length:=Qqz _;have d:0<((ns.map D.int).length:J):=by lia
   obtain⟨a,h,P,N⟩:=modE k d;obtain⟨b,h'⟩:=divE k d (by lia);have n:a.toNat<ns.length:=by lia
   exact⟨ns[a.toNat],b,.inr ⟨d,a,h,λS=>by simp only[scr,idxD,seqAt,oBs,atI,ixN,P,if_true,N,Qqw,Qqd n,oMs],h'⟩⟩
 obtain⟨one,h1,R,Q⟩:=modE (cell*7919+k*104729+j*1299709+31) (b:=1000000007) (by decide);obtain⟨y,h2⟩:=divE cell (b:=1009) (by decide) (by decide);obtain⟨two,H,_,_⟩:=modE (one*48271+y) (b:=998244353) (by decide);obtain⟨z,G,z1,z2⟩:=modE one (b:=9973) (by decide);obtain⟨tw,n,_,_⟩:=modE (two*(z+1)+j) (b:=1000000009) (by decide);obtain⟨w,F⟩:=divE tw (b:=1013) (by decide) (by decide);obtain⟨u,E,_,_⟩:=modE (one*69621+tw*40692+w) (b:=2147483647) (by decide);obtain⟨v,C,g,f⟩:=modE u r;obtain⟨x,K,_,_⟩:=modE (itD j.toNat cell) (b:=10000000000) (by decide);obtain⟨p,I,A,t⟩:=modE x r;have tl:=λst=>(⟨qz5 (by decide) (by decide),qz5 (by decide) (by decide),qz5 (by decide) (by decide),h1 st,qz5 (by decide) (by decide),h2 st,H st,G st,qz5 (by lia) (by lia),n st,qz5 (by decide) (by decide),qz5 (by decide) (by decide),F st,E st,C st,rfl⟩:mulOk cell 7919=O/\mulOk k 104729=O/\mulOk j 1299709=O/\_/\mulOk one 48271=O/\_/\_/\_/\mulOk two (z+1)=O/\_/\mulOk one 69621=O/\mulOk tw 40692=O/\_/\_/\_/\(D.int v,st)=(D.int v,st))
 rcases pre with⟨rfl,rfl,rfl⟩|⟨d,a,p1,p2,i⟩
 ·refine⟨v,λm st=>?_,g,f⟩;obtain⟨o,hl⟩:=qfa m st (ns:=[]) (k:=k) (many:=many) (cell:=0) (turn:=1) hj e;exact qzz (k:=m) 0 [] 1 (λq=>_/\_/\_/\_/\_/\_/\_/\_/\_/\_/\_/\_/\_/\_/\_/\_/\_/\_/\q) (.b Y6::.s (.nx (drT [] k j many 0 1 (itD j.toNat 0) o),st)::.b Y6::drZ one y two z tw w u v st) ⟨(rfl:decide ((0:J)<0)=Y6),hl,(rfl:((1:J)==0)=Y6),tl st⟩
 ·have l:decide (0<((ns.map D.int).length:J))=true:=Z3 d;have lp:=λm st=>qfa m st (ns:=ns) (k:=k) (many:=many) (cell:=cell) (turn:=c) hj e
  by_cases c1:c=0
  ·by_cases c2:1000000000000000000<=cell
   ·by_cases c3:0<itD j.toNat cell
    ·refine⟨p,λm st=>?_,A,t⟩;obtain⟨o,hl⟩:=lp m st;exact qzz (k:=m) 0 [] 1 (λq=>_/\_/\_/\_/\_/\_/\_/\_/\_/\_/\q) (drX a cell c (drT ns k j many cell c (itD j.toNat cell) o) st [.b O,.b O,.b O,.c (Z x,st),.c (Z p,st)]) ⟨l,p1 st,p2 st,i st,hl,beq_iff_eq.mpr c1,Z3 c2,Z3 c3,K st,I st,rfl⟩
    ·refine⟨v,λm st=>?_,g,f⟩;obtain⟨o,hl⟩:=lp m st;exact qzz (k:=m) 0 [] 1 (λq=>_/\_/\_/\_/\_/\_/\_/\_/\_/\_/\_/\_/\_/\_/\_/\_/\_/\_/\_/\_/\_/\_/\_/\q) (drX a cell c (drT ns k j many cell c (itD j.toNat cell) o) st (.b O::.b O::.b Y6::drZ one y two z tw w u v st)) ⟨l,p1 st,p2 st,i st,hl,beq_iff_eq.mpr c1,Z3 c2,Z4 c3,tl st⟩
   ·refine⟨v,λm st=>?_,g,f⟩;obtain⟨o,hl⟩:=lp m st;exact qzz (k:=m) 0 [] 1 (λq=>_/\_/\_/\_/\_/\_/\_/\_/\_/\_/\_/\_/\_/\_/\_/\_/\_/\_/\_/\_/\_/\_/\q) (drX a cell c (drT ns k j many cell c (itD j.toNat cell) o) st (.b O::.b Y6::drZ one y two z tw w u v st)) ⟨l,p1 st,p2 st,i st,hl,beq_iff_eq.mpr c1,Z4 c2,tl st⟩
  ·refine⟨v,λm st=>?_,g,f⟩;obtain⟨o,hl⟩:=lp m st;exact qzz (k:=m) 0 [] 1 (λq=>_/\_/\_/\_/\_/\_/\_/\_/\_/\_/\_/\_/\_/\_/\_/\_/\_/\_/\_/\_/\_/\q) (drX a cell c (drT ns k j many cell c (itD j.toNat cell) o) st (.b Y6::drZ one y two z tw w u v st)) ⟨l,p1 st,p2 st,i st,hl,beq_eq_false_iff_ne.mpr c1,tl st⟩
section
variable {ns:L J}(hn:ns.length<=63)
include hn
theorem dr(m)(st)(k j)(hj:0<=j)(b:j<100000)(c:0<many):∃v:J,callD fns (m+1) 66 [scr ns,Z k,Z j,Z many] st=Y (Z v,st)/\0<=v/\v<many:=by
 obtain⟨v,h,a⟩:=dr0 hn k j hj b c;exact⟨v,h m st,a⟩
theorem qmp(m)(st)(k):∃W H P:J,callD fns (m+2) 68 [scr ns,Z k] st=Y (szD W H P,st)/\1<=W/\W<=24/\1<=H/\H<=24/\0<=P/\P<=12/\(H<=3/\P<=2\/W<=3/\P<=2\/W<=3/\H<=3\/W<=6/\H<=6/\P<=5):=by
 obtain⟨a,h,u,t⟩:=dr hn m st k 0 (many:=6) (by decide) (by decide) (by decide);obtain⟨b,hb,b1,b2⟩:=dr hn m st k 1 (many:=6) (by decide) (by decide) (by decide);obtain⟨c,hc,c1,c2⟩:=dr hn m st k 2 (many:=6) (by decide) (by decide) (by decide);obtain⟨e,g,s,p⟩:=dr hn m st k 3 (many:=12) (by decide) (by decide) (by decide);have n:=qzv (st:=st) (ds:=[Y9 [Z 24,Z (1+(1+b) / 3),Z (c / 2)],Y9 [Z (1+(1+a) / 3),Z 24,Z (c / 2)]]) rfl;have l:=qzv (st:=st) (ds:=[Y9 [Z (1+(1+a) / 3),Z (1+(1+b) / 3),Z 12],Y9 [Z (1+a),Z (1+b),Z c]]) rfl;have j:=qzv (st:=st) (ds:=?A) rfl;have d:∀(i:J) (r:D),(if decide (e<3) then e else 3)=i->idxD st (Yc ?A) (Z i)=Y r->callD fns (m+2) 68 [scr ns,Z k] st=Y (r,st):=λi r hi hr=>by
  rw[<- hi]at hr
  by_cases f:e<3
  ·rw[Z3 f]at hr;exact qzz 0 [66] 2 (λq=>_/\_/\_/\_/\_/\_/\_/\_/\_/\q) [.c (Z a,st),.c (Z b,st),.c (Z c,st),.l [Y9 [Z 24,Z (1+(1+b) / 3),Z (c / 2)],Y9 [Z (1+(1+a) / 3),Z 24,Z (c / 2)]],.l [Y9 [Z (1+(1+a) / 3),Z (1+(1+b) / 3),Z 12],Y9 [Z (1+a),Z (1+b),Z c]],.k,.l ?A,.c (Z e,st),.b O,.i r] ⟨h,hb,hc,n,l,j,g,Z3 f,hr,rfl⟩
  ·rw[Z4 f]at hr;exact qzz 0 [66] 2 (λq=>_/\_/\_/\_/\_/\_/\_/\_/\_/\q) [.c (Z a,st),.c (Z b,st),.c (Z c,st),.l [Y9 [Z 24,Z (1+(1+b) / 3),Z (c / 2)],Y9 [Z (1+(1+a) / 3),Z 24,Z (c / 2)]],.l [Y9 [Z (1+(1+a) / 3),Z (1+(1+b) / 3),Z 12],Y9 [Z (1+a),Z (1+b),Z c]],.k,.l ?A,.c (Z e,st),.b Y6,.i r] ⟨h,hb,hc,n,l,j,g,Z4 f,hr,rfl⟩
 by_cases o:e=0
 ·exact⟨24,1+(1+b) / 3,c / 2,d 0 _ (by subst o; rfl) rfl,by lia,by lia,by lia,by lia,by lia,by lia,by lia⟩
 ·by_cases h1:e=1
  ·exact⟨1+(1+a) / 3,24,c / 2,d 1 _ (by subst h1; rfl) rfl,by lia,by lia,by lia,by lia,by lia,by lia,by lia⟩
  ·by_cases h2:e=2
   ·exact⟨1+(1+a) / 3,1+(1+b) / 3,12,d 2 _ (by subst h2; rfl) rfl,by lia,by lia,by lia,by lia,by lia,by lia,by lia⟩
   ·exact⟨1+a,1+b,c,d 3 _ (by rw[Z4 (by lia)]; rfl) rfl,by lia,by lia,by lia,by lia,by lia,by lia,by lia⟩
theorem qma(m)(st)(k):∃T:J,callD fns (m+2) 69 [scr ns,Z k] st=Y (Z T,st)/\1<=T/\T<=400:=by
 obtain⟨a,e,i,f⟩:=dr hn m st k 5 (many:=400) (by decide) (by decide) (by decide);obtain⟨b,hb,b1,b2⟩:=dr hn m st k 4 (many:=4) (by decide) (by decide) (by decide);have g:=qzv (st:=st) (ds:=[Z (1+a),Z (1+a % 4),Z (4+a % 50),Z (4+a % 50)]) rfl;have c:∀T:J,idxD st (Yc [Z (1+a),Z (1+a % 4),Z (4+a % 50),Z (4+a % 50)]) (Z b)=Y (Z T)->callD fns (m+2) 69 [scr ns,Z k] st=Y (Z T,st):=λT h=>
  qzz 0 [66] 2 (λq=>_/\_/\_/\_/\q) [.c (Z a,st),.l [Z (1+a),Z (1+a % 4),Z (4+a % 50),Z (4+a % 50)],.c (Z b,st),.i (Z T)] ⟨e,g,hb,h,rfl⟩
 have d:b=0\/b=1\/b=2\/b=3:=by lia
 rcases d with rfl|rfl|rfl|rfl
 ·exact⟨1+a,c _ rfl,by lia,by lia⟩
 ·exact⟨1+a % 4,c _ rfl,by lia,by lia⟩
 ·exact⟨4+a % 50,c _ rfl,by lia,by lia⟩
 ·exact⟨4+a % 50,c _ rfl,by lia,by lia⟩
theorem qm6(m)(st)(k j)(hj:0<=j)(l:j<1000)(f:0<W)(i:0<H):∃g:J×J×J×J,callD fns (m+2) 71 [scr ns,Z k,Z j,Z W,Z H] st=Y (rD g,st)/\0<=g.1/\g.1<=g.2.2.1/\g.2.2.1<W/\0<=g.2.1/\g.2.1<=g.2.2.2/\g.2.2.2<H:=by
 obtain⟨a,o,t,s⟩:=dr hn m st k j hj (by lia) f;obtain⟨b,hb,b1,b2⟩:=dr hn m st k (j+1) (by lia) (by lia) f;obtain⟨c,hc,c1,c2⟩:=dr hn m st k (j+2) (by lia) (by lia) i;obtain⟨e,n,r,p⟩:=dr hn m st k (j+3) (by lia) (by lia) i;have d:∀x y:J,bfun st .sorted [Yc [Z x,Z y]]=Y (Y1 st.length,st++[Y4 O [Z (min x y),Z (max x y)]]):=λx y=>by
  show Y (alloc st (Y4 O ((sortInt [x,y]).map Z)))=_;have:sortInt [x,y]=[min x y,max x y]:=by
   show(if x<=y then [x,y] else [y,x])=_
   by_cases h:x<=y
   ·rw[Z6 h,Int.min_eq_left h,Int.max_eq_right h]
   ·rw[Z5 h,Int.min_eq_right (by lia),Int.max_eq_left (by lia)]
  rw[this]
  rfl
 refine⟨(min a b,min c e,max a b,max c e),?_,by simp only; lia,by simp only; lia,by simp only; lia,by simp only; lia,by simp only; lia,by simp only; lia⟩;exact qzz 0 [66] 2 (λq=>_/\_/\_/\_/\_/\_/\_/\_/\_/\_/\q) [.c (Z a,st),.c (Z b,st),.l [Z a,Z b],.c (Y1 st.length,st++[Y4 O [Z (min a b),Z (max a b)]]),.l [Z (min a b),Z (max a b)],.c (Z c,st),.c (Z e,st),.l [Z c,Z e],.c (Y1 st.length,st++[Y4 O [Z (min c e),Z (max c e)]]),.l [Z (min c e),Z (max c e)]] ⟨o,hb,qzv (st:=st) (ds:=[Z a,Z b]) rfl,d a b,qzv (st:=st) (ds:=[Z (min a b),Z (max a b)]) rfl,hc,n,qzv (st:=st) (ds:=[Z c,Z e]) rfl,d c e,qzv (st:=st) (ds:=[Z (min c e),Z (max c e)]) rfl,rfl⟩
theorem qio(m)(st)(k j)(hj:0<=j)(c:j<1000):∃o:J,callD fns (m+2) 74 [scr ns,Z k,Z j] st=Y (Z o,st)/\1<=o/\o<=40:=by
 obtain⟨a,d,f,e⟩:=dr hn m st k (j+1) (many:=6) (by lia) (by lia) (by decide);have g:=qzv (st:=st) (ds:=[Z 40,Z 4,Z 4,Z 4,Z 4,Z 4]) rfl;have ⟨w,hw,w1,w2⟩:∃w:J,idxD st (Yc [Z 40,Z 4,Z 4,Z 4,Z 4,Z 4]) (Z a)=Y (Z w)/\0<w/\w<=40:=by
  have:a=0\/a=1\/a=2\/a=3\/a=4\/a=5:=by lia
  rcases this with rfl|rfl|rfl|rfl|rfl|rfl
  ·exact⟨40,rfl,by decide,by decide⟩
  all_goals exact⟨4,rfl,by decide,by decide⟩
 obtain⟨b,hb,b1,b2⟩:=dr hn m st k j hj (by lia) w1;exact⟨1+b,qzz 0 [66] 2 (λq=>_/\_/\_/\_/\q) [.l [Z 40,Z 4,Z 4,Z 4,Z 4,Z 4],.c (Z a,st),.i (Z w),.c (Z b,st)] ⟨g,d,hw,hb,rfl⟩,by lia,by lia⟩
theorem qw8(m)(st)(k j)(hj:0<=j)(l:j<1000){xs:L J}(i:∀x∈xs,1<=x/\x<=400):∃n:J,callD fns (m+2) 75 [scr ns,Z k,Z j,Yc (xs.map Z)] st=Y (Z n,st)/\1<=n/\n<=400:=by
 obtain⟨b,hb,b1,b2⟩:=dr hn m st k (j+1) (many:=400) (by lia) (by lia) (by decide)
 by_cases f:xs=[]
 ·subst f;exact⟨1+b,qzz 0 [66] 2 (λq=>_/\q) [.k,.c (Z b,st)] ⟨hb,rfl⟩,by lia,by lia⟩
 ·have hl:=Qxs.mpr f;have h:(((xs.map D.int).length:J)==0)=false:=by
   rw[beq_eq_false_iff_ne];simp;exact f
  obtain⟨a,g,p,o⟩:=dr hn m st k j (many:=14) (by lia) (by lia) (by decide)
  by_cases h1:a=0
  ·exact⟨1+b,qzz 0 [66] 2 (λq=>_/\_/\_/\_/\q) [.b Y6,.c (Z a,st),.b O,.c (Z b,st)] ⟨h,g,(show(a==0)=O by simpa using h1),hb,rfl⟩,by lia,by lia⟩
  ·obtain⟨c,hc,c1,c2⟩:=dr hn m st k (j+1) (many:=((xs.map D.int).length:J)) (by lia) (by lia) (by simp; lia);rw[Qqz]at c2;have hi:c.toNat<xs.length:=by lia
   have d:=i xs[c.toNat] (Qxk hi);have e:idxD st (Yc (xs.map Z)) (Z c)=Y (Z xs[c.toNat]):=by
    show atI (xs.map D.int) c=_;unfold atI ixN;rw[Z6 c1,Z6 (by simpa using c2)];simp[Qqd hi]
   exact⟨xs[c.toNat],qzz 0 [66] 2 (λq=>_/\_/\_/\_/\_/\q) [.b Y6,.c (Z a,st),.b Y6,.c (Z c,st),.i (Z xs[c.toNat])] ⟨h,g,(show(a==0)=Y6 by simpa using h1),hc,e,rfl⟩,d.1,d.2⟩
end
section
variable {ns:L J}(hn:ns.length<=63)
include hn
omit hn in
noncomputable def stT(d:J):Int:=[0,1,2,3,4,0,0].getD d.toNat 0
theorem qg0(m)(st)(k j)(hj:0<=j)(u:j<1000)(w:0<=P)(p:P<=12):∃f:L J,callD fns (m+2) 72 [scr ns,Z k,Z j,Z P] st=Y (.tup (f.map Z),st)/\(f.length:J)=P/\∀s∈f,0<=s/\s<=4:=by
 obtain⟨c,o⟩:=Classical.axiomOfChoice (λx:J=>show ∃v:J,(0<=x->x<100000->∀m st,callD fns (m+1) 66 [scr ns,Z k,Z x,Z 7] st=Y (Z v,st))/\0<=v/\v<7 by
  by_cases h:0<=x/\x<100000
  ·obtain⟨v,a,b⟩:=dr0 hn k x (many:=7) h.1 h.2 (by decide);exact⟨v,λ_ _=>a,b⟩
  ·exact⟨0,λp h2=>absurd ⟨p,h2⟩ h,by decide⟩)
 have hr:(List.range P.toNat).map (λ(i:Y0)=>D.int (0+i))=(List.range P.toNat).map λ(i:Y0)=>D.int i:=Qz5 λi _=>by simp
 have h:=qqz (t:=.var 0) (it:=.rng1 (.var 3)) (elt:=.idx (.gc (.lst [.lit (Z 0),.lit (Z 1),.lit (Z 2),.lit (Z 3),.lit (Z 4),.lit (Z 0),.lit (Z 0)])) (.call 66 [.var 3,.var 2,.bin .Add (.var 1) ?L,.lit (Z 7)])) (sr:=[B,Y 2,Y 1,Y 0]) (λd=>match d with|Z i=>Y (Z (stT (c (j+i))))|_=>B) (λτ=>∃a,τ=[a,Y (Z j),Y (Z k),Y (scr ns)])
  (by
   have e:(?v).ev [Y (scr ns),Y (Z k),Y (Z j),Y (Z P)] st (.var 3)=Y (Z P,st):=qqg _ _ _ _ _ rfl;show((?v).ev _ _ (.var 3)).bind _=_;rw[e];show(if big P=O then B else Y (Src.rng 0 P.toNat,st))=_
   rw[Z5 (by unfold big; simp; lia)])
  (λi=>by rw[qx7,hr]) (by simp[Src.size]) (by simp; unfold lim; lia) ⟨B,rfl⟩ (λτ d hd r=>by
   obtain⟨a,rfl⟩:=r;obtain⟨i,hi,rfl⟩:=Qqj.mp hd;have hi:=Qz8.mp hi;refine⟨[Y (Z (i:Y0)),Y (Z j),Y (Z k),Y (scr ns)],?_,Y (Z (i:Y0)),rfl⟩;obtain⟨hd,l,g⟩:=o (j+(i:Y0));have hd:=hd (by lia) (by lia) m st;have n:idxD st (.lst [Z 0,Z 1,Z 2,Z 3,Z 4,Z 0,Z 0]) (Z (c (j+(i:Y0))))=Y (Z (stT (c (j+(i:Y0))))):=by
    generalize c (j+(i:Y0))=v at l g ⊢;have:v=0\/v=1\/v=2\/v=3\/v=4\/v=5\/v=6:=by lia
    rcases this with rfl|rfl|rfl|rfl|rfl|rfl|rfl<;>rfl
   exact qk3 rfl (qzc 0 [66] 1 (λq=>_/\_/\_/\q) [.l [Z 0,Z 1,Z 2,Z 3,Z 4,Z 0,Z 0],.c (Z (c (j+(i:Y0))),st),.i (Z (stT (c (j+(i:Y0)))))] ⟨qzv (st:=st) (ds:=[Z 0,Z 1,Z 2,Z 3,Z 4,Z 0,Z 0]) rfl,hd,n,rfl⟩))
 have e:((List.range P.toNat).map λ(i:Y0)=>D.int i).filterMap (λd=>match d with|Z i=>Y (D.int (stT (c (j+i))))|_=>B)=((List.range P.toNat).map λ(i:Y0)=>stT (c (j+(i:Y0)))).map Z:=by
  rw[Qxw,Qqp];exact Qx8▸rfl
 rw[e]at h;refine⟨(List.range P.toNat).map λ(i:Y0)=>stT (c (j+(i:Y0))),qzz 0 [] 2 (λq=>_/\_/\q) [.c (Y1 st.length,st++[Y4 O (((List.range P.toNat).map λ(i:Y0)=>stT (c (j+(i:Y0)))).map Z)]),.l (((List.range P.toNat).map λ(i:Y0)=>stT (c (j+(i:Y0)))).map Z)] ⟨h,qzv (st:=st) (nlI ((List.range P.toNat).map λ(i:Y0)=>stT (c (j+(i:Y0))))),rfl⟩,by simp; lia,λs hs=>?_⟩;obtain⟨i,_,rfl⟩:=Qqj.mp hs;obtain⟨_,l,g⟩:=o (j+(i:Y0));generalize c (j+(i:Y0))=v at l g ⊢;have:v=0\/v=1\/v=2\/v=3\/v=4\/v=5\/v=6:=by lia
 rcases this with rfl|rfl|rfl|rfl|rfl|rfl|rfl<;>decide
omit hn in
theorem flat_c(ps:L (J×J)):flats 9 ?i=true:=by
 induction ps with
 |nil=>rfl
 |cons p r a=>show(flat 9 (cD p)&&flats 9 (r.map cD))=O; rw[a]; rfl
omit hn in
theorem any_c(ps:L (J×J))(p):((?i).any λy=>eqT y (cD p))=decide (p∈ps):=by
 induction ps with
 |nil=>rfl
 |cons a r b=>
  have e:eqT (cD a) (cD p)=decide (p=a):=by
   show((a.1==p.1)&&((a.2==p.2)&&O))=_;rw[Qjc,Qka];simp only[Qq2,beq_iff_eq,decide_eq_true_eq];exact⟨λh=>Prod.ext h.1.symm h.2.symm,λh=>by rw[h]; exact⟨rfl,rfl⟩⟩
  rw[Qqg,Qxf,b,e];simp only[Qqb]
  by_cases h1:p=a<;>by_cases h2:p∈r<;>simp[h1,h2]
theorem qnr(m)(st)(k j)(hj:0<=j)(X:j<1000)(w1:1<=W)(S:W<=24)(h1:1<=H)(h2:H<=24):∃ps:L (J×J),callD fns (m+2) 73 [scr ns,Z k,Z j,szD W H P] st=Y (.tup ?i,st++[Y4 O ?i])/\1<=ps.length/\ps.length<=16/\ps.Nodup/\∀p∈ps,Cin W H p:=by
 have hc:0<W*H:=Int.mul_pos (by lia) (by lia);have a0:=Int.mul_le_mul S h2 (by lia) (by lia);obtain⟨f,hf,f1,f2⟩:=dr hn m st k j hj (by lia) hc;obtain⟨g,hg,g1,g2⟩:=dr hn m st k (j+1) (by lia) (by lia) hc;obtain⟨a,I,a1,a2⟩:=dr hn m (st++?I) k (j+2) (many:=4) (by lia) (by lia) (by decide);have ⟨w,hw,R,x2⟩:∃w:J,idxD (st++?I) (.lst [Z 16,Z 4,Z 4,Z 4]) (Z a)=Y (Z w)/\0<w/\w<=16:=by
  have:a=0\/a=1\/a=2\/a=3:=by lia
  rcases this with rfl|rfl|rfl|rfl
  ·exact⟨16,rfl,by decide,by decide⟩
  all_goals exact⟨4,rfl,by decide,by decide⟩
 obtain⟨b,hb,b1,b2⟩:=dr hn m (st++?I) k (j+3) (by lia) (by lia) R;have G:(?v).ev [Y (scr ns),Y (Z k),Y (Z j),Y ?c,Y (Z (W*H)),Y (Z f),Y (Z (1+g)),Y ?G,B,B] (st++?I) ?qe=Y (Z (1+b),st++?I):=
  qzc 0 [66] 1 (λq=>_/\_/\_/\_/\q) [.l [Z 16,Z 4,Z 4,Z 4],.c (Z a,st++?I),.i (Z w),.c (Z b,st++?I)] ⟨qzv (st:=st++?I) (ds:=[Z 16,Z 4,Z 4,Z 4]) rfl,I,hw,hb,rfl⟩
 obtain⟨τ',st',h3,k',o,C,ps,rfl,rfl,p1,p2,A,x⟩:=qqw (st:=st++?I) (it:=.rng1 ?qe) (t:=.var 8)
  (body:=[.set (.var 9) (.bin .Mod (.bin .Add (.var 5) (.bin .Mult (.var 8) (.var 6))) (.var 4)),.ite (.cmp .NotIn (.tup [.bin .Mod (.var 9) (.idx (.var 3) (.lit (Z 0))),.bin .FloorDiv (.var 9) (.idx (.var 3) (.lit (Z 0)))]) (.var 7)) [.expr (.meth (.var 7) .append [.tup [.bin .Mod (.var 9) (.idx (.var 3) (.lit (Z 0))),.bin .FloorDiv (.var 9) (.idx (.var 3) (.lit (Z 0)))]])] []])
  (λi τ' st'=>i<=(1+b).toNat/\∃o C ps,τ'=[Y (scr ns),Y (Z k),Y (Z j),Y ?c,Y (Z (W*H)),Y (Z f),Y (Z (1+g)),Y ?G,o,C]/\st'=st++[Y4 O ((ps:L (J×J)).map cD)]/\ps.length<=i/\(0<i->1<=ps.length)/\ps.Nodup/\∀p∈ps,Cin W H p)
  (by
   show((?v).ev _ _ _).bind _=_;rw[G];show(if big (1+b)=O then B else Y (Src.rng 0 (1+b).toNat,_))=_
   rw[Z5 (by unfold big; simp; lia)])
  (by simp[Src.size]) (λi τ' st' _=>qx7 _ _ _) ⟨Qzl _,B,B,[],rfl,rfl,by simp,by simp,List.nodup_nil,by simp⟩ (λi τ' st' d hd n=>by
   obtain⟨_,o,C,ps,rfl,rfl,p1,p2,A,x⟩:=n;rw[Qqw]at hd;obtain⟨i',s,rfl⟩:=Qqa.mp hd;have F:i<(1+b).toNat:=by
    have:=(Qqk.mp s).1;simpa using this
   rw[Qjz F]at s;cases s;generalize l:(f+(0+(i:J))*(1+g)) % (W*H)=pl;have V:0<=pl:=by rw[<- l]; exact Int.emod_nonneg _ (by lia)
   have U:pl<W*H:=by rw[<- l]; exact Int.emod_lt_of_pos _ hc
   have N:mulOk (0+(i:J)) (1+g)=true:=qz5 (by lia) (by lia);have K:binop (st++[Y4 O ?i]) .Mod (Z (f+(0+(i:J))*(1+g))) (Z (W*H))=Y (Z pl,st++[Y4 O ?i]):=by rw[bMo _ _ hc,l]
   have E:binop (st++[Y4 O ?i]) .Mod (Z pl) (Z W)=Y (Z (pl % W),st++[Y4 O ?i]):=bMo _ _ (by lia);have D:binop (st++[Y4 O ?i]) .FloorDiv (Z pl) (Z W)=Y (Z (pl / W),st++[Y4 O ?i]):=bDi _ _ (by lia) (by lia);have Q:=gl (st:=st) (c:=Y4 O ?i);have h:cmpD (st++[Y4 O ?i]) .NotIn (cD (pl % W,pl / W)) ?G=Y (!decide ((pl % W,pl / W)∈ps)):=by
    have e:inD (st++[Y4 O ?i]) (cD (pl % W,pl / W)) ?G=Y (decide ((pl % W,pl / W)∈ps)):=by
     show(seqAt (st++[Y4 O ?i]) ?G).bind _=_;have:seqAt (st++[Y4 O ?i]) ?G=Y ?i:=by show listAt _ _=_; unfold listAt; rw[gl]
     rw[this];show(if flat 9 (cD (pl % W,pl / W))&&flats 9 ?i then Y ((?i).any λy=>eqT y (cD (pl % W,pl / W))) else B)=_;rw[flat_c,any_c]
     rfl
    show(inD _ _ _).map (!·)=_;rw[e]
    rfl
   by_cases u:(pl % W,pl / W)∈ps
   ·rw[Z3 u]at h;refine⟨_,_,qze 0 [] 1 (λq=>_/\_/\_/\_/\_/\q) [.b O,.c (Z pl,st++[Y4 O ?i]),.c (Z (pl % W),st++[Y4 O ?i]),.c (Z (pl / W),st++[Y4 O ?i]),.b Y6] ⟨N,K,E,D,h,rfl⟩,by lia,Y (Z (0+(i:J))),Y (Z pl),ps,rfl,rfl,by lia,λ_=>Qxs.mpr (λz=>by rw[z]at u; cases u),A,x⟩
   ·rw[Z4 u]at h;have v:(?i).length<lim:=by rw[Qqz]; unfold lim; lia
    refine⟨_,_,qze 0 [] 1 (λq=>_/\_/\_/\_/\_/\_/\_/\_/\_/\_/\q) [.b O,.c (Z pl,st++[Y4 O ?i]),.c (Z (pl % W),st++[Y4 O ?i]),.c (Z (pl / W),st++[Y4 O ?i]),.b O,.r (Y4 O ?i),.c (Z (pl % W),st++[Y4 O ?i]),.c (Z (pl / W),st++[Y4 O ?i]),.r (Y4 O ?i),.b O] (r:=(.nx [Y (scr ns),Y (Z k),Y (Z j),Y ?c,Y (Z (W*H)),Y (Z f),Y (Z (1+g)),Y ?G,Y (Z (0+(i:J))),Y (Z pl)],(st++[Ya.lst O ?i]).set st.length (Y4 O (ps.map cD++[cD (pl % W,pl / W)])))) ⟨N,K,E,D,h,Q,E,D,Q,Z3 v,rfl⟩,by lia,Y (Z (0+(i:J))),Y (Z pl),ps++[(pl % W,pl / W)],rfl,by rw[sl]; simp,by simp; lia,λ_=>by simp,?_,λp n=>?_⟩
    ·rw[Qxo];exact⟨A,by simp,λa I b hb=>by cases Qqy.mp hb; exact λz=>u (z▸I)⟩
    ·rcases Qqr.mp n with n|n
     ·exact x p n
     ·cases Qqy.mp n;refine⟨Int.emod_nonneg _ (by lia),Int.emod_lt_of_pos _ (by lia),Int.ediv_nonneg V (by lia),?_⟩
      exact Int.ediv_lt_of_lt_mul (by lia) (by rw[Int.mul_comm]; exact U))
 rw[Qqz,Qxp]at p1 p2 k';refine⟨ps,?_,p2 (by lia),by lia,A,x⟩;have T:mulOk W H=true:=qz5 (by lia) (by lia);exact qzz 0 [66] 2 (λq=>_/\_/\_/\_/\_/\q) [.b O,.c (Z f,st),.c (Z g,st),.s (.nx [Y (scr ns),Y (Z k),Y (Z j),Y ?c,Y (Z (W*H)),Y (Z f),Y (Z (1+g)),Y ?G,o,C],st++[Y4 O ?i]),.r (Y4 O ?i)] ⟨T,hf,hg,h3,gl (st:=st) (c:=Y4 O ?i),rfl⟩
end
inductive DF (W H P:J):D->Prop
 |vein {ss:L J}{ps:L (J×J)}(hP:(ss.length:J)=P) (hP2:ss.length<=100) (hs:∀s∈ss,0<=s/\s<=4) (h1:1<=ps.length) (h2:ps.length<=16) (hn:ps.Nodup) (hc:∀p∈ps,Cin W H p):DF W H P (.tup [sO "vein",.tup (ss.map .int),.tup (ps.map cD)])
 |join {a b f:J}(h1:1<=a) (h2:a<=400) (h3:1<=b) (h4:b<=400) (h5:1<=f) (h6:f<=P):DF W H P (.tup [sO "join",.int a,.int b,.int f])
 |stake {o:J}{g:J×J×J×J}(h1:1<=o) (h2:o<=40) (x0:0<=g.1) (x1:g.1<=g.2.2.1) (x2:g.2.2.1<W) (y0:0<=g.2.1) (y1:g.2.1<=g.2.2.2) (y2:g.2.2.2<H):DF W H P (.tup [sO "stake",.int o,.int g.1,.int g.2.1,.int g.2.2.1,.int g.2.2.2])
 |claim {f:D}(h:CF' f) (hs:∀m st,callD fns (m+6) 8 [szD W H P,f] st=Y (.bl O,st)):DF W H P f
def DF.sound(h:DF W H P f)(m)(st):callD fns (m+6) 8 [szD W H P,f] st=Y (.bl O,st):=by
 cases h with
 |vein g a hs h1 h2 hn hc=>exact s_vein m st g a hs h1 h2 hn hc
 |join h1 h2 l k j i=>exact s_join (m+3) st h1 h2 l k j i
 |stake h1 h2 e d c b y1 y2=>exact s_stake (m+3) st h1 h2 e d c b y1 y2
 |claim h hs=>exact hs m st
noncomputable def wIs(f:D)(ws:L String):Bool:=match f with
 |.tup (.str z::_)=>ws.any λw=>MS.sq z (Str.ofString w)
 |_=>Y6
noncomputable def pD(p:J×D):D:=.tup [.int p.1,p.2]
def qyq(ps:L (J×J)):noLoc (Y9 ?i)=true:=by rw[qv4]; exact qzy λ_ _=>rfl
def gT(st)(ps:L (J×J)):noLoc (Y9 ?i)=O/\(st++[Ya.lst O ?i]).take st.length=st:=⟨qyq ps,tkl⟩
section
variable {ns:L J}(hn:ns.length<=63){W H P:J}(w1:1<=W)(w2:W<=24)(h1:1<=H)(h2:H<=24)(p0:0<=P)(p1:P<=12)
include hn w1 w2 h1 h2 p0 p1
theorem ql7(m)(st)(k):∃f,callD fns (m+3) 76 [scr ns,Z k,szD W H P] st=Y (f,st)/\DF W H P f:=by
 obtain⟨a,hs,c,b⟩:=qg0 hn m st k 8 (by decide) (by decide) p0 p1;obtain⟨ps,i,h,g,e,d⟩:=qnr hn m st k 1 (P:=P) (by decide) (by decide) w1 w2 h1 h2;exact⟨_,qzz 0 [72,73] 3 (λq=>_/\_/\_/\q) [.c (Y9 (a.map Z),st),.c (Y9 ?i,st++[Y4 O ?i]),.g] ⟨hs,i,gT st ps,rfl⟩,.vein c (by lia) b h g e d⟩
theorem qii(m)(st)(k d)(F:0<=d)(E:d<8){xs:L J}(z:∀x∈xs,1<=x/\x<=400):∃f,callD fns (m+3) 77 [scr ns,Z k,Z d,szD W H P,Yc (xs.map Z)] st=Y (f,st)/\DF W H P f:=by
 obtain⟨c,hc,c1,c2⟩:=qw8 hn m st k 1 (by decide) (by decide) z;obtain⟨o,n,r,p⟩:=qio hn m st k 3 (by decide) (by decide);obtain⟨s,hs,y,G⟩:=dr hn (m+1) st k 5 (many:=2) (by decide) (by decide) (by decide);have ⟨l,hl,t,w,b,hb,C⟩:∃l:J,(∃u:J,callD fns (m+2) 66 [scr ns,Z k,Z 6,Z u] st=Y (Z l,st)/\u=(if decide ((if s=0 then W else H)<23) then(if s=0 then W else H) else 23))/\0<=l/\l<23/\∃b,decide ((if s=0 then W else H)<23)=b/\True:=by
  by_cases h:(if s=0 then W else H)<23
  ·have A:0<(if s=0 then W else H):=by split<;>lia
   obtain⟨l,hl,t,w⟩:=dr hn (m+1) st k 6 (by decide) (by decide) A;exact⟨l,⟨_,hl,by rw[Z3 h]; rfl⟩,t,by lia,O,Z3 h,trivial⟩
  ·obtain⟨l,hl,t,w⟩:=dr hn (m+1) st k 6 (many:=23) (by decide) (by decide) (by decide);exact⟨l,⟨_,hl,by rw[Z4 h]; rfl⟩,t,by lia,Y6,Z4 h,trivial⟩
 obtain⟨u,hl,a⟩:=hl;have D:DF W H P (Y9 [sO "work",Z c]):=.claim (.work c) λm st=>s_work (m+3) st c1 c2;have dg:DF W H P (Y9 [sO "give",Z c]):=.claim (.give c) λm st=>s_give (m+3) st c1 c2;have ds:DF W H P (Y9 [sO "sell",Z c,Z o]):=.claim (.sell c o ⟨r,p⟩) λm st=>s_sell (m+3) st c1 c2 r p;have dp:DF W H P (Y9 [sO "part",Z c,Z s,Z (1+l),Z o]):=.claim (.part c s (1+l) o (by lia) ⟨r,p⟩) λm st=>s_part (m+3) st c1 c2 y (by lia) (by lia) (by lia) r p;have g:=qzv (st:=st) (ds:=[Y9 [sO "sell",Z c,Z o],Y9 [sO "part",Z c,Z s,Z (1+l),Z o],Y9 [sO "give",Z c]]) rfl;have j:∀f,(d<3/\f=Y9 [sO "work",Z c])\/(¬ d<3/\idxD st (Yc [Y9 [sO "sell",Z c,Z o],Y9 [sO "part",Z c,Z s,Z (1+l),Z o],Y9 [sO "give",Z c]]) (Z (d / 2 - 1))=Y f)->callD fns (m+3) 77 [scr ns,Z k,Z d,szD W H P,Yc (xs.map Z)] st=Y (f,st):=λf hf=>by
  have v:s=0\/s=1:=by lia
  rcases v with rfl|rfl
  ·rw[Z6 rfl]at hb a
   cases b with
   |true=>
    rw[hb,Z6 rfl]at a;subst a;rcases hf with⟨i,rfl⟩|⟨i,hf⟩
    ·exact qzz 0 [66,74,75] 3 (λq=>_/\_/\_/\_/\_/\_/\q) [.c (Z c,st),.c (Z o,st),.c (Z 0,st),.b O,.c (Z l,st),.b O] ⟨hc,n,hs,hb,hl,Z3 i,rfl⟩
    ·exact qzz 0 [66,74,75] 3 (λq=>_/\_/\_/\_/\_/\_/\_/\_/\q) [.c (Z c,st),.c (Z o,st),.c (Z 0,st),.b O,.c (Z l,st),.b Y6,.l [Y9 [sO "sell",Z c,Z o],Y9 [sO "part",Z c,Z 0,Z (1+l),Z o],Y9 [sO "give",Z c]],.i f] ⟨hc,n,hs,hb,hl,Z4 i,g,hf,rfl⟩
   |false=>
    rw[hb,Z5 (by simp)]at a;subst a;rcases hf with⟨i,rfl⟩|⟨i,hf⟩
    ·exact qzz 0 [66,74,75] 3 (λq=>_/\_/\_/\_/\_/\_/\q) [.c (Z c,st),.c (Z o,st),.c (Z 0,st),.b Y6,.c (Z l,st),.b O] ⟨hc,n,hs,hb,hl,Z3 i,rfl⟩
    ·exact qzz 0 [66,74,75] 3 (λq=>_/\_/\_/\_/\_/\_/\_/\_/\q) [.c (Z c,st),.c (Z o,st),.c (Z 0,st),.b Y6,.c (Z l,st),.b Y6,.l [Y9 [sO "sell",Z c,Z o],Y9 [sO "part",Z c,Z 0,Z (1+l),Z o],Y9 [sO "give",Z c]],.i f] ⟨hc,n,hs,hb,hl,Z4 i,g,hf,rfl⟩
  ·rw[Z5 (show ¬ (1:J)=0 by decide)]at hb a
   cases b with
   |true=>
    rw[hb,Z6 rfl]at a;subst a;rcases hf with⟨i,rfl⟩|⟨i,hf⟩
    ·exact qzz 0 [66,74,75] 3 (λq=>_/\_/\_/\_/\_/\_/\q) [.c (Z c,st),.c (Z o,st),.c (Z 1,st),.b O,.c (Z l,st),.b O] ⟨hc,n,hs,hb,hl,Z3 i,rfl⟩
    ·exact qzz 0 [66,74,75] 3 (λq=>_/\_/\_/\_/\_/\_/\_/\_/\q) [.c (Z c,st),.c (Z o,st),.c (Z 1,st),.b O,.c (Z l,st),.b Y6,.l [Y9 [sO "sell",Z c,Z o],Y9 [sO "part",Z c,Z 1,Z (1+l),Z o],Y9 [sO "give",Z c]],.i f] ⟨hc,n,hs,hb,hl,Z4 i,g,hf,rfl⟩
   |false=>
    rw[hb,Z5 (by simp)]at a;subst a;rcases hf with⟨i,rfl⟩|⟨i,hf⟩
    ·exact qzz 0 [66,74,75] 3 (λq=>_/\_/\_/\_/\_/\_/\q) [.c (Z c,st),.c (Z o,st),.c (Z 1,st),.b Y6,.c (Z l,st),.b O] ⟨hc,n,hs,hb,hl,Z3 i,rfl⟩
    ·exact qzz 0 [66,74,75] 3 (λq=>_/\_/\_/\_/\_/\_/\_/\_/\q) [.c (Z c,st),.c (Z o,st),.c (Z 1,st),.b Y6,.c (Z l,st),.b Y6,.l [Y9 [sO "sell",Z c,Z o],Y9 [sO "part",Z c,Z 1,Z (1+l),Z o],Y9 [sO "give",Z c]],.i f] ⟨hc,n,hs,hb,hl,Z4 i,g,hf,rfl⟩
 by_cases i:d<3
 ·exact⟨_,j _ (.inl ⟨i,rfl⟩),D⟩
 ·have:d / 2 - 1=0\/d / 2 - 1=1\/d / 2 - 1=2:=by lia
  rcases this with e|e|e
  ·exact⟨_,j _ (.inr ⟨i,by rw[e]; rfl⟩),ds⟩
  ·exact⟨_,j _ (.inr ⟨i,by rw[e]; rfl⟩),dp⟩
  ·exact⟨_,j _ (.inr ⟨i,by rw[e]; rfl⟩),dg⟩
end
noncomputable def dys(pl:L (J×D))(ws:L String):L Int:=(pl.filter λp=>wIs p.2 ws).map (·.1)
def dys_in(h:x∈dys pl a):∃p∈pl,p.1=x:=by
 obtain⟨p,b,rfl⟩:=Qqj.mp h;exact⟨p,(Qzn.mp b).1,rfl⟩
noncomputable def gW(ws:L String):D->Y3 D
 |.tup [.int x,f]=>if wIs f ws then Y (.int x) else B
 |_=>B
def qo8(pl)(a):(pl.map pD).filterMap (gW a)=(dys pl a).map Z:=by
 unfold dys
 induction pl with
 |nil=>rfl
 |cons p r b=>
  have e:gW a (pD p)=if wIs p.2 a then Y (Z p.1) else none:=rfl
  rw[Qqg,Qqt,e,b]
  cases h:wIs p.2 a with
  |true=>simp[Qqo,h]
  |false=>simp[Qqo,h]
section
variable {ns:L J}(hn:ns.length<=63){W H P:J}(w1:1<=W)(w2:W<=24)(h1:1<=H)(h2:H<=24)(p0:0<=P)(p1:P<=12)
theorem qff(m){S:Y2}(i:rowAt S q0=Y (pl.map pD))(e)(j:∀p∈pl,DF W H P p.2)(hl:pl.length<1000)(c:τ[3]?=Y (Y q0))(g:∀p:J×D,DF W H P p.2->(?D).tst [Y (Z p.1),Y p.2] (S) q=Y (wIs p.2 e,S)):
  stepEv ?D τ (S) (.comp (.tup [0,1]) (.var 3) (Y q) ?L [B,B])=Y (Y1 S.length,S++[Y4 O ((dys pl e).map Z)]):=by
 obtain⟨s,n,l,k⟩:=qw5 c i
 have h:=qqz (t:=.tup [0,1]) (elt:=.var 0) (sr:=[B,B]) (gW e) (λτ=>∃a b,τ=[a,b]) n l k (by simp; unfold lim; lia) ⟨B,B,rfl⟩ (λτ d hd c=>by
  obtain⟨a,b,rfl⟩:=c;obtain⟨p,f,rfl⟩:=Qqj.mp hd
  exact⟨[Y (Z p.1),Y p.2],turn_if rfl (g p (j p f)) λ_=>qqg _ _ _ _ _ rfl,Y (Z p.1),Y p.2,rfl⟩)
 rw[qo8]at h;exact h
theorem t_vein(m)(S)(p:J×D)(h:DF W H P p.2):(?D).tst [Y (Z p.1),Y p.2] S (.cmp .Eq (.idx (Yd 1) (.lit (Z 0))) (.lit (sO "vein")))=Y (wIs p.2 ["vein"],S):=by
 obtain⟨x,f⟩:=p
 cases h with
 |vein=>exact qzf 0 [] 0 (λq=>q) [] rfl
 |join=>exact qzf 0 [] 0 (λq=>q) [] rfl
 |stake=>exact qzf 0 [] 0 (λq=>q) [] rfl
 |claim h _=>cases h<;>exact qzf 0 [] 0 (λq=>q) [] rfl
theorem t_name(m)(S)(p:J×D)(h:DF W H P p.2):(?D).tst [Y (Z p.1),Y p.2] S (.cmp .In (.idx (.var 1) (.lit (Z 0))) (.tup [.lit (sO "stake"),.lit (sO "part")]))=Y (wIs p.2 ["stake","part"],S):=by
 obtain⟨x,f⟩:=p
 cases h with
 |vein=>exact qzf 0 [] 0 (λq=>q) [] rfl
 |join=>exact qzf 0 [] 0 (λq=>q) [] rfl
 |stake=>exact qzf 0 [] 0 (λq=>q) [] rfl
 |claim h _=>cases h<;>exact qzf 0 [] 0 (λq=>q) [] rfl
include hn w1 w2 h1 h2 p0 p1
theorem qo4(m)(S)(k){pl:L (J×D)}(N:rowAt S q0=Y (pl.map pD))(K:∀p∈pl,DF W H P p.2/\1<=p.1/\p.1<=400)(hl:pl.length<100):∃f,callD fns (m+4) 78 [scr ns,Z k,szD W H P,q0] S=Y (f,S)/\DF W H P f:=by
 obtain⟨y,l,y1,y2⟩:=dr hn (m+2) S k 0 (many:=20) (by decide) (by decide) (by decide);have U:∀u,∀x∈dys pl u,1<=x/\x<=400:=λu x hx=>by
  obtain⟨p,e,rfl⟩:=dys_in hx;exact(K p e).2
 have dl:∀u,(((dys pl u).map D.int).length:J)=((dys pl u).length:J):=λu=>by simp
 have c1:=qff (m+3) N (τ:=[Y (scr ns),Y (Z k),Y ?c,Y q0,Y (Z y),B,B,B]) ["vein"] (λp e=>(K p e).1) (by lia) rfl (λp h=>t_vein (m+3) _ p h);have c2:=qff (m+3) N (τ:=[Y (scr ns),Y (Z k),Y ?c,Y q0,Y (Z y),Y (Yc ((dys pl ["vein"]).map Z)),B,B]) ["stake","part"] (λp e=>(K p e).1) (by lia) rfl (λp h=>t_name (m+3) _ p h);generalize F:dys pl ["vein"]=vs at c1 c2;generalize G:dys pl ["stake","part"]=c at c2;have R:∀x∈vs,1<=x/\x<=400:=by rw[<- F]; exact U _
 have du:∀x∈c,1<=x/\x<=400:=by rw[<- G]; exact U _
 have gv:=qzv (st:=S) (nlI vs);have s:=qzv (st:=S) (nlI c);have Q:∀xs:L J,xs=[]->((((xs.map D.int).length:Y0):J)==0)=true:=λxs h=>by rw[h]; rfl
 have E:∀xs:L J,xs≠[]->((((xs.map D.int).length:Y0):J)==0)=false:=λxs h=>by
  rw[beq_eq_false_iff_ne];simpa using h
 obtain⟨C,hv,v⟩:=ql7 hn w1 w2 h1 h2 p0 p1 m S k
 by_cases j:y<3
 ·exact⟨C,qzz 0 [66,71,74,75,76,77] 4 (λq=>_/\_/\_/\_/\_/\_/\_/\q) [.c (Z y,S),.c ?V,.l (vs.map Z),.c ?X,.l (c.map Z),.b O,.c (C,S)] ⟨l,c1,gv,c2,s,Z3 j,hv,rfl⟩,v⟩
 ·by_cases tA:y<8/\vs=[]
  ·exact⟨C,qzz 0 [66,71,74,75,76,77] 4 (λq=>_/\_/\_/\_/\_/\_/\_/\_/\_/\q) [.c (Z y,S),.c ?V,.l (vs.map Z),.c ?X,.l (c.map Z),.b Y6,.b O,.b O,.c (C,S)] ⟨l,c1,gv,c2,s,Z4 j,Z3 tA.1,Q vs tA.2,hv,rfl⟩,v⟩
  ·by_cases tB:y<5/\0<P
   ·have n:=λz=>tA ⟨by lia,z⟩;have i:y<8:=by lia
    obtain⟨fl,hf,f1,f2⟩:=dr hn (m+2) S k 5 (by decide) (by decide) tB.2;obtain⟨a,ha,a1,a2⟩:=qw8 hn (m+1) S k 1 (by decide) (by decide) R;obtain⟨b,hb,b1,b2⟩:=qw8 hn (m+1) S k 3 (by decide) (by decide) R;exact⟨_,qzz 0 [66,71,74,75,76,77] 4 (λq=>_/\_/\_/\_/\_/\_/\_/\_/\_/\_/\_/\_/\_/\q) [.c (Z y,S),.c ?V,.l (vs.map Z),.c ?X,.l (c.map Z),.b Y6,.b O,.b Y6,.b O,.b O,.c (Z fl,S),.c (Z a,S),.c (Z b,S)] (r:=(Y9 [sO "join",Z a,Z b,Z (1+fl)],S)) ⟨l,c1,gv,c2,s,Z4 j,Z3 i,E vs n,Z3 tB.1,Z3 tB.2,hf,ha,hb,rfl⟩,.join a1 a2 b1 b2 (by lia) (by lia)⟩
   ·obtain⟨o,w,o1,o2⟩:=qio hn (m+1) S k 1 (by decide) (by decide);obtain⟨g,A,x0,x1,X,V,z1,z2⟩:=qm6 hn (m+1) S k 3 (W:=W) (H:=H) (by decide) (by decide) (by lia) (by lia);have ds:DF W H P (Y9 ?t):=.stake o1 o2 x0 x1 X V z1 z2
    by_cases d:y<12
    ·by_cases i:y<8
     ·have n:=λz=>tA ⟨i,z⟩
      by_cases t5:y<5
      ·have tp:=λz=>tB ⟨t5,z⟩;exact⟨_,qzz 0 [66,71,74,75,76,77] 4 (λq=>_/\_/\_/\_/\_/\_/\_/\_/\_/\_/\_/\_/\_/\q) [.c (Z y,S),.c ?V,.l (vs.map Z),.c ?X,.l (c.map Z),.b Y6,.b O,.b Y6,.b O,.b Y6,.b O,.c (Z o,S),.c (rD g,S)] ⟨l,c1,gv,c2,s,Z4 j,Z3 i,E vs n,Z3 t5,Z4 tp,Z3 d,w,A,rfl⟩,ds⟩
      ·exact⟨_,qzz 0 [66,71,74,75,76,77] 4 (λq=>_/\_/\_/\_/\_/\_/\_/\_/\_/\_/\_/\_/\q) [.c (Z y,S),.c ?V,.l (vs.map Z),.c ?X,.l (c.map Z),.b Y6,.b O,.b Y6,.b Y6,.b O,.c (Z o,S),.c (rD g,S)] ⟨l,c1,gv,c2,s,Z4 j,Z3 i,E vs n,Z4 t5,Z3 d,w,A,rfl⟩,ds⟩
     ·have t5:¬ y<5:=by lia
      exact⟨_,qzz 0 [66,71,74,75,76,77] 4 (λq=>_/\_/\_/\_/\_/\_/\_/\_/\_/\_/\_/\q) [.c (Z y,S),.c ?V,.l (vs.map Z),.c ?X,.l (c.map Z),.b Y6,.b Y6,.b Y6,.b O,.c (Z o,S),.c (rD g,S)] ⟨l,c1,gv,c2,s,Z4 j,Z4 i,Z4 t5,Z3 d,w,A,rfl⟩,ds⟩
    ·have i:¬ y<8:=by lia
     have t5:¬ y<5:=by lia
     by_cases tC:y<17/\c=[]
     ·exact⟨_,qzz 0 [66,71,74,75,76,77] 4 (λq=>_/\_/\_/\_/\_/\_/\_/\_/\_/\_/\_/\_/\_/\q) [.c (Z y,S),.c ?V,.l (vs.map Z),.c ?X,.l (c.map Z),.b Y6,.b Y6,.b Y6,.b Y6,.b O,.b O,.c (Z o,S),.c (rD g,S)] ⟨l,c1,gv,c2,s,Z4 j,Z4 i,Z4 t5,Z4 d,Z3 tC.1,Q c tC.2,w,A,rfl⟩,ds⟩
     ·obtain⟨f,hf,T⟩:=qii hn w1 w2 h1 h2 p0 p1 m S k (y - 12) (by lia) (by lia) du
      by_cases t:y<17
      ·have I:=λz=>tC ⟨t,z⟩;exact⟨f,qzz 0 [66,71,74,75,76,77] 4 (λq=>_/\_/\_/\_/\_/\_/\_/\_/\_/\_/\_/\_/\q) [.c (Z y,S),.c ?V,.l (vs.map Z),.c ?X,.l (c.map Z),.b Y6,.b Y6,.b Y6,.b Y6,.b O,.b Y6,.c (f,S)] ⟨l,c1,gv,c2,s,Z4 j,Z4 i,Z4 t5,Z4 d,Z3 t,E c I,hf,rfl⟩,T⟩
      ·exact⟨f,qzz 0 [66,71,74,75,76,77] 4 (λq=>_/\_/\_/\_/\_/\_/\_/\_/\_/\_/\_/\q) [.c (Z y,S),.c ?V,.l (vs.map Z),.c ?X,.l (c.map Z),.b Y6,.b Y6,.b Y6,.b Y6,.b Y6,.c (f,S)] ⟨l,c1,gv,c2,s,Z4 j,Z4 i,Z4 t5,Z4 d,Z4 t,hf,rfl⟩,T⟩
end
theorem qev{ds:L D}(P:Y0->Sl->Y2->Prop)(b:D->Y2->Prop)(a:∀i τ st,P i τ st->s.at st i=Y ds[i]?)(hs:∀i τ st d,ds[i]?=Y d->P i τ st->(∃τ' st',f τ st d=Y (.nx τ',st')/\P (i+1) τ' st')\/∃v st',f τ st d=Y (.rt v,st')/\b v st'):
  ∀(k i:Y0) (τ:Sl) (st:Y2),i+k=ds.length->P i τ st->(∃τ' st',loop s f (k+1) i τ st=Y (.nx τ',st')/\P ds.length τ' st')\/∃v st',loop s f (k+1) i τ st=Y (.rt v,st')/\b v st'
 |0,i,τ,st,h,p=>by
  have e:i=ds.length:=by lia
  subst e;refine .inl ⟨τ,st,?_,p⟩;rw[loop,a _ _ _ p];simp[Qz1 (Qqv _)]
 |k+1,i,τ,st,h,p=>by
  have hi:i<ds.length:=by lia
  have h1:ds[i]?=Y ds[i]:=by simp
  rw[loop,a _ _ _ p,h1];simp only[oBs];rcases hs i τ st _ h1 p with⟨τ',st',e,q⟩|⟨v,st',e,q⟩
  ·rw[e]; exact qev P b a hs k (i+1) τ' st' (by lia) q
  ·rw[e]; exact .inr ⟨v,st',rfl,q⟩
def for_rt{ds:L D}(P:Y0->Sl->Y2->Prop)(g:D->Y2->Prop)(l:src (RL c) τ st it=Y (s,st))(j:s.size st=ds.length)(i:∀k τ' st',P k τ' st'->s.at st' k=Y ds[k]?)(m:P 0 τ st)(hs:∀k τ' st' d,ds[k]?=Y d->P k τ' st'->(∃f a,((setT t d τ').bind λb=>(RL c).ex b st' body)=Y (.nx f,a)/\P (k+1) f a)\/∃v a,((setT t d τ').bind λb=>(RL c).ex b st' body)=Y (.rt v,a)/\g v a):
  (∃τ' st',stepEx (RL c) τ st (.forr t it body)=Y (.nx τ',st')/\P ds.length τ' st')\/∃v st',stepEx (RL c) τ st (.forr t it body)=Y (.rt v,st')/\g v st':=by
 have e:∀x,loop s (λτ st d=>(setT t d τ).bind λτ'=>(RL c).ex τ' st body) (ds.length+1) 0 τ st=x->stepEx (RL c) τ st (.forr t it body)=x:=λx h=>by
  show(src (RL c) τ st it).bind _=_;rw[l];simp only[oBs];rw[j];exact h
 rcases qev P g i hs ds.length 0 τ st (by lia) m with⟨τ',st',q,p⟩|⟨v,st',q,p⟩
 ·exact .inl ⟨τ',st',e _ q,p⟩
 ·exact .inr ⟨v,st',e _ q,p⟩
def gS(x)(st:Y2)(h:noLoc x=O):noLoc x=O/\st.take st.length=st:=⟨h,Qzg⟩
noncomputable def sgD(gs:L Cl):L D:=gs.map λc=>.tup [.int c.nm,rD c.g]
def nl_sg(gs):noLocs (sgD gs)=true:=qzy λ_ _=>rfl
section
variable {p:Pl}{sz:D}{d:J}{fo jo:L (D×D)}{ro:L J}{S:Y2}{cs:L Cl}
def qe0(m)(A:FA p sz d fo jo cs ro S)(hc:c∈cs):callD fns (m+3) 31 [Y1 p.a,Z c.nm] S=Y (rD c.g,S):=
 qzz 0 [53] 3 (λq=>_/\_/\q) [.r (p.fc sz d),.c (clT c,S)] ⟨A.hf,qid m A hc,rfl⟩
noncomputable def stC(cs:L Cl)(ro:L J)(d:J):L Cl:=ro.filterMap λn=>if stB cs d n then cs.find? λc=>c.nm==n else B
def qmh(h:c∈stC cs ro d):c∈cs:=by
 obtain⟨n,_,e⟩:=Qxt.mp h
 split at e
 ·exact Qz0 e
 ·cases e
def qk8:(stC cs ro d).length<=ro.length:=Qxc _ _
def stC_nm(a:∀n∈ro,∃c∈cs,c.nm=n):(stC cs ro d).map (·.nm)=ro.filter (stB cs d):=by
 unfold stC
 induction ro with
 |nil=>rfl
 |cons n r b=>
  have b:=b λx f=>a x (.tail _ f);rw[Qqt,Qqo];obtain⟨c,hc,e⟩:=a n (.head _)
  cases hb:stB cs d n with
  |false=>exact b
  |true=>
   cases hf:cs.find? λc=>c.nm==n with
   |none=>exact absurd (beq_iff_eq.mpr e) (Qx2.mp hf c hc)
   |some x=>
    have f:x.nm=n:=by simpa using Qxz hf
    show x.nm::_=n::_;rw[b,f]
def sg_ok(m)(A:FA p sz d fo jo cs ro S)(nd:(cs.map (·.nm)).Nodup)(b:∀n∈ro,∃c∈cs,c.nm=n)(hl:ro.length<1000):callD fns (m+4) 35 [Y1 p.a] S=Y (Y1 S.length,S++[Y4 O (sgD (stC cs ro d))]):=by
 have hst:=qk7 m A nd b hl;rw[<- stC_nm b]at hst;have i:=qk8 (cs:=cs) (ro:=ro) (d:=d);have j:=λc (h:c∈stC cs ro d)=>qmh h;generalize stC cs ro d=a at *;have g:(RL (callD fns (m+3))).ev [Y (Y1 p.a)] S (.gc (.mcall 678 54 "standing" ?L []))=Y (.lst (rowD (a.map (·.nm))),S):=
  qzc 0 [54] 3 (λq=>_/\_/\_/\q) [.r (p.fc sz d),.c (Y1 S.length,S++[Y4 O (rowD (a.map (·.nm)))]),.l (rowD (a.map (·.nm)))] ⟨A.hf,hst,qzv (st:=S) (nlI (a.map (·.nm))),rfl⟩
 have hc:=qxf (it:=.gc (.mcall 678 54 "standing" ?L [])) (elt:=.tup [.var 0,.call 31 [.var 1,.var 0]]) (sr:=[B,Y 0]) (es:=sgD a)
  (by show((RL (callD fns (m+3))).ev _ _ _).bind _=_; rw[g]; rfl) (qqq rfl) (qzn rfl) rfl (by unfold sgD; simp) (by simp; unfold lim; lia) λk x e hd f=>by
   have hd:((a.map (·.nm)).map D.int)[k]?=Y x:=hd;rw[Qqp,Qqw]at hd;unfold sgD at f;rw[Qqw]at f;obtain⟨c,h1,rfl⟩:=Qqa.mp hd;rw[h1]at f;cases f;exact qzc 0 [31] 3 (λq=>_/\q) [.c (rD c.g,S)] ⟨qe0 m A (j c (Qqi h1)),rfl⟩
 exact qzz 0 [] 4 (λq=>_/\q) [.c (Y1 S.length,S++[Y4 O (sgD a)])] ⟨hc,rfl⟩
end
noncomputable def ing(W H P x y z:J):Bool:=(decide (0<=x)&&decide (x<W))&&((decide (0<=y)&&decide (y<H))&&(decide (0<=z)&&decide (z<=P)))
def qlh(m)(st)(W H P x y z):callD fns (m+1) 13 [szD W H P,Y9 ?T] st=Y (.bl (ing W H P x y z),st):=by
 unfold ing
 by_cases h1:0<=x
 ·by_cases h2:x<W
  ·by_cases a:0<=y
   ·by_cases b:y<H
    ·by_cases c:0<=z
     ·rw[Z3 h1,Z3 h2,Z3 a,Z3 b,Z3 c];have e:((O&&O)&&((O&&O)&&(O&&decide (z<=P))))=decide (z<=P):=by cases decide (z<=P)<;>rfl
      rw[e];exact qzz 0 [] 1 (λq=>_/\_/\_/\_/\_/\_/\q) [.b O,.b O,.b O,.b O,.b O,.b (decide (z<=P))] ⟨Z3 h1,Z3 h2,Z3 a,Z3 b,Z3 c,(show decide (z<=P)=decide (z<=P) from rfl),rfl⟩
     ·rw[Z3 h1,Z3 h2,Z3 a,Z3 b,Z4 c];exact qzz 0 [] 1 (λq=>_/\_/\_/\_/\_/\q) [.b O,.b O,.b O,.b O,.b Y6] ⟨Z3 h1,Z3 h2,Z3 a,Z3 b,Z4 c,rfl⟩
    ·rw[Z3 h1,Z3 h2,Z3 a,Z4 b];exact qzz 0 [] 1 (λq=>_/\_/\_/\_/\q) [.b O,.b O,.b O,.b Y6] ⟨Z3 h1,Z3 h2,Z3 a,Z4 b,rfl⟩
   ·rw[Z3 h1,Z3 h2,Z4 a];exact qzz 0 [] 1 (λq=>_/\_/\_/\q) [.b O,.b O,.b Y6] ⟨Z3 h1,Z3 h2,Z4 a,rfl⟩
  ·rw[Z3 h1,Z4 h2];exact qzz 0 [] 1 (λq=>_/\_/\q) [.b O,.b Y6] ⟨Z3 h1,Z4 h2,rfl⟩
 ·rw[Z4 h1];exact qzz 0 [] 1 (λq=>_/\q) [.b Y6] ⟨Z4 h1,rfl⟩
noncomputable abbrev mvD:D:=.tup [.tup [.int 0,.int 0],.tup [.int 1,.int 0],.tup [.int (-1),.int 0],.tup [.int 0,.int 1],.tup [.int 0,.int (-1)]]
noncomputable abbrev clB:L M.S:=[.set (.var 3) (.bin .Sub (.var 3) (.idx (.idx (.glo "MOVES" mvD) (.var 5)) (.lit (.int 0)))),.set (.var 4) (.bin .Sub (.var 4) (.idx (.idx (.glo "MOVES" mvD) (.var 5)) (.lit (.int 1)))),.ite (.not (.call 13 [.var 0,.tup [.var 3,.var 4,.lit (.int 0)]])) [.ret (.lit .non)] []]
noncomputable def mvX:J->J×J
 |1=>(1,0)
 |2=>(-1,0)
 |3=>(0,1)
 |4=>(0,-1)
 |_=>(0,0)
noncomputable def stp(W H P x y s:J):Y3 (J×J):=if ing W H P (x - (mvX s).1) (y - (mvX s).2) 0 then Y (x - (mvX s).1,y - (mvX s).2) else B
def clb_ok(m)(st)(e:0<=s)(d:s<=4)(u v):(?v).ex [Y ?c,Y u,Y v,Y (Z x),Y (Z y),Y (Z s)] st clB=Y (match stp W H P x y s with|some q=>.nx [Y ?c,Y u,Y v,Y (Z q.1),Y (Z q.2),Y (Z s)]|none=>.rt .non,st):=by
 have c:∀s:J,atI [D.tup [Z 0,Z 0],Y9 [Z 1,Z 0],Y9 [Z (-1),Z 0],Y9 [Z 0,Z 1],Y9 [Z 0,Z (-1)]] s=Y (Y9 [Z (mvX s).1,Z (mvX s).2])->(?v).ex [Y ?c,Y u,Y v,Y (Z x),Y (Z y),Y (Z s)] st clB=Y (match stp W H P x y s with|some q=>.nx [Y ?c,Y u,Y v,Y (Z q.1),Y (Z q.2),Y (Z s)]|none=>.rt .non,st):=λs hi=>by
  unfold stp;generalize mvX s=q at hi ⊢;obtain⟨dx,a⟩:=q;have b:=qlh m st W H P (x - dx) (y - a) 0;dsimp only at hi ⊢
  cases hb:ing W H P (x - dx) (y - a) 0 with
  |true=>
   rw[hb]at b;exact qze 0 [13] 1 (λq=>_/\_/\_/\q) [.i (Y9 [Z dx,Z a]),.n,.i (Y9 [Z dx,Z a]),.n,.c (.bl O,st)] ⟨hi,hi,b,rfl⟩
  |false=>
   rw[hb]at b;exact qze 0 [13] 1 (λq=>_/\_/\_/\q) [.i (Y9 [Z dx,Z a]),.n,.i (Y9 [Z dx,Z a]),.n,.c (.bl Y6,st)] ⟨hi,hi,b,rfl⟩
 have hc:s=0\/s=1\/s=2\/s=3\/s=4:=by lia
 rcases hc with rfl|rfl|rfl|rfl|rfl<;>exact c _ rfl
noncomputable def cO:Y3 (J×J)->D
 |some p=>cD p
 |none=>.non
noncomputable def clm(W H P:J):J->J->L J->Y3 (J×J)
 |x,y,[]=>Y (x,y)
 |x,y,s::r=>(stp W H P x y s).bind λq=>clm W H P q.1 q.2 r
theorem qeo{Q:J->Prop}:∀{l:L D},(∀q∈l,∃s,q=Z s/\Q s)->∃a:L J,l=a.map Z/\∀s∈a,Q s
 |[],_=>⟨[],rfl,Qqu _⟩
 |d::r,h=>by
  obtain⟨s,rfl,hs⟩:=h _ (.head _);obtain⟨a,rfl,c⟩:=qeo λq b=>h q (.tail _ b);exact⟨s::a,rfl,Qjq.mpr ⟨hs,c⟩⟩
def qic{c:L J}(hs:∀s∈c,0<=s/\s<=4):∃o:Y3 (J×J),∀m st,callD fns (m+2) 28 [szD W H P,.tup (c.map Z),.tup ?T] st=Y (cO o,st):=by
 obtain⟨A,p,C⟩:=qeo (l:=cut (c.map D.int) B (Y z)) (Q:=λs=>0<=s/\s<=4) λq i=>by
  unfold cut at i;obtain⟨s,h1,rfl⟩:=Qqj.mp (List.mem_of_mem_drop (Qjt i));exact⟨s,rfl,hs s h1⟩
 refine⟨clm W H P x y A.reverse,λm st=>?_⟩;have j:(?v).ev [Y ?c,Y (.tup (c.map Z)),Y (.tup ?T),Y (Z x),Y (Z y),B] st (.sli (.var 1) B (Y (.idx (.var 2) (.lit (Z 2)))))=Y (.tup (cut (c.map Z) B (Y z)),st):=qzc 0 [] 1 (λq=>q) [] rfl;generalize u:A.reverse=R;have r:∀s∈R,0<=s/\s<=4:=λs h=>C s (by rw[<- u]at h; exact List.mem_reverse.mp h);have g:(cut (c.map D.int) B (Y z)).reverse=R.map Z:=by rw[p,<- List.map_reverse,u]
 generalize cut (c.map D.int) B (Y z)=n at j g;rcases for_rt (it:=.rev (.sli (.var 1) B (Y (.idx (.var 2) (.lit (Z 2)))))) (t:=.var 5) (ds:=R.map Z)
  (λk τ' st'=>∃f d a,clm W H P x y R=clm W H P f d (R.drop k)/\τ'=[Y ?c,Y (.tup (c.map Z)),Y (.tup ?T),Y (Z f),Y (Z d),a]/\st'=st) (λv st'=>clm W H P x y R=B/\v=.non/\st'=st)
  (by show((?v).ev _ _ _).bind _=_; rw[j]; rfl) (by rw[<- g,List.length_reverse]; rfl) (λk τ' st' _=>by
   rw[<- g];show Y (if k<n.length then n[n.length - 1 - k]? else B)=_
   by_cases hk:k<n.length
   ·rw[Z6 hk,List.getElem?_reverse hk]
   ·rw[Z5 hk,Qz1 (by rw[List.length_reverse]; lia)]) ⟨_,_,_,rfl,rfl,rfl⟩ (λk τ' st' q i h=>by
   obtain⟨f,d,a,b,rfl,rfl⟩:=h;rw[Qqw]at i;obtain⟨s,hs,rfl⟩:=Qqa.mp i;obtain⟨hk,hs⟩:=Qqk.mp hs;have w:=r s (hs▸Qxk hk);rw[Qjx hk,hs]at b;have e:=clb_ok m st' w.1 w.2 (.tup (c.map Z)) (.tup ?T) (W:=W) (H:=H) (P:=P) (x:=f) (y:=d);have b:clm W H P x y R=(stp W H P f d s).bind λq=>clm W H P q.1 q.2 (R.drop (k+1)):=b
   cases hb:stp W H P f d s with
   |some q=>
    rw[hb]at b e;exact .inl ⟨_,_,e,q.1,q.2,_,b,rfl,rfl⟩
   |none=>
    rw[hb]at b e
    exact .inr ⟨_,_,e,b,rfl,rfl⟩) with⟨τ',st',e,f,d,a,b,rfl,rfl⟩|⟨v,st',e,b,rfl,rfl⟩
 ·rw[Qqz,List.drop_length]at b;rw[b];exact qzz 0 [] 2 (λq=>_/\q) [.n,.n,.s (.nx [Y ?c,Y (.tup (c.map Z)),Y (.tup ?T),Y (Z f),Y (Z d),a],st')] ⟨e,rfl⟩
 ·rw[b];exact qzz 0 [] 2 (λq=>_/\q) [.n,.n,.s (.rt .non,st')] ⟨e,rfl⟩
theorem qe4{g:D->Y3 D}{Q:J->Prop}:∀{ds:L D},(∀d∈ds,∀x,g d=Y x->∃i,x=Z i/\Q i)->∃ys:L J,ds.filterMap g=ys.map Z/\ys.length<=ds.length/\∀y∈ys,Q y
 |[],_=>⟨[],rfl,Qqv _,Qqu _⟩
 |d::r,h=>by
  obtain⟨ys,e,l,q⟩:=qe4 λx b=>h x (.tail _ b);rw[Qqt,e]
  cases c:g d with
  |none=>exact⟨ys,rfl,Nat.le_succ_of_le l,q⟩
  |some x=>
   obtain⟨i,rfl,hi⟩:=h d (.head _) x c
   exact⟨i::ys,rfl,Nat.succ_le_succ l,λy a=>by
    rcases Qqb.mp a with rfl|a
    ·exact hi
    ·exact q y a⟩
def VsOk(vs:L (J×D×L (J×J))):Prop:=∀v∈vs,(∃ss:L J,v.2.1=.tup (ss.map .int)/\(∀s∈ss,0<=s/\s<=4)/\ss.length<1000)/\v.2.2.length<=16
noncomputable def enW(w:D):D->Y3 D
 |.tup [.int i,x]=>if eqT x w then Y (.int i) else B
 |_=>B
noncomputable def ltW(n:Y0):D->Y3 D
 |.int i=>if decide (i<(n:J)) then Y (.int i) else B
 |_=>B
section
variable {p:Pl}{d:J}{jo:L (D×D)}{S:Y2}{vs:L (J×D×L (J×J))}
noncomputable abbrev vD(v:J×D×L (J×J)):D:=.tup [v.2.1,.tup ?qk]
def qk2(m)(A:FV p sz d ?R jo S)(a:(vs.map (·.1)).Nodup)(hv:v∈vs):callD fns (m+1) 51 [Y1 p.a,Z v.1] S=Y (vD v,S):=by
 have h:=qyn hv a;exact qzz 0 [] 1 (λq=>_/\_/\_/\_/\_/\_/\q) [.r (p.fc sz d),.r (.dic O ?R),.q (Y (vD v)),.r (p.fc sz d),.r (.dic O ?R),.q (Y (vD v))] ⟨A.hf,A.hv,h,A.hf,A.hv,h,rfl⟩
def qai(m)(A:FV p sz d ?R jo S)(a:(vs.map (·.1)).Nodup)(hv:v∈vs):callD fns (m+1) 52 [Y1 p.a,Z v.1] S=Y ((dget jo (Z v.1)).getD .non,S):=by
 have h:=qyn hv a;exact qzz 0 [] 1 (λq=>_/\_/\_/\_/\_/\_/\_/\q) [.r (p.fc sz d),.r (.dic O ?R),.q (Y (vD v)),.r (p.fc sz d),.r (.dic O jo),.r (.dic O jo),.q (dget jo (Z v.1))] ⟨A.hf,A.hv,h,A.hf,A.hj,A.hj,(show dget jo (Z v.1)=dget jo (Z v.1) from rfl),rfl⟩
def met_ok(r:(vs.map (·.1)).Nodup)(hv:v∈vs)(hV:VsOk vs){xs:L J}(a2:xs.length<=16)(R:∀x∈xs,0<=x)(hj:dget jo (Z v.1)=B\/∃b f,dget jo (Z v.1)=Y (.tup [Z b,Z f])):
  ∃ys:L J,(∀(m:Y0) (p:Pl) (S:Y2),FV p ?c d ?R jo S->∀j kvs,S[j]?=Y (.dic O kvs)->(∀b f,dget jo (Z v.1)=Y (.tup [Z b,Z f])->∃l,dget kvs (Z b)=Y (Y1 l)/\S[l]?=Y (Y4 O (xs.map Z)))->callD fns (m+3) 29 [Y1 p.a,Z v.1,.tup ?T,Y1 j] S=Y (Y1 S.length,S++[Y4 O (ys.map Z)]))/\ys.length<=16/\∀y∈ys,0<=y/\y<(v.2.2.length:J):=by
 obtain⟨⟨ss,es,U,_⟩,a1⟩:=hV v hv;obtain⟨o,hc⟩:=qic (W:=W) (H:=H) (P:=P) (x:=x) (y:=y) (z:=z) U;generalize hw:cO o=w at hc;have T:∀(m:Y0) (p:J×J) (S:Y2) (n:Y0),(RL (callD fns (m+2))).tst [Y (Z n),Y (cD p),Y w] S (.cmp .Eq (.var 1) (.var 2))=Y (eqT (cD p) w,S):=λm p S n=>by
  subst hw
  cases o with
  |none=>exact qzf 0 [] 2 (λq=>q) [] rfl
  |some q=>exact qzf 0 [] 2 (λq=>q) [] rfl
 obtain⟨ys,e,l,q⟩:=qe4 (g:=enW w) (Q:=λy=>0<=y/\y<(v.2.2.length:J)) (ds:=v.2.2.zipIdx.map λp=>D.tup [Z (p.2:J),cD p.1]) (λx I u c=>by
  obtain⟨p,hp,rfl⟩:=Qqj.mp I;have hi:=List.snd_lt_of_mem_zipIdx hp;have c:(if eqT (cD p.1) w then Y (D.int (p.2:J)) else B)=Y u:=c
  split at c
  ·cases c; exact⟨_,rfl,by lia,by lia⟩
  ·cases c)
 rw[Qqz,Qj6]at l;have own:∀(m:Y0) (S:Y2) (a j:Y0) (k:D),stepEv (RL (callD fns (m+2))) [Y (Y1 a),Y (Z v.1),Y (.tup ?T),Y (Y1 j),Y (vD v),Y k,Y w] S (.comp (.tup [0,1]) (.enu (.idx (.var 4) (.lit (Z 1)))) (Y (.cmp .Eq (.var 1) (.var 2))) ?L [B,B,Y 6])=Y (Y1 S.length,S++[Y4 O (ys.map Z)]):=λm S a j k=>by
  have F:(RL (callD fns (m+2))).ev [Y (Y1 a),Y (Z v.1),Y (.tup ?T),Y (Y1 j),Y (vD v),Y k,Y w] S (.idx (.var 4) (.lit (Z 1)))=Y (.tup ?qk,S):=qzc 0 [] 2 (λq=>q) [] rfl;have a0:∀i:Y0,((v.2.2.zipIdx.map λp=>D.tup [Z (p.2:J),cD p.1])[i]?)=(?qk[i]?).map λx=>D.tup [Z i,x]:=λi=>by
   rw[Qqw,List.getElem?_zipIdx,Qqw]
   cases v.2.2[i]? with
   |none=>rfl
   |some p=>show Y (D.tup [Z ((0+i:Y0):J),cD p])=_; rw[Qzp]; rfl
  have h:=qqz (t:=.tup [0,1]) (it:=.enu (.idx (.var 4) (.lit (Z 1)))) (elt:=.var 0) (sr:=[B,B,Y 6]) (enW w) (λτ=>∃a b,τ=[a,b,Y w])
   (by show((RL (callD fns (m+2))).ev _ _ _).bind _=_; rw[F]; rfl) (λi=>by rw[a0]; rfl) (by rw[Qqz,Qj6]; show (?qk).length=_; rw[Qqz]) (by rw[Qqz,Qj6]; unfold lim; lia) ⟨B,B,rfl⟩ (λτ x I C=>by
    obtain⟨a,b,rfl⟩:=C;obtain⟨p,hp,rfl⟩:=Qqj.mp I
    exact⟨[Y (Z (p.2:J)),Y (cD p.1),Y w],turn_if rfl (T m p.1 S p.2) λ_=>qqg _ _ _ _ _ rfl,_,_,rfl⟩)
  rw[e]at h;exact h
 have N:∀k:D,(dget jo (Z v.1)).getD .non=k->(isNon k=O\/∃b f,k=.tup [Z b,Z f]/\¬ f<=z)->∀(m:Y0) (p:Pl) (S:Y2),FV p ?c d ?R jo S->∀j,callD fns (m+3) 29 [Y1 p.a,Z v.1,.tup ?T,Y1 j] S=Y (Y1 S.length,S++[Y4 O (ys.map Z)]):=λk hn h2 m p S A j=>by
  have G:=qk2 (m+1) A r hv;have h1:=qai (m+1) A r hv;rw[hn]at h1;have hc:=hc m S;have e:=own m S p.a j k;unfold vD at G e;rw[es]at G e;rcases h2 with h2|⟨b,f,rfl,h2⟩
  ·exact qzz 0 [51,52,28] 3 (λq=>_/\_/\_/\_/\_/\_/\_/\_/\_/\q) [.r (p.fc ?c d),.c (.tup [.tup (ss.map Z),.tup ?qk],S),.r (p.fc ?c d),.c (k,S),.b Y6,.r (p.fc ?c d),.r (p.fc ?c d),.c (w,S),.c (Y1 S.length,S++[Y4 O (ys.map Z)])] ⟨A.hf,G,A.hf,h1,(show(!isNon k)=Y6 by rw[h2]; rfl),A.hf,A.hf,hc,e,rfl⟩
  ·exact qzz 0 [51,52,28] 3 (λq=>_/\_/\_/\_/\_/\_/\_/\_/\_/\q) [.r (p.fc ?c d),.c (.tup [.tup (ss.map Z),.tup ?qk],S),.r (p.fc ?c d),.c (.tup [Z b,Z f],S),.k,.b Y6,.r (p.fc ?c d),.r (p.fc ?c d),.c (w,S),.c (Y1 S.length,S++[Y4 O (ys.map Z)])] ⟨A.hf,G,A.hf,h1,Z4 h2,A.hf,A.hf,hc,e,rfl⟩
 rcases hj with hj|⟨b,f,hj⟩
 ·exact⟨ys,λm p S A j kvs _ _=>N .non (by rw[hj]; rfl) ?qp m p S A j,by lia,q⟩
 ·by_cases hf:f<=z
  ·obtain⟨ys,e,le,q⟩:=qe4 (g:=ltW (?qk).length) (Q:=λy=>0<=y/\y<(v.2.2.length:J)) (ds:=xs.map Z) (λx I u c=>by
    obtain⟨i,hi,rfl⟩:=Qqj.mp I;have c:(if decide (i<((?qk).length:J)) then Y (D.int i) else B)=Y u:=c
    split at c
    ·rename_i V;cases c;have:=of_decide_eq_true V;rw[Qqz]at this;exact⟨_,rfl,R i hi,this⟩
    ·cases c)
   rw[Qqz]at le;refine⟨ys,λm p S A j kvs hk X=>?_,by lia,q⟩;obtain⟨l,hb,hl⟩:=X b f hj;have G:=qk2 (m+1) A r hv;have K:=qai (m+1) A r hv;rw[hj]at K;have E:listAt S l=Y (xs.map Z):=by unfold listAt; rw[hl]
   have F:(RL (callD fns (m+2))).ev [Y (Y1 p.a),Y (Z v.1),Y (.tup ?T),Y (Y1 j),Y (vD v),Y (.tup [Z b,Z f]),B] S (.didx (.var 3) (.idx (.var 5) (.lit (Z 0))))=Y (Y1 l,S):=
    qzc 0 [] 2 (λq=>_/\_/\q) [.n,.r (.dic O kvs),.q (Y (Y1 l))] ⟨hk,hb,rfl⟩
   have h:=qqz (t:=.var 0) (it:=.didx (.var 3) (.idx (.var 5) (.lit (Z 0)))) (test:=Y (.cmp .Lt ?L (.bcall .len [.idx (.var 1) (.lit (Z 1))]))) (elt:=.var 0) (sr:=[B,Y 4]) (s:=.lst (Y1 l)) (ltW (?qk).length) (λτ=>∃a,τ=[a,Y (vD v)])
    (by show((RL (callD fns (m+2))).ev _ _ _).bind _=_; rw[F]; show(listAt S l).map _=_; rw[E]; rfl) (qqq E) (qzn E) (by rw[Qqz]; unfold lim; lia) ⟨B,rfl⟩ (λτ u c C=>by
     obtain⟨a,rfl⟩:=C;obtain⟨i,hi,rfl⟩:=Qqj.mp c
     exact⟨[Y (Z i),Y (vD v)],turn_if rfl (qzf 0 [] 2 (λq=>_/\q) [.b (decide (i<((?qk).length:J)))] ⟨(show decide (i<((?qk).length:J))=decide (i<((?qk).length:J)) from rfl),rfl⟩) λ_=>qqg _ _ _ _ _ rfl,_,rfl⟩)
   rw[e]at h;exact qzz 0 [51,52,28] 3 (λq=>_/\_/\_/\_/\_/\_/\q) [.r (p.fc ?c d),.c (vD v,S),.r (p.fc ?c d),.c (.tup [Z b,Z f],S),.k,.b O,.c (Y1 S.length,S++[Y4 O (ys.map Z)])] ⟨A.hf,G,A.hf,K,Z3 hf,h,rfl⟩
  ·exact⟨ys,λm p S A j kvs _ _=>N _ (by rw[hj]; rfl) (.inr ⟨b,f,rfl,hf⟩) m p S A j,by lia,q⟩
end
noncomputable def metD:Y0->L J->L (D×D)
 |_,[]=>[]
 |Bq,a::r=>(.int a,.loc Bq)::metD (Bq+1) r
theorem qaa(a):∀(r:L J) (Bq:Y0),metD Bq (r++[a])=metD Bq r++[(Z a,Y1 (Bq+r.length))]
 |[],Bq=>rfl
 |x::r,Bq=>by
  show(D.int x,D.loc Bq)::metD (Bq+1) (r++[a])=_;rw[qaa a r,Qqh,show Bq+1+r.length=Bq+(r.length+1) by lia]
  rfl
theorem qyk:∀{r}{Bq i},r.Nodup->r[i]?=Y n->dget (metD Bq r) (Z n)=Y (Y1 (Bq+i))
 |x::r,Bq,i,hn,hi=>by
  unfold dget;show Option.map _ (match (x==n) with|true=>_|false=>_)=_;rw[Qze]at hn
  cases i with
  |zero=>cases hi; rw[beq_self_eq_true]; rfl
  |succ i=>
   have hi:=hi;have a:x≠n:=λe=>hn.1 (by rw[e]; exact Qqi hi);rw[beq_false_of_ne a];have:=qyk (Bq:=Bq+1) hn.2 hi;rw[show Bq+1+i=Bq+(i+1) by lia]at this;exact this
theorem qeq:∀(r:L J) (Bq:Y0),(metD Bq r).length=r.length
 |[],_=>rfl
 |_::r,Bq=>congrArg (· + 1) (qeq r (Bq+1))
theorem qex:∀{r}{Bq},p∈metD Bq r->∃x∈r,p.1=Z x
 |a::r,Bq,h=>by
  rcases Qqb.mp h with rfl|h
  ·exact⟨a,.head _,rfl⟩
  ·obtain⟨x,b,e⟩:=qex h;exact⟨x,.tail _ b,e⟩
theorem set0{ls:Y2}:∀{R},(R++a::b::ls).set R.length a'=R++a'::b::ls
 |[]=>rfl
 |x::r=>congrArg (x::·) (set0)
theorem set1{b:Ya}:∀{R},(R++a::b::ls).set (R.length+1) b'=R++a::b'::ls
 |[]=>rfl
 |x::r=>congrArg (x::·) (set1)
theorem get0{ls:Y2}(i):∀{R},(R++ls)[R.length+i]?=ls[i]?
 |[]=>by rw[List.nil_append,Qky,Qzp]
 |x::r=>by
  rw[Qqh,show r.length+1+i=(r.length+i)+1 by lia];exact get0 i
def qou(h:ex[i]?=Y (Y4 O ds))(a:noLocs ds=O):gcD st (Y1 (st.length+i),st++ex)=(Yc ds,st):=by
 rw[gc_x (by simp)];unfold gcX;rw[Z5 (by simp[noLoc])];simp only[Qjf,if_true,get0,h,a];simp
def CoI(vs:L (J×D×L (J×J)))(pr:L (J×J)):Prop:=∀p∈pr,∃v∈vs,v.1=p.1/\0<=p.2/\p.2<(v.2.2.length:J)
noncomputable abbrev ysC(ys:L J):Ya:=.lst O (ys.map .int)
def JoI(vs:L (J×D×L (J×J)))(jo:L (D×D)):Prop:=∀p∈jo,∃a b f:J,p=(.int a,.tup [.int b,.int f])/\b<a/\b∈vs.map (·.1)
def jo_get(d:JoI vs jo)(h:dget jo (Z a)=Y x):∃b f:J,x=Y9 [Z b,Z f]/\b<a/\b∈vs.map (·.1):=by
 unfold dget at h;obtain⟨p,c,rfl⟩:=Qqa.mp h;obtain⟨g,b,f,rfl,h1,h2⟩:=d p (Qz0 c);have e:=Qxz c;have e:=e;cases beq_iff_eq.mp e;exact⟨b,f,rfl,h1,h2⟩
section
noncomputable abbrev coB:L M.S:=[.dset (.var 2) (.var 4) (.call 29 [.var 0,.var 4,.var 1,.var 2]),.expr (.meth (.var 3) .extend [.gc (.comp ?L (.didx (.var 2) (.var 4)) B (.tup [.var 1,.var 0]) [B,Y 4])])]
noncomputable abbrev coX(S:Y2)(vs:L (J×D×L (J×J)))(k:Y0)(s:L (J×J)×L (L J)):Y2:=S++.dic O (metD ?qn ((vs.take k).map (·.1)))::.lst O (s.1.map cD)::s.2.map ysC
theorem chain{S:Type}{I:Y0->S->Prop}{R:Y0->S->S->Prop}{s0:S}(a:I 0 s0):∀n:Y0,(∀k s,k<n->I k s->∃s',I (k+1) s'/\R k s s')->∃f:Y0->S,f 0=s0/\(∀k,k<=n->I k (f k))/\∀k,k<n->R k (f k) (f (k+1))
 |0,_=>⟨λ_=>s0,rfl,λk hk=>by cases Nat.le_zero.mp hk; exact a,λk hk=>absurd hk (Nat.not_lt_zero k)⟩
 |n+1,h=>by
  obtain⟨f,e,hi,hr⟩:=chain a n λk s hk=>h k s (Qx5 hk);obtain⟨s',h1,h2⟩:=h n (f n) (Qzo n) (hi n (Qqv n));refine⟨λk=>if k<=n then f k else s',(Z6 (Qzl n)).trans e,λk hk=>?_,λk hk=>?_⟩<;>dsimp only
  ·by_cases c:k<=n
   ·rw[Z6 c]; exact hi k c
   ·rw[Z5 c,show k=n+1 by lia]; exact h1
  ·rw[Z6 (Qxe hk)]
   by_cases c:k+1<=n
   ·rw[Z6 c]; exact hr k c
   ·rw[Z5 c,show k=n by lia]; exact h2
noncomputable abbrev coT(a n:Y0)(x y z:J)(o:Y3 D):Sl:=[Y (.loc a),Y (.tup [.int x,.int y,.int z]),Y (.loc n),Y (.loc (n+1)),o]
def qpj(V:(vs.map (·.1)).Pairwise (· < ·))(c6:vs.length<60)(hV:VsOk vs)(Jq:JoI vs jo){x y z:J}(b6:ing W H P x y z=O):
  ∃l:L (J×J),CoI vs l/\l.length<=16*vs.length/\∀(m:Y0) (p:Pl) (S:Y2),FV p ?c d ?R jo S->∃ex:Y2,callD fns (m+4) 30 [Y1 p.a,.tup ?T] S=Y (Y1 (S.length+1),S++ex)/\ex[1]?=Y (Y4 O (l.map cD)):=by
 have E:(vs.map (·.1)).Nodup:=V.imp λh=>by lia
 have keys:keysOf ?R=vs.map λv=>D.int v.1:=by unfold keysOf voD; rw[Qqp]; rfl
 obtain⟨F,c5,c4,c3⟩:=chain (S:=L (J×J)×L (L J)) (I:=λk s=>s.2.length=k/\(∀ys∈s.2,ys.length<=16/\∀u∈ys,0<=u)/\CoI vs s.1/\s.1.length<=16*k)
  (R:=λk s s'=>∀v,vs[k]?=Y v->∀(m:Y0) (p:Pl) (S:Y2),FV p ?c d ?R jo S->∀o:Y3 D,((setT (.var 4) (Z v.1) (coT p.a S.length x y z o)).bind λa7=>(RL (callD fns (m+3))).ex a7 (coX S vs k s) coB)=Y (.nx (coT p.a S.length x y z (Y (Z v.1))),coX S vs (k+1) s')) (s0:=([],[])) ⟨rfl,Qqu _,Qqu _,Qqv _⟩ vs.length λk s n h=>by
  obtain⟨l,j⟩:=s;obtain⟨h4,Q,h6,h7⟩:=h;dsimp only at h4 Q h6 h7;obtain⟨v,hv⟩:∃v,vs[k]?=Y v:=⟨_,Qqd n⟩
  have a0:=Qqi hv;have tk:(vs.take (k+1)).map (·.1)=(vs.take k).map (·.1)++[v.1]:=by rw[Qj2,hv,Qqm]; rfl
  have nk:=(List.Sublist.map (·.1) (Qxn k vs)).nodup E;have w:=(List.Sublist.map (·.1) (Qxn (k+1) vs)).nodup E;generalize K:(vs.take k).map (·.1)=ns at nk w tk;have nl:ns.length=k:=by rw[<- K,Qqz,Qq9]; lia
  have a9:∃xs:L J,xs.length<=16/\(∀x∈xs,0<=x)/\(dget jo (Z v.1)=B\/∃b f,dget jo (Z v.1)=Y (.tup [Z b,Z f]))/\∀b f,dget jo (Z v.1)=Y (.tup [Z b,Z f])->∃i:Y0,ns[i]?=Y b/\j[i]?=Y xs:=by
   cases hj:dget jo (Z v.1) with
   |none=>exact⟨[],Qzl _,Qqu _,.inl rfl,λb f e=>by cases e⟩
   |some u=>
    obtain⟨b,f,rfl,hb,c1⟩:=jo_get Jq hj;obtain⟨vb,b4,rfl⟩:=Qqj.mp c1;obtain⟨i,hi⟩:=List.mem_iff_getElem?.mp b4;have b7:=(Qqk.mp hi).1;have b8:i<k:=by
     by_cases c:i<k
     ·exact c
     ·exfalso;have b0:(vs.map (·.1))[k]?=Y v.1:=by rw[Qqw,hv]; rfl
      have b3:(vs.map (·.1))[i]?=Y vb.1:=by rw[Qqw,hi]; rfl
      obtain⟨_,e1⟩:=Qqk.mp b0;obtain⟨_,e2⟩:=Qqk.mp b3
      by_cases e:i=k
      ·subst e; rw[e1]at e2; lia
      ·have:=Qxb.mp V k i (by simpa using n) (by simpa using b7) (by lia);rw[e1,e2]at this
       lia
    have a3:ns[i]?=Y vb.1:=by rw[<- K,Qqw,Qkq b8,hi]; rfl
    have U:i<j.length:=by lia
    have Q:=Q _ (Qxk U);exact⟨j[i],Q.1,Q.2,.inr ⟨_,_,rfl⟩,λb f e=>by cases e; exact⟨i,a3,Qqd U⟩⟩
  obtain⟨xs,x1,x2,x3,x4⟩:=a9;obtain⟨ys,hm,m1,m2⟩:=met_ok (W:=W) (H:=H) (P:=P) (d:=d) (x:=x) (y:=y) (z:=z) E a0 hV x1 x2 x3;refine⟨(l++ys.map (λi=>(v.1,i)),j++[ys]),⟨by simp[h4],?_,?_,?_⟩,λv' b5 m p S A o=>?_⟩
  ·intro u C;rcases Qqr.mp C with C|C
   ·exact Q u C
   ·cases Qqy.mp C; exact⟨m1,λi hi=>(m2 i hi).1⟩
  ·intro p G;rcases Qqr.mp G with G|G
   ·exact h6 p G
   ·obtain⟨i,hi,rfl⟩:=Qqj.mp G;exact⟨v,a0,rfl,m2 i hi⟩
  ·rw[Qql,Qqz]; lia
  cases hv.symm.trans b5;have b9:∀p∈metD ?qn ns,eqT p.1 (Z v.1)=false:=λp G=>by
   obtain⟨u,C,e⟩:=qex G;rw[tk,Qxo]at w;rw[e];exact beq_false_of_ne (w.2.2 u C v.1 (Qqy.mpr rfl))
  have a1:dput (metD ?qn ns) (Z v.1) (Y1 (S.length+2+k))=metD ?qn (ns++[v.1]):=by
   rw[qxp b9,qaa,nl]
  have hm:=hm m p _ (A.app (.dic O (metD ?qn ns)::Y4 O (l.map cD)::j.map ysC)) S.length (metD ?qn ns) (get0 0) λb f e=>by
   obtain⟨i,i1,i2⟩:=x4 b f e;refine⟨_,qyk nk i1,?_⟩;rw[show S.length+2+i=S.length+(i+2) by lia,get0];show(j.map ysC)[i]?=_;rw[Qqw,i2]
   rfl
  unfold coX;rw[K,tk];dsimp only;generalize hX:S++.dic O (metD ?qn ns)::Y4 O (l.map cD)::j.map ysC=X at hm ⊢;have c2:X.length=S.length+2+k:=by rw[<- hX]; simp[h4]; lia
  have r0:(X++[ysC ys])[S.length]?=Y (.dic O (metD ?qn ns)):=by rw[<- hX,Qzz]; exact get0 0
  have a2:(ns++[v.1])[k]?=Y v.1:=by rw[<- nl]; simp
  have hq:=qyk (Bq:=S.length+2) (tk▸w) a2;have b1:decide ((metD ?qn ns).length<lim)=true:=Z3 (by rw[qeq,nl]; unfold lim; lia);have e2:=set1 (a:=.dic O (metD ?qn (ns++[v.1]))) (b:=Y4 O (l.map cD)) (b':=Y4 O (l.map cD++(ys.map λi=>(v.1,i)).map cD)) (ls:=(j++[ys]).map ysC) (R:=S);have r1:=get0 (R:=S) (ls:=.dic O (metD ?qn (ns++[v.1]))::Y4 O (l.map cD)::(j++[ys]).map ysC) 1;have g:=get0 (R:=S) (ls:=.dic O (metD ?qn (ns++[v.1]))::Y4 O (l.map cD)::(j++[ys]).map ysC) 0;have N:listAt (S++.dic O (metD ?qn (ns++[v.1]))::Y4 O (l.map cD)::(j++[ys]).map ysC) (S.length+2+k)=Y (ys.map Z):=by
   unfold listAt;rw[show S.length+2+k=S.length+(k+2) by lia,get0,<- h4];simp
  have eY:(coT p.a S.length x y z (Y (Z v.1)),(X++[ysC ys]).set S.length (.dic O (dput (metD ?qn ns) (Z v.1) (Y1 X.length))))=(coT p.a S.length x y z (Y (Z v.1)),S++.dic O (metD ?qn (ns++[v.1]))::Y4 O (l.map cD)::(j++[ys]).map ysC):=by
   rw[c2,a1,<- hX,Qzz];show(_,(S++.dic O (metD ?qn ns)::Y4 O (l.map cD)::(j.map ysC++[ysC ys])).set _ _)=_;rw[set0,Qqm]
   rfl
  rw[Qqm,<- e2];generalize S++.dic O (metD ?qn (ns++[v.1]))::Y4 O (l.map cD)::(j++[ys]).map ysC=T at *;have a5:(RL (callD fns (m+3))).ev (coT p.a S.length x y z (Y (Z v.1))) T (.didx (.var 2) (.var 4))=Y (Y1 (S.length+2+k),T):=
   qzc 0 [] 3 (λq=>_/\_/\q) [.r (.dic O (metD ?qn (ns++[v.1]))),.q (Y (Y1 (S.length+2+k)))] ⟨g,hq,rfl⟩
  have a6:=qqz (t:=.var 0) (it:=.didx (.var 2) (.var 4)) (elt:=.tup [.var 1,.var 0]) (sr:=[B,Y 4]) (s:=.lst (Y1 (S.length+2+k))) (λu=>Y (.tup [Z v.1,u])) (λτ=>∃a,τ=[a,Y (Z v.1)])
   (by show((RL (callD fns (m+3))).ev _ _ _).bind _=_; rw[a5]; show(listAt _ _).map _=_; rw[N]; rfl) (qqq N) (qzn N) (by rw[Qqz]; unfold lim; lia) ⟨B,rfl⟩ (λτ u C a8=>by
    obtain⟨a,rfl⟩:=a8;obtain⟨i,hi,rfl⟩:=Qqj.mp C
    exact⟨[Y (Z i),Y (Z v.1)],qk3 rfl (qzc 0 [] 3 (λq=>q) [] rfl),_,rfl⟩)
  have ef:(ys.map D.int).filterMap (λu=>Y (D.tup [Z v.1,u]))=(ys.map λi=>(v.1,i)).map cD:=by
   rw[Qxw,Qqp];exact Qx8▸rfl
  rw[ef]at a6;have g2:=qzv (st:=T) (ds:=(ys.map λi=>(v.1,i)).map cD) (qzy λ_ _=>rfl);have b2:decide ((l.map cD).length+((ys.map λi=>(v.1,i)).map cD).length<=lim)=true:=Z3 (by simp only[Qqz]; unfold lim; lia);exact qze 0 [29] 3 (λq=>_/\_/\_/\_/\_/\_/\_/\_/\_/\q) [.c (Y1 X.length,X++[ysC ys]),.r (.dic O (metD ?qn ns)),.b O,.e (coT p.a S.length x y z (Y (Z v.1)),T),.r (Y4 O (l.map cD)),.c (Y1 T.length,T++[Y4 O ((ys.map λi=>(v.1,i)).map cD)]),.l ((ys.map λi=>(v.1,i)).map cD),.r (Y4 O (l.map cD)),.b O]
   (r:=(.nx (coT p.a S.length x y z (Y (Z v.1))),T.set (S.length+1) (Y4 O (l.map cD++(ys.map λi=>(v.1,i)).map cD)))) ⟨hm,r0,b1,eY,r1,a6,g2,r1,b2,rfl⟩
 obtain⟨h4,Q,h6,h7⟩:=c4 vs.length (Qqv _);refine⟨(F vs.length).1,h6,h7,λm p S A=>⟨.dic O (metD ?qn (vs.map (·.1)))::Y4 O ((F vs.length).1.map cD)::(F vs.length).2.map ysC,?_,rfl⟩⟩;have A2:=A.app [.dic O [],Y4 O []];have c0:(RL (callD fns (m+3))).ev (coT p.a S.length x y z B) (S++[.dic O [],Y4 O []]) (.gc (.mcall 678 50 "veins" ?L []))=Y (.lst (vs.map λv=>D.int v.1),S++[.dic O [],Y4 O []]):=by
  have g:=qzv (st:=S++[.dic O [],Y4 O []]) (ds:=keysOf ?R) (by rw[keys]; exact qzy λ_ _=>rfl);rw[<- keys];exact qzc 0 [] 3 (λq=>_/\_/\_/\_/\q) [.r (p.fc ?c d),.r (p.fc ?c d),.r (.dic O ?R),.l (keysOf ?R)] ⟨A2.hf,A2.hf,A2.hv,g,rfl⟩
 obtain⟨τ',st',h1,hk,o,rfl,rfl⟩:=qqw (st:=S++[.dic O [],Y4 O []]) (it:=.gc (.mcall 678 50 "veins" ?L [])) (t:=.var 4) (body:=coB)
  (λk τ' st'=>k<=vs.length/\∃o:Y3 D,τ'=coT p.a S.length x y z o/\st'=coX S vs k (F k))
  (by show((RL (callD fns (m+3))).ev _ _ _).bind _=_; rw[c0]; rfl) (qzn rfl) (λk τ' st' _=>qqq rfl k) ⟨Qzl _,B,rfl,by rw[c5]; rfl⟩ (λk τ' st' q hq h=>by
   obtain⟨hk,o,rfl,rfl⟩:=h;rw[Qqw]at hq;obtain⟨v,hv,rfl⟩:=Qqa.mp hq;have n:=(Qqk.mp hv).1
   exact⟨_,_,c3 k n v hv m p S A o,n,_,rfl,rfl⟩)
 unfold coX at h1;rw[Qqz,Qzg]at h1;have a4:=qlh (m+2) S W H P x y z;rw[b6]at a4;have e0:(([Y (Y1 p.a),Y (.tup ?T),Y (Y1 S.length),B,B]:Sl),(S++[Ya.dic O []]).set S.length (.dic O (dall [])))=([Y (Y1 p.a),Y (.tup ?T),Y (Y1 S.length),B,B],S++[Ya.dic O []]):=by
  rw[sl]
  rfl
 have e1:(([Y (Y1 p.a),Y (.tup ?T),Y (Y1 S.length),Y (Y1 (S++[Ya.dic O []]).length),B]:Sl),S++[Ya.dic O []]++?I)=(coT p.a S.length x y z B,S++[.dic O [],Y4 O []]):=by
  rw[Qql,Qzz]
  rfl
 exact qzz 0 [13] 4 (λq=>_/\_/\_/\_/\_/\_/\_/\q) [.r (p.fc ?c d),.r (p.fc ?c d),.c (.bl O,S),.r (.dic O []),.e ([Y (Y1 p.a),Y (.tup ?T),Y (Y1 S.length),B,B],S++[Ya.dic O []]),.e (coT p.a S.length x y z B,S++[.dic O [],Y4 O []]),.s (.nx (coT p.a S.length x y z o),S++.dic O (metD ?qn (vs.map (·.1)))::Y4 O ((F vs.length).1.map cD)::(F vs.length).2.map ysC)] ⟨A.hf,A.hf,a4,gl (st:=S) (c:=.dic O []),e0,e1,h1,rfl⟩
end
noncomputable def hiD(p:J×String):D:=.tup [.int p.1,sO p.2]
def nl_h(a:L (J×String)):noLocs (a.map hiD)=true:=qzy λ_ _=>rfl
def cov_ok(m)(st)(g)(x y z):callD fns (m+2) 34 [rD g,Y9 ?T] st=Y (.bl (inB g (x,y)),st):=
 qzz 0 [9] 2 (λq=>_/\q) [.c (.bl (inB g (x,y)),st)] ⟨qwy m st g (x,y),rfl⟩
noncomputable abbrev rkB:L M.S:=[.ite (.call 10 [.var 6,.var 1]) [.expr (.meth (.var 3) .append [.tup [.var 5,.lit (sO "dip")]])] [.ite (.call 34 [.var 6,.var 2]) [.expr (.meth (.var 4) .append [.tup [.var 5,.lit (sO "ground")]])] []]]
noncomputable abbrev rkS(st:Y2)(a b:L (J×String)):Y2:=st++[.lst O (a.map hiD)]++[.lst O (b.map hiD)]
def ap1{c:Ya}:(st++[a]++[b]).set st.length c=st++[c]++[b]:=by
 rw[Qzz,Qzz];exact set0
noncomputable def rkA(ps:L (J×J))(gs:L Cl):L (J×String):=gs.filterMap λc=>if hasB c.g ps then Y (c.nm,"dip") else B
noncomputable def rkG(ps:L (J×J))(p:J×J)(gs:L Cl):L (J×String):=gs.filterMap λc=>if hasB c.g ps then B else if inB c.g p then Y (c.nm,"ground") else B
def qdf(H:gs.length<1000)(C:ps.length<lim)(x y z)(m)(st):callD fns (m+3) 36 [.lst (sgD gs),.lst ?i,.tup ?T] st=Y (Y1 (rkS st (rkA ps gs) (rkG ps (x,y) gs)).length,rkS st (rkA ps gs) (rkG ps (x,y) gs)++[Y4 O ((rkA ps gs).map hiD++(rkG ps (x,y) gs).map hiD)]):=by
 obtain⟨τ',st',h1,hk,u,v,a,b,rfl,rfl,h2,p,o⟩:=qa0 (c:=callD fns (m+2)) (i:=0) (t:=.tup [5,6]) (body:=rkB)
  (λk τ' st'=>k<=gs.length/\∃(u v:Y3 D) (a b:L (J×String)),τ'=[Y (.lst (sgD gs)),Y (.lst ?i),Y (.tup ?T),Y ?G,Y (Y1 (st++[Ya.lst O []]).length),u,v]/\st'=rkS st a b/\a.length+b.length<=k/\a=rkA ps (gs.take k)/\b=rkG ps (x,y) (gs.take k))
  rfl ⟨Qzl _,B,B,[],[],rfl,rfl,Qqv _,rfl,rfl⟩ (λk τ' st' _=>rfl) (λk τ' st' q j h=>by
   obtain⟨hk,u,v,a,b,rfl,rfl,h2,p,o⟩:=h;have d:=(Qqk.mp j).1;unfold sgD at j d;rw[Qqz]at d;rw[Qqw]at j;obtain⟨c,hc,rfl⟩:=Qqa.mp j;have tk:gs.take (k+1)=gs.take k++[c]:=by rw[Qj2,hc]; rfl
   have tA:rkA ps (gs.take (k+1))=a++rkA ps [c]:=by rw[tk,p]; exact Qjm
   have A:rkG ps (x,y) (gs.take (k+1))=b++rkG ps (x,y) [c]:=by rw[tk,o]; exact Qjm
   have w:rkA ps [c]=if hasB c.g ps then [(c.nm,"dip")] else []:=by unfold rkA; rw[Qqt]; split<;>simp_all
   have s:rkG ps (x,y) [c]=if hasB c.g ps then [] else if inB c.g (x,y) then [(c.nm,"ground")] else []:=by unfold rkG; rw[Qqt]; split<;>simp_all
   have f:=qlm m (st:=rkS st a b) (g:=c.g) (q:=.lst ?i) rfl C;have hv:=cov_ok m (rkS st a b) c.g x y z;have L2:(st++[Ya.lst O []]).length=(st++[Ya.lst O (a.map hiD)]).length:=by simp
   have n:(rkS st a b)[st.length]?=Y (Y4 O (a.map hiD)):=by unfold rkS; rw[Qzz]; exact get0 0
   have l:(rkS st a b)[(st++[Ya.lst O []]).length]?=Y (Y4 O (b.map hiD)):=by unfold rkS; rw[L2]; exact gl
   have G:decide ((a.map hiD).length<lim)=true:=Z3 (by rw[Qqz]; unfold lim; lia);have F:decide ((b.map hiD).length<lim)=true:=Z3 (by rw[Qqz]; unfold lim; lia)
   cases hb:hasB c.g ps with
   |true=>
    rw[hb]at f;refine⟨_,_,qze 0 [10,34] 2 (λq=>_/\_/\_/\_/\q) [.c (.bl O,rkS st a b),.r (Y4 O (a.map hiD)),.r (Y4 O (a.map hiD)),.b O] (r:=(.nx ?qh,(rkS st a b).set st.length (Y4 O (a.map hiD++[hiD (c.nm,"dip")])))) ⟨f,n,n,G,rfl⟩,d,_,_,a++[(c.nm,"dip")],b,rfl,by unfold rkS; rw[ap1,Qqm]; rfl,by rw[Qql]; simp only[Qxy]; lia,by rw[tA,w,hb]; rfl,by rw[A,s,hb]; exact(Qzx b).symm⟩
   |false=>
    rw[hb]at f
    cases e:inB c.g (x,y) with
    |true=>
     rw[e]at hv;refine⟨_,_,qze 0 [10,34] 2 (λq=>_/\_/\_/\_/\_/\q) [.c (.bl Y6,rkS st a b),.c (.bl O,rkS st a b),.r (Y4 O (b.map hiD)),.r (Y4 O (b.map hiD)),.b O] (r:=(.nx ?qh,(rkS st a b).set (st++[Ya.lst O []]).length (Y4 O (b.map hiD++[hiD (c.nm,"ground")])))) ⟨f,hv,l,l,F,rfl⟩,d,_,_,a,b++[(c.nm,"ground")],rfl,by unfold rkS; rw[L2,sl,Qqm]; rfl,by rw[Qql]; simp only[Qxy]; lia,by rw[tA,w,hb]; exact(Qzx a).symm,by rw[A,s,hb,e]; rfl⟩
    |false=>
     rw[e]at hv
     exact⟨_,_,qze 0 [10,34] 2 (λq=>_/\_/\q) [.c (.bl Y6,rkS st a b),.c (.bl Y6,rkS st a b)] (r:=(.nx ?qh,rkS st a b)) ⟨f,hv,rfl⟩,d,_,_,a,b,rfl,rfl,by lia,by rw[tA,w,hb]; exact(Qzx a).symm,by rw[A,s,hb,e]; exact(Qzx b).symm⟩)
 rw[show(sgD gs).length=gs.length by unfold sgD; rw[Qqz],Qzg]at p o;rw[<- p,<- o];have L2:(st++[Ya.lst O []]).length=(st++[Ya.lst O (a.map hiD)]).length:=by simp
 have n:(rkS st a b)[st.length]?=Y (Y4 O (a.map hiD)):=by unfold rkS; rw[Qzz]; exact get0 0
 have l:(rkS st a b)[(st++[Ya.lst O []]).length]?=Y (Y4 O (b.map hiD)):=by unfold rkS; rw[L2]; exact gl
 have d:(sgD gs).length=gs.length:=by unfold sgD; rw[Qqz]
 have E:decide (lim<(a.map hiD).length+(b.map hiD).length)=false:=Z4 (by simp only[Qqz]; unfold lim; lia);exact qzz 0 [] 3 (λq=>_/\_/\_/\_/\q) [.s (.nx [Y (.lst (sgD gs)),Y (.lst ?i),Y (.tup ?T),Y ?G,Y (Y1 (st++[Ya.lst O []]).length),u,v],rkS st a b),.r (Y4 O (a.map hiD)),.r (Y4 O (b.map hiD)),.b Y6] ⟨h1,n,l,E,rfl⟩
section
variable {p:Pl}{d:J}{jo:L (D×D)}{S:Y2}{vs:L (J×D×L (J×J))}
def out_ok(m)(A:FV p sz d ?R jo S)(a:(vs.map (·.1)).Nodup)(hv:v∈vs)(e:v.1=u.1)(g:0<=u.2)(f:u.2<(v.2.2.length:J)):callD fns (m+2) 32 [Y1 p.a,cD u] S=Y (cD (v.2.2[u.2.toNat]?.getD (0,0)),S):=by
 have hi:u.2.toNat<v.2.2.length:=by lia
 have c:=qk2 m A a hv;rw[e]at c;rw[Qqd hi];have b:idxD S (Y9 ?qk) (Z u.2)=Y (cD v.2.2[u.2.toNat]):=by
  show atI ?qk u.2=_;unfold atI ixN;rw[Z6 g,Z6 (by rw[Qqz]; exact f)];simp[Qqd hi]
 exact qzz 0 [51] 2 (λq=>_/\_/\_/\q) [.r (p.fc sz d),.n,.c (vD v,S),.n,.n,.i (cD v.2.2[u.2.toNat])] ⟨A.hf,c,b,rfl⟩
def qhm(b:(vs.map (·.1)).Nodup)(j:CoI vs a)(hl:a.length<lim):∃ps:L (J×J),ps.length=a.length/\∀(m:Y0) (p:Pl) (S:Y2) (sz:D),FV p sz d ?R jo S->callD fns (m+3) 33 [Y1 p.a,Yc (a.map cD)] S=Y (Y1 S.length,S++[Y4 O ?i]):=by
 obtain⟨f,hf⟩:=Classical.axiomOfChoice (r:=λ(u q:J×J)=>u∈a->∀(m:Y0) (p:Pl) (S:Y2) (sz:D),FV p sz d ?R jo S->callD fns (m+2) 32 [Y1 p.a,cD u] S=Y (cD q,S)) λu=>by
  by_cases h:u∈a
  ·obtain⟨v,hv,e,h1,h2⟩:=j u h;exact⟨_,λ_ m p S sz A=>out_ok m A b hv e h1 h2⟩
  ·exact⟨u,λz=>absurd z h⟩
 refine⟨a.map f,Qqz ..,λm p S sz A=>?_⟩;have h:=qyi (c:=callD fns (m+2)) (τ:=[Y (Y1 p.a),Y (Yc (a.map cD))]) (st:=S) (i:=1) (elt:=.call 32 [Yd 1,Yd 0]) (sr:=[B,Y 0]) a cD (λu=>cD (f u)) rfl rfl hl rfl λu g=>qzc 0 [32] 2 (λq=>_/\q) [.c (cD (f u),S)] ⟨hf u g m p S sz A,rfl⟩;have e:a.map (λp=>cD (f p))=(a.map f).map cD:=by rw[Qqp]; rfl
 rw[e]at h;exact qzz 0 [] 3 (λq=>_/\q) [.c (Y1 S.length,S++[Y4 O ((a.map f).map cD)])] ⟨h,rfl⟩
def qh9(f:(vs.map (·.1)).Pairwise (· < ·))(l:vs.length<60)(w:VsOk vs)(F:JoI vs jo)(r:ing W H P x y z=O):
  ∃ps:L (J×J),∀(cs:L Cl) (ro:L J),(cs.map (·.nm)).Nodup->(∀n∈ro,∃c∈cs,c.nm=n)->ro.length<1000->∀(m:Y0) (p:Pl) (S:Y2),FA p ?c d ?R jo cs ro S->∃q:D×Y2,callD fns (m+5) 37 [Y1 p.a,Y9 ?T] S=Y q/\gcD S q=(Yc ((rkA ps (stC cs ro d)++rkG ps (x,y) (stC cs ro d)).map hiD),S):=by
 have k:(vs.map (·.1)).Nodup:=f.imp λh=>by lia
 obtain⟨v,c3,c4,g⟩:=qpj (d:=d) f l w F r;obtain⟨ps,p1,p2⟩:=qhm (d:=d) (jo:=jo) k c3 (by unfold lim; lia);refine⟨ps,λcs ro nd o hl m p S A=>?_⟩;have C:=qk8 (cs:=cs) (ro:=ro) (d:=d);have r1:=qdf (ps:=ps) (gs:=stC cs ro d) (by lia) (by unfold lim; lia) x y z;obtain⟨ex,c1,c2⟩:=g m p S A.v;have p2:=p2 (m+1) p S _ A.v;have E:=sg_ok m A nd o hl;have r1:=r1 (m+1) S;generalize stC cs ro d=j at *;generalize rkA ps j=a at *;generalize rkG ps (x,y) j=b at *;have u:=qou (st:=S) c2 (qzy λ_ _=>rfl);have t:=qzv (st:=S) (ds:=ps.map cD) (qzy λ_ _=>rfl);have s:=qzv (st:=S) (nl_sg j);refine⟨(Y1 (rkS S a b).length,rkS S a b++[Y4 O (a.map hiD++b.map hiD)]),qzz 0 [30,33,35,36] 5 (λq=>_/\_/\_/\_/\_/\_/\_/\q) [.c (Y1 (S.length+1),S++ex),.l (v.map cD),.c (Y1 S.length,S++[Y4 O ?i]),.l ?i,.c (Y1 S.length,S++[Y4 O (sgD j)]),.l (sgD j),.c (Y1 (rkS S a b).length,rkS S a b++[Y4 O (a.map hiD++b.map hiD)])] ⟨c1,u,p2,t,E,s,r1,rfl⟩,?_⟩;have:=qou (st:=S) (ex:=[Y4 O (a.map hiD),Y4 O (b.map hiD),Y4 O ((a++b).map hiD)]) (i:=2) rfl (nl_h (a++b));rw[Qqm]at this ⊢;have e:(rkS S a b).length=S.length+2:=by simp
 rw[e];unfold rkS;rw[Qzz,Qzz];exact this
end
abbrev Rc:=J×J×J×J
def Tr.nms{T:J}(h:Tr T day zs ro f w a b):a.map (·.nm)=zs.map (·.nm)\/a.map (·.nm)=zs.map (·.nm)++[day]:=by
 cases h with
 |no=>exact .inl rfl
 |over=>exact .inl rfl
 |work=>exact .inl qqh
 |give=>exact .inl qqh
 |sell=>exact .inl qqh
 |nocut=>exact .inl rfl
 |part=>exact .inr (by rw[Qqm,qqh]; rfl)
def Tr.chi{T:J}(h:Tr T day zs ro f w e i)(hc:∀c∈zs,ChI T c)(j:∀c∈zs,c.ds≠[]):∀c∈e,ChI T c:=by
 cases h with
 |no=>exact hc
 |over=>exact hc
 |@work c d g=>
  refine qq9 hc ?_;have h:=hc c d;have:day<=thr T c.ds:=by rw[<- h.2]; have:¬ c.la<day:=λz=>g (.inr z); lia
  have:=qco (j c d) h.1 this;exact⟨this.1,this.2.symm⟩
 |@give c d g=>exact qq9 hc (hc c d)
 |@sell c o d g=>exact qq9 hc (hc c d)
 |nocut=>exact hc
 |@part c s l o a b _ d g hs h hr=>exact qvg (qq9 hc (hc c d)) (hc c d)
def vo_mem(h:(dget ?R (Z b)).isSome):b∈vs.map (·.1):=by
 obtain⟨x,a⟩:=Qz6.mp h;unfold dget at a;obtain⟨p,c,_⟩:=Qqa.mp a;have e:=Qxz c;obtain⟨v,hv,rfl⟩:=Qqj.mp (Qz0 c);have e:=e;cases beq_iff_eq.mp e;exact Qqj.mpr ⟨v,hv,rfl⟩
def JoI.put(g:JoI vs jo)(h:b<a)(hb:b∈vs.map (·.1)):JoI vs (dput jo (Z a) (Y9 [Z b,Z f])):=λp c=>by
 unfold dput at c
 split at c
 ·obtain⟨q,i,rfl⟩:=Qqj.mp c;obtain⟨d,b',j,rfl,h1,h2⟩:=g q i
  by_cases e:eqT (Z d) (Z a)=O
  ·rw[Z6 e];have e:=e;cases beq_iff_eq.mp e;exact⟨_,b,f,rfl,h,hb⟩
  ·rw[Z5 e];exact⟨d,b',j,rfl,h1,h2⟩
 ·rcases Qqr.mp c with c|c
  ·exact g p c
  ·cases Qqy.mp c;exact⟨a,b,f,rfl,h,hb⟩
def JoI.app(d:JoI vs jo)(v):JoI (vs++[v]) jo:=λp c=>by
 obtain⟨a,b,f,e,h1,h2⟩:=d p c;exact⟨a,b,f,e,h1,by rw[Qqm]; exact Qzb _ h2⟩
structure Pu (W H:J) (k:Y0) (T d:J) (vs:L (J×D×L (J×J))) (jo:L (D×D)) (cs:L Cl) (ro:L J):Prop where
 R:RowI d cs ro
 ch:∀c∈cs,ChI T c
 up:(cs.map (·.nm)).Pairwise (· < ·)
 cl:cs.length<=k
 rl:ro.length<=25*k
 dl:∀c∈cs,c.ds.length<=k
 vl:vs.length<=k
 vn:(vs.map (·.1)).Pairwise (· < ·)
 vd:∀v∈vs,v.1<=d
 V:VsOk vs
 VC:∀v∈vs,v.2.2≠[]/\∀p∈v.2.2,Cin W H p
 jl:jo.length<=k
 jv:JoI vs jo
def qw7{day:J}(h:l.Pairwise (· < ·))(hl:∀x∈l,x<=d)(hd:d<day):(l++[day]).Pairwise (· < ·):=by
 rw[Qx9];refine⟨h,Qjy _ _,λa c b hb=>?_⟩;cases Qqy.mp hb;have:=hl a c
 lia
section
variable {W H:J}{k:Y0}{T d day:J}{vs:L (J×D×L (J×J))}{jo:L (D×D)}{cs cs':L Cl}{ro ro':L J}
def Pu.nms(h:Pu W H k T d vs jo cs ro):∀x∈cs.map (·.nm),x<=d:=λx a=>by obtain⟨c,hc,rfl⟩:=Qqj.mp a; exact h.R.le c hc
def Pu.claim(h:Pu W H k T d vs jo cs ro)(hk:k<24)(hd:d<day)(n:∀c∈cs,c.ds≠[])(m:Op day cs ro cs' ro')(j:Tr T day (cs.map Cl.z) ro f w (cs'.map Cl.z) ro')(i:∀c∈cs',∃x,x.ds.length<=c.ds.length/\c.ds.length<=x.ds.length+1/\x∈cs):Pu W H (k+1) T day vs jo cs' ro':=by
 have on:=qaj m;have:=h.cl;have:=h.rl;have b:(cs'.map (·.nm)).Pairwise (· < ·):=by
  have e:∀l:L Cl,(l.map Cl.z).map (·.nm)=l.map (·.nm):=λl=>by rw[Qqp]; rfl
  have:=j.nms;rw[e,e]at this;rcases this with e|e<;>rw[e]
  ·exact h.up
  ·exact qw7 h.up h.nms hd
 refine⟨qd1 hd h.R m,λc hc=>?_,b,by lia,by lia,λc hc=>?_,by have:=h.vl; lia,h.vn,λv hv=>by have:=h.vd v hv; lia,h.V,h.VC,by have:=h.jl; lia,h.jv⟩
 ·exact j.chi (λx a=>by obtain⟨y,g,rfl⟩:=Qqj.mp a; exact h.ch y g) (λx a=>by obtain⟨y,g,rfl⟩:=Qqj.mp a; exact n y g) c.z (Qqj.mpr ⟨c,hc,rfl⟩)
 ·obtain⟨x,_,h2,a⟩:=i c hc;have:=h.dl x a
  lia
theorem Pu.vein(h:Pu W H k T d vs jo cs ro)(hk:k<24)(hd:d<day){b:L J}(hs:b.length<1000)(f:∀s∈b,0<=s/\s<=4)(j:ps.length<=16)(g:ps≠[])(hc:∀p∈ps,Cin W H p):Pu W H (k+1) T day (vs++[(day,Y9 (b.map Z),ps)]) jo (cs.map ?qq) (ro++(cs.filter (hit day ps)).map (·.nm)):=by
 have i:Op day cs ro (cs.map ?qq) (ro++(cs.filter (hit day ps)).map (·.nm)):=.vein ps;have on:=qaj i;have:=h.cl;have:=h.rl;have e:((cs.map ?qq).map (·.nm)).Pairwise (· < ·):=by
  rw[Qqp,show((λc:Cl=>c.nm)∘vst day ps)=λc=>c.nm from funext λc=>(qzr day ps c).1];exact h.up
 refine⟨qd1 hd h.R i,λc hc=>?_,e,by lia,by lia,λc hc=>?_,by have:=h.vl; simp; lia,?_,λv hv=>?_,λv hv=>?_,λv hv=>?_,by have:=h.jl; lia,h.jv.app _⟩
 ·obtain⟨x,a,rfl⟩:=Qqj.mp hc;have:=h.ch x a;unfold vst
  split<;>exact this
 ·obtain⟨x,a,rfl⟩:=Qqj.mp hc;rw[(qzr day ps x).2.2];have:=h.dl x a
  lia
 ·rw[Qqm];exact qw7 h.vn (λx a=>by obtain⟨v,hv,rfl⟩:=Qqj.mp a; exact h.vd v hv) hd
 ·rcases Qqr.mp hv with hv|hv
  ·have:=h.vd v hv; lia
  ·cases Qqy.mp hv; exact Int.le_refl _
 ·rcases Qqr.mp hv with hv|hv
  ·exact h.V v hv
  ·cases Qqy.mp hv; exact⟨⟨b,rfl,f,hs⟩,j⟩
 ·rcases Qqr.mp hv with hv|hv
  ·exact h.VC v hv
  ·cases Qqy.mp hv; exact⟨g,hc⟩
def Pu.join(h:Pu W H k T d vs jo cs ro)(hk:k<24)(hd:d<day)(hl:a.length<=jo.length+1)(hj:JoI vs a):Pu W H (k+1) T day vs a cs ro:=by
 have:=h.cl;have:=h.rl;exact⟨h.R.later (Int.le_of_lt hd),h.ch,h.up,by lia,by lia,λc hc=>by have:=h.dl c hc; lia,by have:=h.vl; lia,h.vn,λv hv=>by have:=h.vd v hv; lia,h.V,h.VC,by have:=h.jl; lia,hj⟩
def Pu.stake(h:Pu W H k T d vs jo cs ro)(hk:k<24)(hd:d<day)(i:Op day cs ro cs' ro')(j:cs'.map Cl.z=cs.map Cl.z++[vst day ps ⟨day,0,o,g,[day],day+T,B,B⟩])(f:∀c∈cs',c∈cs\/c.ds.length=1):Pu W H (k+1) T day vs jo cs' ro':=by
 have on:=qaj i;have:=h.cl;have:=h.rl;have b:(cs'.map (·.nm)).Pairwise (· < ·):=by
  have e:∀l:L Cl,(l.map Cl.z).map (·.nm)=l.map (·.nm):=λl=>by rw[Qqp]; rfl
  have:=congrArg (List.map (·.nm)) j;rw[Qqm,e,e]at this;rw[this,List.map_singleton,(qzr day ps _).1];exact qw7 h.up h.nms hd
 refine⟨qd1 hd h.R i,λc hc=>?_,b,by lia,by lia,λc hc=>?_,by have:=h.vl; lia,h.vn,λv hv=>by have:=h.vd v hv; lia,h.V,h.VC,by have:=h.jl; lia,h.jv⟩
 ·have:c.z∈cs.map Cl.z++[vst day ps ⟨day,0,o,g,[day],day+T,B,B⟩]:=by rw[<- j]; exact Qqj.mpr ⟨c,hc,rfl⟩
  rcases Qqr.mp this with z|z
  ·obtain⟨y,a,e⟩:=Qqj.mp z;have a:ChI T y.z:=h.ch y a;rw[e]at a;exact a
  ·have e:=Qqy.mp z;have:ChI T c.z:=by
    rw[e];have:ChI T ⟨day,0,o,g,[day],day+T,B,B⟩:=⟨rfl,(thr1 T day).symm⟩
    unfold vst
    split<;>exact this
   exact this
 ·rcases f c hc with z|z
  ·have:=h.dl c z; lia
  ·lia
end
section
theorem DF.noLoc(h:DF W H P f):M.noLoc f=true:=by
 cases h with
 |vein=>
  rename_i a ps _ _ _ _ _ _ _;show(O&&(M.noLoc (Y9 (a.map Z))&&(M.noLoc (Y9 ?i)&&O)))=O;rw[qyq,qv4,nlI]
  rfl
 |claim h _=>cases h<;>rfl
 |_=>rfl
end
def qm2:rowAt (st++[Y4 O pl]) ?G=Y pl:=by
 show listAt _ _=_;unfold listAt;rw[gl]
section
variable {ns:L J}(hn:ns.length<=63){W H P:J}(w1:1<=W)(w2:W<=24)(h1:1<=H)(h2:H<=24)(p0:0<=P)(p1:P<=12)
include hn w1 w2 h1 h2 p0 p1
theorem qnw(m)(st)(k)(k1:0<=k)(k2:k<1000)(T:0<=many)(S:many<=24):∃pl:L (J×D),callD fns (m+5) 79 [scr ns,Z k,szD W H P,Z many] st=Y (Y1 st.length,st++[Y4 O (pl.map pD)])/\(pl.length:J)=many/\(∀p∈pl,DF W H P p.2/\1<=p.1/\p.1<=360)/\(pl.map (·.1)).Pairwise (· < ·):=by
 obtain⟨a,z,X,V⟩:=dr hn (m+3) st k 0 (many:=4) (by decide) (by decide) (by decide);have n:∃h:J,idxD st (.lst [Z 1,Z 3,Z 8,Z 15]) (Z a)=Y (Z h)/\1<=h/\h<=15:=by
  have:a=0\/a=1\/a=2\/a=3:=by lia
  rcases this with rfl|rfl|rfl|rfl
  ·exact⟨1,rfl,by decide,by decide⟩
  ·exact⟨3,rfl,by decide,by decide⟩
  ·exact⟨8,rfl,by decide,by decide⟩
  ·exact⟨15,rfl,by decide,by decide⟩
 obtain⟨h,w,R,Q⟩:=n;have g:=qzv (st:=st) (ds:=[Z 1,Z 3,Z 8,Z 15]) rfl;obtain⟨τ',st',E,k',d,o,pl,rfl,rfl,r1,r2,l,u⟩:=qqw (st:=st++?I) (it:=.rng2 (.bin .Add (.var 1) (.lit (Z 1))) (.bin .Add (.bin .Add (.var 1) (.lit (Z 1))) (.var 3))) (t:=.var 7)
  (body:=[.set (.var 6) (.bin .Add (.bin .Add (.var 6) (.lit (Z 1))) (.call 66 [.var 0,.var 7,.lit (Z 25),.var 4])),.expr (.meth (.var 5) .append [.tup [.var 6,.call 78 [.var 0,.var 7,.var 2,.var 5]]])])
  (λi τ' st'=>i<=many.toNat/\∃(d:J) (o:Y3 D) (pl:L (J×D)),τ'=[Y (scr ns),Y (Z k),Y ?c,Y (Z many),Y (Z h),Y ?G,Y (Z d),o]/\st'=st++[Y4 O (pl.map pD)]/\pl.length=i/\(0<=d/\d<=15*i)/\(∀p∈pl,DF W H P p.2/\1<=p.1/\p.1<=d)/\(pl.map (·.1)).Pairwise (· < ·))
  (by
   have G:(RL (callD fns (m+4))).ev [Y (scr ns),Y (Z k),Y ?c,Y (Z many),Y (Z h),Y ?G,Y (Z 0),B] (st++?I) (.bin .Add (.var 1) (.lit (Z 1)))=Y (Z (k+1),st++?I):=qzc 0 [] 4 (λq=>q) [] rfl;have F:(RL (callD fns (m+4))).ev [Y (scr ns),Y (Z k),Y ?c,Y (Z many),Y (Z h),Y ?G,Y (Z 0),B] (st++?I) (.bin .Add (.bin .Add (.var 1) (.lit (Z 1))) (.var 3))=Y (Z (k+1+many),st++?I):=qzc 0 [] 4 (λq=>q) [] rfl;show((RL (callD fns (m+4))).ev _ _ _).bind _=_;rw[G];show((RL (callD fns (m+4))).ev _ _ _).bind _=_;rw[F];show(if (big (k+1)||big (k+1+many))=O then B else Y (Src.rng (k+1) (k+1+many - (k+1)).toNat,_))=_
   rw[Z5 (by unfold big; simp; lia),show k+1+many - (k+1)=many by lia])
  (by simp[Src.size]) (λi τ' st' _=>qx7 _ _ _) ⟨Qzl _,0,B,[],rfl,rfl,rfl,⟨by lia,by lia⟩,by simp,.nil⟩ (λi τ' st' x A e=>by
   obtain⟨_,d,o,pl,rfl,rfl,r1,r2,l,u⟩:=e;rw[Qqw]at A;obtain⟨U,j,rfl⟩:=Qqa.mp A;have y:i<many.toNat:=by
    have:=(Qqk.mp j).1;simpa using this
   rw[Qjz y]at j;cases j;obtain⟨v,hv,N,K⟩:=dr hn (m+3) (st++[Y4 O (pl.map pD)]) (k+1+(i:Y0)) 25 (many:=h) (by decide) (by decide) (by lia);obtain⟨f,hf,I⟩:=qo4 hn w1 w2 h1 h2 p0 p1 m (st++[Y4 O (pl.map pD)]) (k+1+(i:Y0)) (qm2 (pl:=pl.map pD)) (λp e=>by have:=l p e; exact⟨this.1,this.2.1,by lia⟩) (by lia);have C:=gl (st:=st) (c:=Y4 O (pl.map pD));have s:(pl.map pD).length<lim:=by rw[Qqz]; unfold lim; lia
   refine⟨_,_,qze 0 [66,78] 4 (λq=>_/\_/\_/\_/\_/\q) [.c (Z v,st++[Y4 O (pl.map pD)]),.r (Y4 O (pl.map pD)),.c (f,st++[Y4 O (pl.map pD)]),.r (Y4 O (pl.map pD)),.b O] (r:=(.nx [Y (scr ns),Y (Z k),Y ?c,Y (Z many),Y (Z h),Y ?G,Y (Z (d+1+v)),Y (Z (k+1+(i:Y0)))],(st++[Ya.lst O (pl.map pD)]).set st.length (Y4 O (pl.map pD++[pD (d+1+v,f)])))) ⟨hv,C,hf,C,Z3 s,rfl⟩,by lia,d+1+v,Y (Z (k+1+(i:Y0))),pl++[(d+1+v,f)],rfl,by rw[sl]; simp,by simp[r1],⟨by lia,by lia⟩,λp e=>?_,?_⟩
   ·rcases Qqr.mp e with e|e
    ·have:=l p e;exact⟨this.1,this.2.1,by lia⟩
    ·cases Qqy.mp e;exact⟨I,by simp only; lia,Int.le_refl _⟩
   ·rw[Qqm,Qx9];refine⟨u,by simp,λa z b hb=>?_⟩;obtain⟨p,e,rfl⟩:=Qqj.mp z;simp only[Qqg,Qx7,Qqy]at hb;have:=l p e
    lia)
 rw[Qqz,Qxp]at r1 r2;refine⟨pl,qzz 0 [66] 5 (λq=>_/\_/\_/\_/\q) [.l [Z 1,Z 3,Z 8,Z 15],.c (Z a,st),.i (Z h),.s (.nx [Y (scr ns),Y (Z k),Y ?c,Y (Z many),Y (Z h),Y ?G,Y (Z d),o],st++[Y4 O (pl.map pD)])] ⟨g,z,w,E,rfl⟩,by lia,λp e=>?_,u⟩;have:=l p e;exact⟨this.1,this.2.1,by lia⟩
end
abbrev P3:=J×J×J
noncomputable def spD(p:P3):D:=.tup [.int p.1,.int p.2.1,.int p.2.2]
def InG(W H P:J)(p:P3):Prop:=0<=p.1/\p.1<W/\0<=p.2.1/\p.2.1<H/\0<=p.2.2/\p.2.2<=P
section
variable {W H P:J}(w1:1<=W)(w2:W<=24)(h1:1<=H)(h2:H<=24)(p0:0<=P)(p1:P<=12)
include w1 w2 h1 h2 p0 p1
theorem qg3(m)(st):∃sp:L P3,callD fns (m+1) 70 [szD W H P] st=Y (Y1 st.length,st++[Y4 O (sp.map spD)])/\1<=sp.length/\sp.length<100000/\∀p∈sp,InG W H P p:=by
 have t:W*H<=24*24:=Int.mul_le_mul w2 h2 (by lia) (by lia);have s:0<W*H:=Int.mul_pos (by lia) (by lia);have r:W*H*(P+1)<=24*24*13:=Int.mul_le_mul t (by lia) (by lia) (by lia);have o:0<W*H*(P+1):=Int.mul_pos s (by lia);generalize k:W*H*(P+1)=N at r o;have c:src ?D [Y ?c,Y (Z H),Y (Z (P+1)),Y (Z N)] st (.rng1 (.var 3))=Y (.rng 0 N.toNat,st):=by
  show((?D).ev _ _ _).bind _=_;rw[qqg (callD fns m) _ st (.var 3) (Z N,st) rfl];show(if big N then B else Y (Src.rng 0 N.toNat,st))=_;rw[Z5 (by unfold big; simp; lia)]
 have hc:=qxf (elt:=.tup [.bin .FloorDiv (.bin .FloorDiv ?L (.var 1)) (.var 2),.bin .Mod (.bin .FloorDiv ?L (.var 1)) (.var 2),.bin .Mod ?L (.var 1)]) (sr:=[B,Y 2,Y 1]) (es:=((List.range N.toNat).map λ(i:Y0)=>(((i:J) / (P+1) / H,(i:J) / (P+1) % H,(i:J) % (P+1)):P3)).map spD) c (qx7 0 N.toNat) (by simp[Src.size]) rfl (by simp) (by simp; unfold lim; lia) λi d e hd f=>by
  rw[Qqw]at hd;rw[Qqp,Qqw]at f;obtain⟨x,h,rfl⟩:=Qqa.mp hd;rw[h]at f;cases f;rw[Int.zero_add];have q:0<P+1:=by lia
  have b:P+1<2 ^ 64:=by lia
  have g:0<H:=by lia
  have n:H<2 ^ 64:=by lia
  exact qzc 0 [] 0 (λq=>_/\_/\_/\_/\_/\q) [.c (Z ((x:J) / (P+1)),st),.c (Z ((x:J) / (P+1) / H),st),.c (Z ((x:J) / (P+1)),st),.c (Z ((x:J) / (P+1) % H),st),.c (Z ((x:J) % (P+1)),st)] ⟨bDi st x q b,bDi st ((x:J) / (P+1)) g n,bDi st x q b,bMo st ((x:J) / (P+1)) g,bMo st x q,rfl⟩
 have l:(([Y ?c,Y (Z H),Y (Z (P+1)),Y (Z (W*H*(P+1)))]:Sl),st)=([Y ?c,Y (Z H),Y (Z (P+1)),Y (Z N)],st):=by rw[k]
 refine⟨(List.range N.toNat).map λ(i:Y0)=>(((i:J) / (P+1) / H,(i:J) / (P+1) % H,(i:J) % (P+1)):P3),qzz 0 [] 1 (λq=>_/\_/\_/\_/\q) [.b O,.b O,.e ([Y ?c,Y (Z H),Y (Z (P+1)),Y (Z N)],st),.c (Y1 st.length,st++[Y4 O (((List.range N.toNat).map λ(i:Y0)=>(((i:J) / (P+1) / H,(i:J) / (P+1) % H,(i:J) % (P+1)):P3)).map spD)])] ⟨qz5 (a:=W) (b:=H) (by lia) (by lia),qz5 (a:=W*H) (b:=P+1) (by lia) (by lia),l,hc,rfl⟩,by simp; lia,by simp; lia,λp j=>?_⟩;obtain⟨i,hi,rfl⟩:=Qqj.mp j;have hi:=Qz8.mp hi;have b1:(i:J)<W*H*(P+1):=by lia
 have b2:(i:J) / (P+1)<W*H:=Int.ediv_lt_of_lt_mul (by lia) b1;have b3:(i:J) / (P+1) / H<W:=Int.ediv_lt_of_lt_mul (by lia) b2;have b4:0<=(i:J) / (P+1):=Int.ediv_nonneg (by lia) (by lia);have b5:=Int.emod_lt_of_pos (i:J) (show 0<P+1 by lia);exact⟨Int.ediv_nonneg b4 (by lia),b3,Int.emod_nonneg _ (by lia),Int.emod_lt_of_pos _ (by lia),Int.emod_nonneg _ (by lia),by show _ % _<=P; lia⟩
end
noncomputable abbrev Z0(W H P:J):Zt:=⟨szD W H P,[],[]⟩
def qon{T:J}(b:1<=W)(a:W<=24)(f:1<=H)(e:H<=24)(p0:0<=P)(p1:P<=12)(d:1<=T)(c:T<=400)(m):callD fns (m+3) 42 [Y1 0,Z W,Z H,Z P,Z T] [.obj 678 []]=Y (.non,FC (Z0 W H P) T 0 (voD []) [] [] [] []):=
 qzz 9 [] 3 (λq=>_/\_/\_/\_/\_/\_/\_/\_/\q) [.b O,.b O,.b O,.b O,.b O,.b O,.b O,.b O] ⟨Z3 b,Z3 a,Z3 f,Z3 e,Z3 p0,Z3 p1,Z3 d,Z3 c,rfl⟩
section
variable {W H T d day:J}{k:Y0}{vs:L (J×D×L (J×J))}{jo:L (D×D)}{cs:L Cl}{ro:L J}{rest:Y2}
theorem Pu.later(h:Pu W H k T d vs jo cs ro)(hd:d<=day):Pu W H k T day vs jo cs ro:=⟨h.R.later hd,h.ch,h.up,h.cl,h.rl,h.dl,h.vl,h.vn,λv hv=>Int.le_trans (h.vd v hv) hd,h.V,h.VC,h.jl,h.jv⟩
def qnn(m)(b:1<=day)(a:day<=400)(hd:d<=day):callD fns (m+3) 48 [Y1 0,Z day] ?k=Y (.non,FC sz T day fo jo cs ro rest):=
 qzz 8 [41] 3 (λq=>_/\_/\q) [.c (.non,FC sz T d fo jo cs ro rest),.b Y6] ⟨qwl m ?k day b a,Z4 (show ¬ day<d by lia),rfl⟩
end
noncomputable def insA(n day:J):L J->L J
 |[]=>[]
 |x::r=>if x=n then x::day::r else x::insA n day r
theorem qar{R:L J}:∀{A},n ∉ A->insA n day (A++n::R)=A++n::day::R
 |[],_=>Z6 rfl
 |a::A,h=>by
  show(if a=n then _ else a::insA n day (A++n::R))=_;rw[Z5 λe=>h (by rw[e]; exact .head _),qar λz=>h (.tail _ z)]
  rfl
open Classical in
noncomputable def trO(T day:J)(zs:L Cl)(ro:L J)(f:D):L Cl×L Int:=match f with
 |.tup (.str v::.int n::r)=>match zs.find? λc=>c.nm==n with
  |none=>(zs,ro)
  |some c=>if over day c then(zs,ro) else match r with
   |[]=>if MS.sq v "work" then(upd zs { c with ds:=c.ds++[day],la:=day+T },ro) else(upd zs { c with gv:=Y day },ro)
   |[.int o]=>(upd zs { c with o:=o },ro)
   |[.int s,.int l,.int o]=>match cutG c.g s l with
    |none=>(zs,ro)
    |some (a,b)=>(upd zs { c with g:=a }++[⟨day,0,o,b,c.ds,c.la,c.v,B⟩],match c.v with|none=>ro|some _=>insA c.nm day ro)
   |_=>(zs,ro)
 |_=>(zs,ro)
def qxo{cs:L Cl}(d:(cs.map (·.nm)).Nodup)(hc:c∈cs):cs.find? (λx=>x.nm==c.nm)=Y c:=by
 induction cs with
 |nil=>cases hc
 |cons a r f=>
  rw[Qqg,Qze]at d;rw[Qzq];rcases Qqb.mp hc with rfl|b
  ·simp
  ·have e:(a.nm==c.nm)=false:=by
    rw[beq_eq_false_iff_ne];exact λe=>d.1 (Qqj.mpr ⟨c,b,e.symm⟩)
   rw[e];exact f d.2 b
def Tr.fn{T:J}(nd:(zs.map (·.nm)).Nodup)(h:Tr T day zs ro f w i g):trO T day zs ro f=(i,g):=by
 cases h with
 |@no n w r h=>
  have:zs.find? (λc=>c.nm==n)=none:=Qx2.mpr λc hc=>by simpa using h c hc
  show(match zs.find? λc=>c.nm==n with|none=>_|some c=>_)=_;rw[this]
 |@over c w r hc d=>
  show(match zs.find? λx=>x.nm==c.nm with|none=>_|some c=>_)=_;rw[qxo nd hc];exact Z6 d
 |@work c hc d=>
  show(match zs.find? λx=>x.nm==c.nm with|none=>_|some c=>_)=_;rw[qxo nd hc];exact(Z5 d).trans rfl
 |@give c hc d=>
  show(match zs.find? λx=>x.nm==c.nm with|none=>_|some c=>_)=_;rw[qxo nd hc];exact(Z5 d).trans rfl
 |@sell c o hc d=>
  show(match zs.find? λx=>x.nm==c.nm with|none=>_|some c=>_)=_;rw[qxo nd hc];exact(Z5 d).trans rfl
 |@nocut c s l o hc d hs h=>
  show(match zs.find? λx=>x.nm==c.nm with|none=>_|some c=>_)=_;rw[qxo nd hc];refine(Z5 d).trans ?_;show(match cutG c.g s l with|none=>_|some (a,b)=>_)=_;rw[h]
 |@part c s l o a b _ hc d hs h hr=>
  show(match zs.find? λx=>x.nm==c.nm with|none=>_|some c=>_)=_;rw[qxo nd hc];refine(Z5 d).trans ?_;show(match cutG c.g s l with|none=>_|some (a,b)=>_)=_;rw[h];rcases hr with⟨e,rfl⟩|⟨x,A,R,e,rfl,hA,rfl⟩
  ·show(_,(match c.v with|none=>g|some _=>insA c.nm day g))=_;rw[e]
  ·show(_,(match c.v with|none=>_|some _=>insA c.nm day (A++c.nm::R)))=_;rw[e,qar hA]
open Classical in
noncomputable def jnO(fo jo:L (D×D))(a b f:J):L (D×D):=if (dget fo (.int a)).isSome/\(dget fo (.int b)).isSome/\b<a/\dget jo (.int a)=B then dput jo (.int a) (.tup [.int b,.int f]) else jo
def Jn.fn(h:Jn fo jo a b f w jo'):jnO fo jo a b f=jo':=by
 unfold jnO
 cases h with
 |nv1 h=>exact Z5 λz=>by have:=z.1; rw[h]at this; cases this
 |nv2 h h2=>exact Z5 λz=>by have:=z.2.1; rw[h2]at this; cases this
 |ord h h2 d=>exact Z5 λz=>by have:=z.2.2.1; lia
 |joi h h2 d c=>exact Z5 λz=>by have:=z.2.2.2; rw[c]at this; cases this
 |good h h2 d c=>exact Z6 ⟨by rw[h]; rfl,by rw[h2]; rfl,by lia,c⟩
abbrev Vs:=L (J×D×L (J×J))
abbrev Rc4:=J×J×J×J
inductive Kd where
 |vein (s:D) (ps:L (J×J))|join (a b f:J)|stake (o:J) (g:Rc4)|clm (f:D)
noncomputable def Kd.f:Kd->D
 |.vein s ps=>.tup [sO "vein",s,.tup ?i]
 |.join a b f=>.tup [sO "join",.int a,.int b,.int f]
 |.stake o g=>.tup [sO "stake",.int o,.int g.1,.int g.2.1,.int g.2.2.1,.int g.2.2.2]
 |.clm f=>f
noncomputable def KdX(W H P:J):Kd->Prop
 |.vein s ps=>∃ss:L J,s=.tup (ss.map .int)/\(ss.length:J)=P/\ss.length<=100/\(∀s∈ss,0<=s/\s<=4)/\1<=ps.length/\ps.length<=16/\∀p∈ps,Cin W H p
 |.clm f=>CF' f
 |_=>True
abbrev KdOk(W H P:J)(k:Kd):Prop:=DF W H P k.f/\KdX W H P k
def kd_of(h:DF W H P f):∃k:Kd,k.f=f/\KdOk W H P k:=by
 have h':=h
 cases h with
 |vein b a hs h1 h2 hn hc=>exact⟨.vein _ _,rfl,h',_,rfl,b,a,hs,h1,h2,hc⟩
 |join h1 h2 n m l j=>exact⟨.join _ _ _,rfl,h',trivial⟩
 |@stake o g h1 h2 i e d c y1 y2=>exact⟨.stake o g,rfl,h',trivial⟩
 |claim h hs=>exact⟨.clm _,rfl,h',h⟩
structure Ps where
 vs:Vs
 jo:L (D×D)
 zs:L Cl
 ro:L J
noncomputable abbrev nwC(T day o:J)(g:Rc4):Cl:=⟨day,0,o,g,[day],day+T,B,B⟩
noncomputable def sK(T day:J):Kd->Ps->Ps
 |.vein s ps,q=>⟨q.vs++[(day,s,ps)],q.jo,q.zs.map ?qq,q.ro++(q.zs.filter (hit day ps)).map (·.nm)⟩
 |.join a b f,q=>⟨q.vs,jnO (voD q.vs) q.jo a b f,q.zs,q.ro⟩
 |.stake o g,q=>⟨q.vs,q.jo,q.zs++[vst day (q.vs.flatMap (·.2.2)) (nwC T day o g)],q.ro++if hit day (q.vs.flatMap (·.2.2)) (nwC T day o g) then [day] else []⟩
 |.clm f,q=>⟨q.vs,q.jo,(trO T day q.zs q.ro f).1,(trO T day q.zs q.ro f).2⟩
noncomputable def hst(T:J)(pl:L (J×Kd))(q:Ps):Ps:=pl.foldl (λq p=>sK T p.1 p.2 q) q
section
noncomputable def kp(F:L J)(n:J):Bool:=!F.contains n
noncomputable def fil(F:L J)(q:Ps):Ps:=⟨q.vs,q.jo,q.zs.filter λc=>kp F c.nm,q.ro.filter (kp F)⟩
variable {F:L J}
def kp_t:kp F n=O↔n ∉ F:=by unfold kp; rw[Bool.not_eq_true',<- Bool.not_eq_true,Qxm]
def kp_f:kp F n=Y6↔n∈F:=by unfold kp; rw[Bool.not_eq_false',Qxm]
theorem qlg(a:n∈F)(hd:day∈F):∀ro:L J,(insA n day ro).filter (kp F)=ro.filter (kp F)
 |[]=>rfl
 |x::r=>by
  unfold insA
  split
  ·rename_i e;subst e;rw[Qq4 (by rw[kp_f.mpr a]; nofun),Qq4 (by rw[kp_f.mpr hd]; nofun),Qq4 (by rw[kp_f.mpr a]; nofun)]
  ·rw[Qqo,Qqo,qlg a hd r]
theorem qep(a:n ∉ F)(hd:day ∉ F):∀ro:L J,(insA n day ro).filter (kp F)=insA n day (ro.filter (kp F))
 |[]=>rfl
 |x::r=>by
  rw[insA]
  split
  ·rename_i e;subst e;rw[Qq5 (kp_t.mpr a),Qq5 (kp_t.mpr hd),Qq5 (kp_t.mpr a),insA,Z6 rfl]
  ·rename_i e;rw[Qqo,Qqo,qep a hd r]
   split
   ·rw[insA,Z5 e]
   ·rfl
def fnd_in(a:n∈F)(zs:L Cl):(zs.filter λc=>kp F c.nm).find? (λc=>c.nm==n)=none:=
 Qx2.mpr λc hc=>by
  have:=kp_t.mp (Qzn.mp hc).2;intro e;rw[eq_of_beq e]at this;exact this a
theorem qj8(a:n ∉ F):∀zs:L Cl,(zs.filter λc=>kp F c.nm).find? (λc=>c.nm==n)=zs.find? λc=>c.nm==n
 |[]=>rfl
 |c::r=>by
  rw[Qqo]
  split
  ·rw[Qzq,Qzq,qj8 a r]
  ·rename_i e;have:(c.nm==n)=false:=by
    rw[beq_eq_false_iff_ne];intro z;rw[z]at e;exact e (kp_t.mpr a)
   rw[Qzq,this,qj8 a r]
theorem qvi(a:c'.nm∈F):∀zs:L Cl,(upd zs c').filter (λc=>kp F c.nm)=zs.filter λc=>kp F c.nm
 |[]=>rfl
 |c::r=>by
  show((if c.nm=c'.nm then c' else c)::upd r c').filter _=_;rw[Qqo,Qqo,qvi a r]
  split
  ·rename_i e;rw[e,kp_f.mpr a]
   rfl
  ·rfl
theorem qjd(a:c'.nm ∉ F):∀zs:L Cl,(upd zs c').filter (λc=>kp F c.nm)=upd (zs.filter λc=>kp F c.nm) c'
 |[]=>rfl
 |c::r=>by
  show((if c.nm=c'.nm then c' else c)::upd r c').filter _=_;rw[Qqo,Qqo,qjd a r]
  by_cases e:c.nm=c'.nm
  ·rw[Z6 e,Z6 (kp_t.mpr a),e,Z6 (kp_t.mpr a)];show _=(if c.nm=c'.nm then c' else c)::_;rw[Z6 e]
   rfl
  ·rw[Z5 e]
   split
   ·show _=(if c.nm=c'.nm then c' else c)::_;rw[Z5 e]
    rfl
   ·rfl
theorem qlr:∀zs:L Cl,(zs.map ?qq).filter (λc=>kp F c.nm)=(zs.filter λc=>kp F c.nm).map ?qq
 |[]=>rfl
 |c::r=>by
  rw[Qqg,Qqo,Qqo,(qzr day ps c).1,qlr r]
  split<;>rfl
theorem qls:∀zs:L Cl,((zs.filter (hit day ps)).map (·.nm)).filter (kp F)=((zs.filter λc=>kp F c.nm).filter (hit day ps)).map (·.nm)
 |[]=>rfl
 |c::r=>by
  have a:=qls (day:=day) (ps:=ps) r
  cases h:hit day ps c with
  |true=>
   rw[Qq5 h,Qqg,Qqo,Qqo,a]
   split
   ·rw[Qq5 h]; rfl
   ·rfl
  |false=>
   rw[Qq4 (by rw[h]; nofun),a,Qqo (p:=λ(c:Cl)=>kp F c.nm)]
   split
   ·rw[Qq4 (by rw[h]; nofun)]
   ·rfl
noncomputable def ptN:Kd->Y3 J
 |.clm (.tup (.str _::.int n::[.int _,.int _,.int _]))=>Y n
 |_=>B
def fil_tr{T:J}(h:∀n,ptN (.clm f)=Y n->n<day->(day∈F↔n∈F))(zs)(e:∀c∈zs,c.nm<day)(ro):
  ((trO T day zs ro f).1.filter (λc=>kp F c.nm),(trO T day zs ro f).2.filter (kp F))=trO T day (zs.filter λc=>kp F c.nm) (ro.filter (kp F)) f:=by
 unfold trO
 split
 case h_2=>rfl
 rename_i v n r
 by_cases hn:n∈F
 ·rw[fnd_in hn]
  cases hf:zs.find? λc=>c.nm==n with
  |none=>rfl
  |some c=>
   have b:c.nm=n:=eq_of_beq (by simpa using Qxz hf);have a:n<day:=b▸e c (Qz0 hf);have hc:c.nm∈F:=b▸hn;dsimp only
   split
   ·rfl
   ·split
    ·split
     ·exact Prod.ext (qvi (by exact hc) zs) rfl
     ·exact Prod.ext (qvi (by exact hc) zs) rfl
    ·exact Prod.ext (qvi (by exact hc) zs) rfl
    ·have hd:=(h n rfl a).mpr hn
     split
     ·rfl
     ·rename_i d _ _;refine Prod.ext ?_ ?_
      ·dsimp only;rw[Qza,qvi (c':={ c with g:=d }) hc zs,Qq4 (by rw[kp_f.mpr hd]; nofun),Qx0,Qzx]
      ·dsimp only
       cases c.v with
       |none=>rfl
       |some _=>exact qlg hc hd ro
    ·rfl
 ·rw[qj8 hn]
  cases hf:zs.find? λc=>c.nm==n with
  |none=>rfl
  |some c=>
   have b:c.nm=n:=eq_of_beq (by simpa using Qxz hf);have a:n<day:=b▸e c (Qz0 hf);have hc:c.nm ∉ F:=b▸hn;dsimp only
   split
   ·rfl
   ·split
    ·split
     ·exact Prod.ext (qjd (by exact hc) zs) rfl
     ·exact Prod.ext (qjd (by exact hc) zs) rfl
    ·exact Prod.ext (qjd (by exact hc) zs) rfl
    ·have hd:day ∉ F:=λz=>hn ((h n rfl a).mp z)
     split
     ·rfl
     ·rename_i d _ _;refine Prod.ext ?_ ?_
      ·dsimp only;rw[Qza,qjd (c':={ c with g:=d }) hc zs,Qq5 (p:=λ(c:Cl)=>kp F c.nm) (kp_t.mpr hd)]
       rfl
      ·dsimp only
       cases c.v with
       |none=>rfl
       |some _=>exact qep hc hd ro
    ·rfl
def qo3{T:J}(h:∀n,ptN k=Y n->n<day->(day∈F↔n∈F))(hs:(∃o g,k=.stake o g)->day ∉ F)(q)(d:∀c∈q.zs,c.nm<day):fil F (sK T day k q)=sK T day k (fil F q):=by
 cases k with
 |vein s ps=>
  unfold fil sK;dsimp only;rw[qlr,Qza,qls]
 |join a b f=>rfl
 |stake o g=>
  have hd:=kp_t.mpr (hs ⟨o,g,rfl⟩);unfold fil sK;dsimp only;rw[Qza,Qza,Qq5 (by rw[(qzr _ _ _).1]; exact hd)]
  congr 2
  split
  ·rw[Qq5 hd]; rfl
  ·rfl
 |clm f=>
  have e:=fil_tr (T:=T) h q.zs d q.ro;unfold fil sK;dsimp only;rw[<- e]
def qb3{T:J}(hd:day∈F)(q):fil F (sK T day (.stake o g) q)=fil F q:=by
 have hd:=kp_f.mpr hd;unfold fil sK;dsimp only;rw[Qza,Qza,Qq4 (by rw[(qzr _ _ _).1,hd]; nofun)]
 congr 1
 ·rw[Qx0,Qzx]
 ·split
  ·rw[Qq4 (by rw[hd]; nofun),Qx0,Qzx]
  ·rw[Qx0,Qzx]
def sK_nm{T:J}:∀c∈(sK T day k q).zs,(∃x∈q.zs,x.nm=c.nm)\/c.nm=day:=λc hc=>by
 have un:∀d:Cl,∀c∈upd q.zs d,∃x∈q.zs,x.nm=c.nm:=λd c hc=>by
  have:c.nm∈(upd q.zs d).map (·.nm):=Qqj.mpr ⟨c,hc,rfl⟩;rw[qqh]at this;exact Qqj.mp this
 cases k with
 |vein s ps=>
  obtain⟨x,e,rfl⟩:=Qqj.mp hc;exact .inl ⟨x,e,(qzr day ps x).1.symm⟩
 |join a b f=>exact .inl ⟨c,hc,rfl⟩
 |stake o g=>
  rcases Qqr.mp hc with h|h
  ·exact .inl ⟨c,h,rfl⟩
  ·rw[Qqy.mp h]; exact .inr (qzr _ _ _).1
 |clm f=>
  have hc:c∈(trO T day q.zs q.ro f).1:=hc;unfold trO at hc;have self:=λh:c∈q.zs=>(Or.inl ⟨c,h,rfl⟩:(∃x∈q.zs,x.nm=c.nm)\/c.nm=day)
  split at hc
  case h_2=>exact self hc
  split at hc
  ·exact self hc
  ·split at hc
   ·exact self hc
   ·split at hc
    ·split at hc<;>exact .inl (un _ c hc)
    ·exact .inl (un _ c hc)
    ·split at hc
     ·exact self hc
     ·rcases Qqr.mp hc with h|h
      ·exact .inl (un _ c h)
      ·rw[Qqy.mp h]; exact .inr rfl
    ·exact self hc
theorem qe5{T:J}:∀(pl:L (J×Kd)) (q:Ps),(pl.map (·.1)).Pairwise (· < ·)->(∀c∈q.zs,∀p∈pl,c.nm<p.1)->(∀p∈pl,∀n,ptN p.2=Y n->n<p.1->(p.1∈F↔n∈F))->(∀p∈pl,p.1≠sd->(∃o g,p.2=.stake o g)->p.1 ∉ F)->(∀p∈pl,p.1=sd->p.1∈F/\∃o g,p.2=.stake o g)->
  fil F (hst T pl q)=hst T (pl.filter λp=>!(p.1==sd)) (fil F q)
 |[],_,_,_,_,_,_=>rfl
 |p::r,q,hd,d,h1,h2,f=>by
  rw[Qqg,Qxa]at hd
  have h:=qe5 (T:=T) r (sK T p.1 p.2 q) hd.2 (λc hc u b=>by
   have:=hd.1 u.1 (Qqj.mpr ⟨u,b,rfl⟩);rcases sK_nm c hc with⟨x,i,e⟩|e
   ·have:=d x i u (.tail _ b); lia
   ·lia) (λp a=>h1 p (.tail _ a)) (λp a=>h2 p (.tail _ a)) λp a=>f p (.tail _ a)
  show fil F (hst T r (sK T p.1 p.2 q))=_;rw[h]
  by_cases e:p.1=sd
  ·obtain⟨k,o,g,j⟩:=f p (.head _) e;rw[Qq4 (by rw[e]; simp),j,qb3 k]
  ·rw[Qq5 (by simp[e]),qo3 (h1 p (.head _)) (h2 p (.head _) e) q (λc hc=>d c hc p (.head _))]
   rfl
end
section
variable {W H P T d day:J}{k:Y0}{q:Ps}{cs:L Cl}{rest:Y2}
structure Fs (W H T d:J) (k:Y0) (q:Ps) (cs:L Cl) (rest:Y2):Prop where
 pu:Pu W H k T d q.vs q.jo cs q.ro
 z:cs.map Cl.z=q.zs
 I:Inv rest cs
noncomputable abbrev FQ(W H P T d:J)(q:Ps)(cs:L Cl)(rest:Y2):Y2:=FC (Z0 W H P) T d (voD q.vs) q.jo cs q.ro rest
def qo7(m)(h:Fs W H T d k q cs rest)(hk:k<24)(hf:KdOk W H P i)(x:1<=day)(u:day<=400)(hd:d<day):
  ∃w cs' rest',callD fns (m+7) 43 [Y1 0,Z day,i.f] (FQ W H P T d q cs rest)=Y (sO w,FQ W H P T day (sK T day i q) cs' rest')/\Fs W H T day (k+1) (sK T day i q) cs' rest':=by
 obtain⟨h,r,I⟩:=h;have:=h.cl;have:=h.rl;have:=h.vl;have:=h.jl;have hs:=hf.1.sound m (FQ W H P T d q cs rest);have ne:∀c∈cs,c.nm≠day:=λc hc=>by have:=h.R.le c hc; lia
 have nd:((cs.map Cl.z).map (·.nm)).Nodup:=by rw[Qqp]; exact h.up.imp Int.ne_of_lt
 cases i with
 |vein s ps=>
  obtain⟨Q,rfl,hP,S,C,t,F,hc⟩:=hf.2;obtain⟨e,n⟩:=qil (T:=T) (d:=day) (jo:=q.jo) (ro:=q.ro) m I (Y9 (Q.map Z)) ps q.vs (λv hv=>by have:=h.vd v hv; lia) (by lia) (by lia) (by lia);have K:=vsts_z day ps cs;rw[r]at K;have y:=qja m x u hd hs (e (Z0 W H P));have p:=h.vein hk hd (by lia) C F (λz=>by rw[z]at t; cases t) hc;rw[K.2]at y p;exact⟨"good",_,_,y,p,K.1,n⟩
 |join a b f=>
  obtain⟨w,R,e,E,l,D⟩:=qim (T:=T) (d:=day) (fo:=voD q.vs) (jo:=q.jo) (cs:=cs) (ro:=q.ro) (rest:=rest) (m+4) a b f (by lia);have X:=E.fn;subst X;refine⟨w,cs,rest,qja m x u hd hs (e (Z0 W H P)),h.join hk hd l ?_,r,I⟩;show JoI q.vs (jnO (voD q.vs) q.jo a b f);rcases D with z|⟨t,F,z⟩
  ·rw[z]; exact h.jv
  ·rw[z]; exact h.jv.put t (vo_mem F)
 |stake o g=>
  obtain⟨cs',ro',rest',e,n,A,ds,j,rfl⟩:=qgj (T:=T) (d:=day) (jo:=q.jo) (ro:=q.ro) m I o g q.vs (h.vn.imp Int.ne_of_lt) (by lia) (λv hv=>(h.V v hv).2) (by lia) ne;exact⟨"good",cs',rest',qja m x u hd hs (e (Z0 W H P)),h.stake hk hd A j ds,by rw[j,r]; rfl,n⟩
 |clm f=>
  have hc:CF' f:=hf.2;obtain⟨w,cs',ro',rest',e,n,A,ds,N⟩:=qfi (T:=T) (d:=day) (fo:=voD q.vs) (jo:=q.jo) (m+1) I d day hd (by lia) (λc hc=>by have:=h.dl c hc; lia) h.R h.ch hc;have G:=N.fn nd;rw[r]at G;have y:=qja m x u hd hs (qgv (m+1) hc (e (Z0 W H P)));have p:=h.claim hk hd (λc hc=>(I.ne c hc).1) A N ds;have V:(sK T day (.clm f) q).ro=ro':=congrArg Prod.snd G;have U:(sK T day (.clm f) q).zs=cs'.map Cl.z:=congrArg Prod.fst G;subst V;exact⟨w,cs',rest',y,p,U.symm,n⟩
end
mutual
theorem mp_nl:∀d:D,noLoc d=O->mp f d=d
 |Y1 l,h=>by cases h
 |Y9 ds,h=>congrArg D.tup (qv5 ds h)
 |Yc ds,h=>congrArg D.lst (qv5 ds h)
 |.non,_=>rfl
 |.bl _,_=>rfl
 |Z _,_=>rfl
 |.str _,_=>rfl
theorem qv5:∀ds:L D,noLocs ds=O->mps f ds=ds
 |[],_=>rfl
 |d::r,h=>by
  have h:(noLoc d&&noLocs r)=true:=h;rw[Qq2]at h;rw[mps,mp_nl d h.1,qv5 r h.2]
end
def qq8{pre S:Y2}(c:pre.length=N)(hf:fns[f]?=Y F)(a:F.iso=O)(b:noLocs es=O)(h:callD fns (m+1) f (Y1 0::es) S=Y (d,S')):
  callD fns (m+1) f (Y1 N::es) (pre++up N S)=Y (mp (· + N) d,pre++up N S'):=by
 have h:stepCall fns ?D f (Y1 0::es) S=Y (d,S'):=h;show stepCall fns ?D f (Y1 N::es) (pre++up N S)=_;unfold stepCall at h ⊢;rw[hf]at h ⊢;dsimp only at h ⊢;rw[Z6 a]at h ⊢;have:=qod (g:=callB F ?D) c h;rw[show mps (· + N) (D.loc 0::es)=Y1 (0+N)::mps (· + N) es from rfl,Qzp,qv5 es b]at this;exact this
abbrev Pk:=L (J×Kd)
noncomputable abbrev pK(p:J×Kd):D:=.tup [.int p.1,p.2.f]
noncomputable abbrev tK(p:J×Kd):D:=.tup [sO "tell",.int p.1,p.2.f]
noncomputable abbrev kvD(ts:Pk):L (D×D):=ts.map λp=>(.int p.1,p.2.f)
noncomputable abbrev DS(sz:D)(T:J)(kv:L (D×D))(dn:L D)(b:Y0)(X:Y2):Y2:=
 .obj 807 [("extent",sz),("year",.int T),("kept",.loc 1),("done",.loc 2),("back",.loc b)]::.dic O kv::.lst O dn::X
section
variable {W H P T day:J}{kv:L (D×D)}{dn:L D}{b:Y0}{X:Y2}{sz:D}
def qa7(c:1<=W)(a:W<=24)(g:1<=H)(f:H<=24)(p0:0<=P)(p1:P<=12)(e:1<=T)(d:T<=400)(m):callD fns (m+3) 55 [Y1 0,Z W,Z H,Z P,Z T] [.obj 807 []]=Y (.non,DS ?c T [] [] 3 ?I):=
 qzz 9 [] 3 (λq=>_/\_/\_/\_/\_/\_/\_/\_/\q) [.b O,.b O,.b O,.b O,.b O,.b O,.b O,.b O] ⟨Z3 c,Z3 a,Z3 g,Z3 f,Z3 p0,Z3 p1,Z3 e,Z3 d,rfl⟩
def qdo(m)(f)(hk:kv.length<lim)(hd:dn.length<lim):callD fns (m+2) 58 [Y1 0,Y9 [sO "tell",Z day,f]] (DS sz T kv dn b X)=Y (.non,DS sz T (dput kv (Z day) f) (dn++[Y9 [sO "tell",Z day,f]]) b X):=
 qzz 3 [] 2 (λq=>_/\_/\q) [.b O,.b O] ⟨Z3 hk,Z3 hd,rfl⟩
def qmb(m)(d:1<=day)(c:day<=400)(hs:callD fns (m+6) 8 [sz,f] (DS sz T kv dn b X)=Y (.bl O,DS sz T kv dn b X))(a:dget kv (Z day)=B)(hk:kv.length<lim)(hd:dn.length<lim):
  callD fns (m+7) 56 [Y1 0,Z day,f] (DS sz T kv dn b X)=Y (.non,DS sz T (dput kv (Z day) f) (dn++[Y9 [sO "tell",Z day,f]]) ?e (X++?I)):=
 qzz 3 [41,8,58] 7 (λq=>_/\_/\_/\_/\q) [.c (.non,DS sz T kv dn b X),.c (.bl O,DS sz T kv dn b X),.q B,.c (.non,DS sz T (dput kv (Z day) f) (dn++[Y9 [sO "tell",Z day,f]]) b X)] ⟨qwl (m+4) (DS sz T kv dn b X) day d c,hs,a,qdo (sz:=sz) (T:=T) (day:=day) (b:=b) (X:=X) (m+4) f hk hd,rfl⟩
def qc1(m)(d:1<=day)(c:day<=400)(a:dget kv (Z day)=Y f)(hd:dn.length<lim):
  callD fns (m+4) 57 [Y1 0,Z day] (DS sz T kv dn b X)=Y (.non,DS sz T (ddrop kv (Z day)) (dn++[Y9 [sO "strike",Z day,f]]) ?e (X++?I)):=
 qzz 3 [41] 4 (λq=>_/\_/\_/\_/\_/\q) [.c (.non,DS sz T kv dn b X),.q (Y f),.q (Y f),.q (Y f),.b O] ⟨qwl m (DS sz T kv dn b X) day d c,a,a,a,Z3 hd,rfl⟩
end
def qdq(h:l.Perm ns)(c:ns.Pairwise (· < ·)):sortInt l=ns:=
 List.Perm.eq_of_pairwise (le:=(· <= ·)) (λa b _ _ h1 h2=>Int.le_antisymm h1 h2) (MS.sortInt_sorted l) (c.imp Int.le_of_lt) ((MS.sortInt_perm l).trans h)
theorem asI:∀l:L J,asInts (l.map Z)=Y l
 |[]=>rfl
 |x::l=>by show(asInts (l.map Z)).map (x::·)=_; rw[asI l]; rfl
def qdz{ks:L J}(h:st[l]?=Y (.dic O kvs))(hk:keysOf kvs=ks.map Z)(a:ks.Perm ns)(b:ns.Pairwise (· < ·))(hl:ns.length<64):bfun st .sorted [Y1 l]=Y (Y1 st.length,st++[Y4 O (ns.map Z)]):=by
 have d:seqAt st (Y1 l)=none:=by show listAt st l=_; unfold listAt; rw[h]
 have c:dkeys st (Y1 l)=Y (ks.map Z):=by
  show(dicAt st l).map keysOf=_;unfold dicAt;rw[h];exact congrArg Y hk
 show((seqAt st (Y1 l)).or (dkeys st (Y1 l))).bind _=_;rw[d,c];show Option.map _ (if 64<=(ks.map D.int).length then B else asInts (ks.map Z))=_;rw[Z5 (by rw[Qqz,a.length_eq]; lia),asI];show Y (alloc st (Y4 O ((sortInt ks).map Z)))=_;rw[qdq a b]
 rfl
structure Kp (ts pl:Pk):Prop where
 perm:ts.Perm pl
 up:(pl.map (·.1)).Pairwise (· < ·)
 len:pl.length<=24
 day:∀p∈pl,1<=p.1/\p.1<=400
def qow(ts):keysOf ?y=(ts.map (·.1)).map Z:=by unfold keysOf; rw[Qqp,Qqp]; rfl
theorem qlb:∀{ts}{p},(ts.map (·.1)).Nodup->p∈ts->dget ?y (Z p.1)=Y p.2.f
 |a::r,p,nd,h=>by
  rw[Qqg,Qze]at nd
  have c:dget (kvD (a::r)) (Z p.1)=bif a.1==p.1 then Y a.2.f else dget (kvD r) (Z p.1):=by
   unfold dget;show Option.map _ (List.find? _ ((D.int a.1,a.2.f)::kvD r))=_;rw[Qzq,eqI];cases a.1==p.1<;>rfl
  rw[c];rcases Qqb.mp h with rfl|h'
  ·rw[beq_self_eq_true]; rfl
  ·have:(a.1==p.1)=false:=beq_eq_false_iff_ne.mpr λe=>nd.1 (Qqj.mpr ⟨p,h',e.symm⟩);rw[this];exact qlb nd.2 h'
section
variable {ts pl:Pk}(K:Kp ts pl)
include K
theorem Kp.nd:(ts.map (·.1)).Nodup:=(K.perm.map _).nodup_iff.mpr (K.up.imp Int.ne_of_lt)
theorem Kp.get(h:p∈pl):dget ?y (Z p.1)=Y p.2.f:=qlb K.nd (K.perm.mem_iff.mpr h)
theorem nl_pK(b:∀p∈pl,noLoc p.2.f=O):noLocs ?B=true:=qzy λp a=>by
 show(O&&(noLoc p.2.f&&O))=O;rw[b p a]
 rfl
variable {T:J}{dn:L D}{b:Y0}{X:Y2}{sz:D}
theorem qik(m):callD fns (m+1) 61 [Y1 0] (DS sz T ?y dn b X)=Y (Y1 ?e,DS sz T ?y dn b (X++[Y4 O ?B])):=by
 have hl:=K.len;have a:=qdz (st:=DS sz T ?y dn b X) (l:=1) rfl (qow ts) (K.perm.map _) K.up (by rw[Qqz]; lia);have c:(?D).ev [Y (Y1 0)] (DS sz T ?y dn b X) (.gc (.bcall .sorted [.attr 807 ?L "kept"]))=Y (.lst ((pl.map (·.1)).map Z),DS sz T ?y dn b X):=
  qzc 3 [] 0 (λq=>_/\_/\q) [.c (Y1 (DS sz T ?y dn b X).length,DS sz T ?y dn b X++[Y4 O ((pl.map (·.1)).map Z)]),.l ((pl.map (·.1)).map Z)] ⟨a,qzv (st:=DS sz T ?y dn b X) (nlI (pl.map (·.1))),rfl⟩
 have h:=qxf (it:=.gc (.bcall .sorted [.attr 807 ?L "kept"])) (elt:=.tup [.var 0,.didx (.attr 807 (.var 1) "kept") ?L]) (sr:=[B,Y 0]) (es:=pl.map pK) (s:=.lst (.lst ((pl.map (·.1)).map Z)))
  (by show((?D).ev _ _ _).bind _=_; rw[c]; rfl) (qqq rfl) (qzn rfl) rfl (by simp) (by simp; unfold lim; lia) λi d e hd f=>by
   rw[Qqp,Qqw]at hd;rw[Qqw]at f;obtain⟨p,g,rfl⟩:=Qqa.mp hd;rw[g]at f;cases f;exact qzc 3 [] 0 (λq=>_/\q) [.q (Y p.2.f)] ⟨K.get (Qqi g),rfl⟩
 exact qzz 3 [] 1 (λq=>_/\q) [.c (Y1 (DS sz T ?y dn b X).length,DS sz T ?y dn b X++[Y4 O ?B])] ⟨h,rfl⟩
end
def qxi{pre S:Y2}(a:pre.length=N)(h:S[i]?=Y c):(pre++up N S)[i+N]?=Y (mpC (· + N) c):=by
 rw[Qzw (by lia),a,Qj4,Qqw,h]
 rfl
noncomputable abbrev q0:Ps:=⟨[],[],[],[]⟩
def pu0{T:J}:Fs W H T 0 0 q0 [] [] where
 pu:=⟨⟨Qqu _,Qqu _,Qqu _⟩,Qqu _,.nil,Qqv _,Qzl _,Qqu _,Qqv _,.nil,Qqu _,Qqu _,Qqu _,Qqv _,Qqu _⟩
 z:=rfl
 I:=⟨Qqu _,.nil,Qqu _,.nil⟩
noncomputable abbrev fcU(N:Y0)(W H P T d:J):Ya:=mpC (· + N) (.obj 678 [("extent",szD W H P),("year",.int T),("day",.int d),("found",.loc 1),("joints",.loc 2),("staked",.loc 3),("dug",.loc 6),("debts",.loc 7)])
section
variable {ts pl:Pk}(K:Kp ts pl){W H P T D:J}{dn:L M.D}{b:Y0}{X:Y2}(hX:∀p∈pl,KdOk W H P p.2)
noncomputable abbrev enD(W H P T:J)(ts:Pk)(dn:L M.D)(b:Y0)(X:Y2)(F:Y2):Y2:=DS ?c T ?y dn b (X++up ?e F)
include K hX
theorem qb5(Q:1<=W)(N:W<=24)(h1:1<=H)(V:H<=24)(p0:0<=P)(p1:P<=12)(U:1<=T)(R:T<=400)(m):
  ∃d k cs rest,callD fns (m+8) 63 [Y1 0,Z D] (DS ?c T ?y dn b X)=Y (Y1 ?e,enD W H P T ts dn b X (FQ W H P T d (hst T (pl.filter λp=>decide (p.1<=D)) q0) cs rest))/\Fs W H T d k (hst T (pl.filter λp=>decide (p.1<=D)) q0) cs rest/\d<=max D 0/\k<=24:=by
 have hl:=K.len;have n:(DS ?c T ?y dn b X).length=X.length+3:=rfl;have e0:=qq8 (f:=42) n rfl rfl (es:=[Z W,Z H,Z P,Z T]) rfl (qon Q N h1 V p0 p1 U R (m+4));have hn:noLocs ?B=true:=nl_pK K λp A=>DF.noLoc (hX p A).1;obtain⟨τ',st',hf,d,k,cs,rest,a,b',rfl,rfl,F,hk,hd,hr⟩:=qqw (c:=callD fns (m+7)) (τ:=[Y (Y1 0),Y (Z D),Y (Y1 ?e),B,B]) (st:=enD W H P T ts dn b X (FQ W H P T 0 q0 [] [])) (it:=.gc (.mcall 807 61 "facts" ?L [])) (s:=.lst (.lst ?B)) (ds:=pl.map pK) (t:=.tup [3,4])
  (body:=[.ite (.cmp .LtE (.var 3) (.var 1)) [.expr (.mcall 678 43 "enter" (.var 2) [.var 3,.var 4])] []])
  (λi τ' st'=>∃(d:J) (k:Y0) (cs:L Cl) (rest:Y2) (a b':Y3 M.D),τ'=[Y (Y1 0),Y (Z D),Y (Y1 ?e),a,b']/\st'=enD W H P T ts dn b X (FQ W H P T d (hst T ((pl.take i).filter λp=>decide (p.1<=D)) q0) cs rest)/\Fs W H T d k (hst T ((pl.take i).filter λp=>decide (p.1<=D)) q0) cs rest/\k<=i/\d<=max D 0/\∀p∈pl.drop i,d<p.1)
  (by
   have e:=qik (T:=T) (sz:=szD W H P) (dn:=dn) (b:=b) (X:=X++up ?e (FQ W H P T 0 q0 [] [])) K (m+6);have g:=qzv (st:=enD W H P T ts dn b X (FQ W H P T 0 q0 [] [])) hn;have E:(RL (callD fns (m+7))).ev [Y (Y1 0),Y (Z D),Y (Y1 ?e),B,B] (enD W H P T ts dn b X (FQ W H P T 0 q0 [] [])) (.gc (.mcall 807 61 "facts" ?L []))=Y (.lst ?B,enD W H P T ts dn b X (FQ W H P T 0 q0 [] [])):=
    qzc 3 [61] 7 (λq=>_/\_/\q) [.c (Y1 (enD W H P T ts dn b X (FQ W H P T 0 q0 [] [])).length,enD W H P T ts dn b X (FQ W H P T 0 q0 [] [])++[Y4 O ?B]),.l ?B] ⟨e,g,rfl⟩
   show((RL (callD fns (m+7))).ev _ _ _).bind _=_;rw[E]
   rfl)
  (qzn rfl) (λk τ' st' _=>qqq rfl k) ⟨0,0,[],[],B,B,rfl,rfl,pu0,Qqv _,by lia,λp A=>by have:=(K.day p (List.mem_of_mem_drop A)).1; lia⟩ (λi τ' st' x I A=>by
   obtain⟨d,k,cs,rest,a,b',rfl,rfl,F,hk,hd,hr⟩:=A;rw[Qqw]at I;obtain⟨p,hi,rfl⟩:=Qqa.mp I;obtain⟨r,v⟩:=Qqk.mp hi;have o:=Qqi hi;have dr:pl.drop i=p::pl.drop (i+1):=by rw[Qjx r,v]
   have tk:pl.take (i+1)=pl.take i++[p]:=by rw[Qzy r,v]
   rw[dr]at hr;have G:=hr p (.head _);have l:∀u∈pl.drop (i+1),p.1<u.1:=λu C=>by
    obtain⟨j,hj,rfl⟩:=Qzr C;rw[List.getElem_drop];have hj:=Qxg▸hj;have:=Qxb.mp K.up i (i+1+j) (by simpa using r) (by rw[Qqz]; lia) (by lia);rw[Qxr,Qxr,v]at this;exact this
   by_cases hc:p.1<=D
   ·obtain⟨w,cs',h,e,F'⟩:=qo7 m F (by lia) (hX p o) (K.day p o).1 (K.day p o).2 G;have e:=qq8 (f:=43) (m:=m+6) (pre:=DS ?c T ?y dn b X) (es:=[Z p.1,p.2.f]) n rfl rfl (by show(O&&(noLoc p.2.f&&O))=O; rw[DF.noLoc (hX p o).1]; rfl) e;have z:hst T ((pl.take (i+1)).filter λp=>decide (p.1<=D)) q0=sK T p.1 p.2 (hst T ((pl.take i).filter λp=>decide (p.1<=D)) q0):=by
     rw[tk,Qza,Qq5 (p:=λ(p:J×Kd)=>decide (p.1<=D)) (Z3 hc)];unfold hst;rw[Qx6]
     rfl
    refine⟨[Y (Y1 0),Y (Z D),Y (Y1 ?e),Y (Z p.1),Y p.2.f],enD W H P T ts dn b X (FQ W H P T p.1 (sK T p.1 p.2 (hst T ((pl.take i).filter λp=>decide (p.1<=D)) q0)) cs' h),?_,p.1,k+1,cs',h,_,_,rfl,by rw[z],by rw[z]; exact F',by lia,by lia,l⟩;have y:(enD W H P T ts dn b X (FQ W H P T d (hst T ((pl.take i).filter λp=>decide (p.1<=D)) q0) cs rest))[X.length+3]?=Y (fcU ?e W H P T d):=by
     have:=qxi (i:=0) (S:=FQ W H P T d (hst T ((pl.take i).filter λp=>decide (p.1<=D)) q0) cs rest) n rfl;rw[Qzp]at this;exact this
    generalize hst T ((pl.take i).filter λp=>decide (p.1<=D)) q0=q at *;exact qze 3 [43] 7 (λq=>_/\_/\_/\q) [.b O,.r (fcU ?e W H P T d),.c (sO w,enD W H P T ts dn b X (FQ W H P T p.1 (sK T p.1 p.2 q) cs' h))] ⟨Z3 hc,y,e,rfl⟩
   ·have z:hst T ((pl.take (i+1)).filter λp=>decide (p.1<=D)) q0=hst T ((pl.take i).filter λp=>decide (p.1<=D)) q0:=by
     rw[tk,Qza,Qq4 (p:=λ(p:J×Kd)=>decide (p.1<=D)) (by rw[Z4 hc]; nofun),Qx0,Qzx]
    refine⟨[Y (Y1 0),Y (Z D),Y (Y1 ?e),Y (Z p.1),Y p.2.f],_,?_,d,k,cs,rest,_,_,rfl,by rw[z],by rw[z]; exact F,by lia,by lia,λu C=>by have:=l u C; lia⟩
    exact qze 3 [43] 7 (λq=>_/\q) [.b Y6] ⟨Z4 hc,rfl⟩)
 rw[Qqz,Qzg]at hf F;refine⟨d,k,cs,rest,?_,F,hd,by rw[Qqz]at hk; lia⟩;generalize hst T (pl.filter λp=>decide (p.1<=D)) q0=q at *;exact qzz 3 [42] 8 (λq=>_/\_/\q) [.c (.non,enD W H P T ts dn b X (FQ W H P T 0 q0 [] [])),.s (.nx [Y (Y1 0),Y (Z D),Y (Y1 ?e),a,b'],enD W H P T ts dn b X (FQ W H P T d q cs rest))] ⟨e0,hf,rfl⟩
theorem qa1(j:1<=W)(h:W<=24)(r:1<=H)(o:H<=24)(p0:0<=P)(p1:P<=12)(n:1<=T)(l:T<=400)(g:1<=D)(c:D<=400)(m):
  ∃k cs rest,callD fns (m+9) 62 [Y1 0,Z D] (DS ?c T ?y dn b X)=Y (Y1 ?e,enD W H P T ts dn b X (FQ W H P T D (hst T (pl.filter λp=>decide (p.1<=D)) q0) cs rest))/\Fs W H T D k (hst T (pl.filter λp=>decide (p.1<=D)) q0) cs rest/\k<=24:=by
 obtain⟨d,k,cs,rest,e,F,hd,hk⟩:=qb5 (D:=D) (dn:=dn) (b:=b) (X:=X) K hX j h r o p0 p1 n l m;have hd:d<=D:=by lia
 refine⟨k,cs,rest,?_,⟨F.pu.later hd,F.z,F.I⟩,hk⟩;have t:=qnn (m+5) (sz:=Z0 W H P) (T:=T) (fo:=voD (hst T (pl.filter λp=>decide (p.1<=D)) q0).vs) (jo:=(hst T (pl.filter λp=>decide (p.1<=D)) q0).jo) (cs:=cs) (ro:=(hst T (pl.filter λp=>decide (p.1<=D)) q0).ro) (rest:=rest) g c hd;have s:=qq8 (f:=48) (m:=m+7) (pre:=DS ?c T ?y dn b X) (N:=X.length+3) (es:=[Z D]) rfl rfl rfl rfl t;have a:(enD W H P T ts dn b X (FQ W H P T d (hst T (pl.filter λp=>decide (p.1<=D)) q0) cs rest))[X.length+3]?=Y (fcU ?e W H P T d):=by
  have:=qxi (pre:=DS ?c T ?y dn b X) (N:=X.length+3) (i:=0) (S:=FQ W H P T d (hst T (pl.filter λp=>decide (p.1<=D)) q0) cs rest) rfl rfl;rw[Qzp]at this;exact this
 generalize hst T (pl.filter λp=>decide (p.1<=D)) q0=q at *;exact qzz 3 [41,63,48] 9 (λq=>_/\_/\_/\_/\q) [.c (.non,DS ?c T ?y dn b X),.c (Y1 ?e,enD W H P T ts dn b X (FQ W H P T d q cs rest)),.r (fcU ?e W H P T d),.c (.non,enD W H P T ts dn b X ?qg)] ⟨qwl (m+6) (DS ?c T ?y dn b X) D g c,e,a,s,rfl⟩
end
theorem qfv{α b:Type}{f:α->b}:∀{l:L α}{i:Y0},(l.map f).eraseIdx i=(l.eraseIdx i).map f
 |[],_=>rfl
 |_::_,0=>rfl
 |a::r,i+1=>congrArg (f a::·) (qfv (l:=r) (i:=i))
theorem qfk{α:Type}:∀{l:L α}{i:Y0}(h:i<l.length),(l[i]::l.eraseIdx i).Perm l
 |_::_,0,_=>.refl _
 |a::r,i+1,h=>(List.Perm.swap a _ _).trans (.cons a (qfk (l:=r) (Nat.lt_of_succ_lt_succ h)))
def kv_no(h:∀p∈ts,p.1≠n):(∀p∈kvD ts,eqT p.1 (Z n)=Y6)/\dget ?y (Z n)=none:=by
 have h1:∀p∈kvD ts,eqT p.1 (Z n)=false:=λp a=>by
  obtain⟨u,b,rfl⟩:=Qqj.mp a;exact beq_eq_false_iff_ne.mpr (h u b)
 refine⟨h1,?_⟩;unfold dget;rw[Qx2.mpr λp a=>by rw[h1 p a]; nofun]
 rfl
def qla(h:∀u∈ts,u.1≠p.1):dput ?y (Z p.1) p.2.f=kvD (ts++[p]):=by
 rw[qxp (kv_no h).1];simp[kvD]
def qlk{ts:Pk}(h:(ts.map (·.1)).Nodup)(d:ts[i]?=Y p):ts.take (i+1)=ts.take i++[p]/\∀u∈ts.take i,u.1≠p.1:=by
 obtain⟨a,b⟩:=Qqk.mp d;have tk:ts.take (i+1)=ts.take i++[p]:=by rw[Qzy a,b]
 refine⟨tk,λu c e=>?_⟩;have h2:((ts.take i++[p]).map (·.1)).Nodup:=by rw[<- tk]; exact(Qxn _ _).map _ |>.nodup h
 rw[Qqm,Qxo]at h2;exact h2.2.2 u.1 (Qqj.mpr ⟨u,c,rfl⟩) p.1 (.head _) e
section
variable {ts:Pk}(K:Kp ts pl){W H P T:J}(hX:∀p∈pl,KdOk W H P p.2)
include K hX
theorem qiy(l:1<=W)(k:W<=24)(w:1<=H)(v:H<=24)(p0:0<=P)(p1:P<=12)(o:1<=T)(n:T<=400)(m):
  ∃j X,callD fns (m+8) 81 [szD W H P,Z T,.lst (ts.map pK)] []=Y (Y1 0,DS ?c T ?y ?s (j+3) X)/\X[j]?=Y (Y4 O []):=by
 have hl:=K.len;have u:=K.perm.length_eq;obtain⟨τ',st',hf,j,X,a,b,rfl,rfl,hj⟩:=qa0 (c:=callD fns (m+7)) (τ:=[Y ?c,Y (Z T),Y (.lst (ts.map pK)),Y (Y1 0),B,B]) (st:=DS ?c T [] [] 3 ?I) (i:=2) (q:=.lst (ts.map pK)) (ds:=ts.map pK) (t:=.tup [4,5])
  (body:=[.expr (.mcall 807 56 "tell" (.var 3) [.var 4,.var 5])])
  (λi τ' st'=>∃(j:Y0) (X:Y2) (a b:Y3 D),τ'=[Y ?c,Y (Z T),Y (.lst (ts.map pK)),Y (Y1 0),a,b]/\st'=DS ?c T (kvD (ts.take i)) ((ts.take i).map tK) (j+3) X/\X[j]?=Y (Y4 O []))
  rfl ⟨0,_,B,B,rfl,rfl,rfl⟩ (λ_ _ _ _=>rfl) (λi τ' st' x h s=>by
   obtain⟨j,X,a,b,rfl,rfl,hj⟩:=s;rw[Qqw]at h;obtain⟨p,hi,rfl⟩:=Qqa.mp h;have d:=K.perm.mem_iff.mp (Qqi hi);obtain⟨tk,f⟩:=qlk K.nd hi;have g:(ts.take i).length<lim:=by rw[Qq9]; unfold lim; lia
   have e:=qmb (T:=T) (b:=j+3) (X:=X) m (K.day p d).1 (K.day p d).2 ((hX p d).1.sound m _) (kv_no f).2 (by rw[Qqz]; exact g) (dn:=(ts.take i).map tK) (by rw[Qqz]; exact g);rw[qla f]at e;refine⟨[Y ?c,Y (Z T),Y (.lst (ts.map pK)),Y (Y1 0),Y (Z p.1),Y p.2.f],DS ?c T (kvD (ts.take (i+1))) ((ts.take (i+1)).map tK) ?e (X++?I),?_,X.length,_,_,_,rfl,rfl,by simp⟩;rw[tk,Qqm];generalize ts.take i=r at *
   exact qze 3 [56] 7 (λq=>_/\q) [.c (.non,DS ?c T (kvD (r++[p])) (r.map tK++[tK p]) ?e (X++?I))] ⟨e,rfl⟩)
 rw[Qqz,Qzg]at hf;have y:=qa7 l k w v p0 p1 o n (m+4);exact⟨j,X,qzz 3 [55] 8 (λq=>_/\_/\q) [.c (.non,DS ?c T [] [] 3 ?I),.s (.nx [Y ?c,Y (Z T),Y (.lst (ts.map pK)),Y (Y1 0),a,b],DS ?c T ?y ?s (j+3) X)] ⟨y,hf,rfl⟩,hj⟩
end
section
variable {ns:L J}(hn:ns.length<=63)
include hn
theorem qca(hl:pl.length<=24)(w:noLocs ?B=O)(m)(k):∃ts:Pk,ts.Perm pl/\callD fns (m+2) 82 [scr ns,Z k,.lst ?B] []=Y (Y1 1,[Y4 O [],Y4 O (ts.map pK)]):=by
 obtain⟨τ',st',hf,fs,rs,a,rfl,rfl,f,hr⟩:=qqw (c:=callD fns (m+1)) (τ:=[Y (scr ns),Y (Z k),Y (.lst ?B),Y (Y1 0),Y (Y1 1),B]) (st:=[Y4 O ?B,Y4 O []]) (it:=.rng1 (.bcall .len [.var 2])) (s:=.rng 0 pl.length) (ds:=(List.range pl.length).map λi:Y0=>D.int (0+(i:J))) (t:=.var 5)
  (body:=[.expr (.meth (.var 4) .append [.meth (.var 3) .pop [.call 66 [.var 0,.bin .Add (.var 1) (.var 5),.lit (Z 30),.bcall .len [.var 3]]]])])
  (λi τ' st'=>∃(fs rs:Pk) (a:Y3 D),τ'=[Y (scr ns),Y (Z k),Y (.lst ?B),Y (Y1 0),Y (Y1 1),a]/\st'=[Y4 O (rs.map pK),Y4 O (fs.map pK)]/\(fs++rs).Perm pl/\rs.length+i=pl.length)
  (by
   have e:(?v).ev [Y (scr ns),Y (Z k),Y (.lst ?B),Y (Y1 0),Y (Y1 1),B] [Y4 O ?B,Y4 O []] (.bcall .len [.var 2])=Y (Z (?B).length,[Y4 O ?B,Y4 O []]):=qzc 2 [] 1 (λq=>q) [] rfl;show((?v).ev _ _ _).bind _=_;rw[e,Qqz];show(if big (pl.length:J)=O then B else Y (Src.rng 0 (pl.length:J).toNat,_))=_;rw[Z5 (by unfold big; simp; lia)]
   rfl)
  (by simp[Src.size]) (λi τ' st' _=>qx7 0 _ i) ⟨[],pl,B,rfl,rfl,.refl _,rfl⟩ (λi τ' st' x o f=>by
   obtain⟨fs,rs,a,rfl,rfl,f,hr⟩:=f;rw[Qqw]at o;obtain⟨n,l,rfl⟩:=Qqa.mp o;obtain⟨j,z⟩:=Qqk.mp l;rw[Qxp]at j;obtain⟨y,r,y1,y2⟩:=dr hn m [Y4 O (rs.map pK),Y4 O (fs.map pK)] (k+(0+(n:J))) 30 (many:=(rs.map pK).length) (by decide) (by decide) (by rw[Qqz]; lia);rw[Qqz]at y2;have b:y.toNat<rs.length:=by lia
   have g:(if 0<=y/\y<(rs.map pK).length/\(rs.map pK).length<lim then((rs.map pK)[y.toNat]?).map λd=>(d,[Ya.lst O ((rs.map pK).eraseIdx y.toNat),Y4 O (fs.map pK)]) else B)=Y (pK rs[y.toNat],[Y4 O ((rs.eraseIdx y.toNat).map pK),Y4 O (fs.map pK)]):=by
    rw[Z6 ⟨y1,by rw[Qqz]; exact y2,by rw[Qqz]; unfold lim; lia⟩,Qqw,Qqd b,qfv]
    rfl
   refine⟨[Y (scr ns),Y (Z k),Y (.lst ?B),Y (Y1 0),Y (Y1 1),Y (Z (0+(n:J)))],[Y4 O ((rs.eraseIdx y.toNat).map pK),Y4 O ((fs++[rs[y.toNat]]).map pK)],?_,fs++[rs[y.toNat]],rs.eraseIdx y.toNat,_,rfl,rfl,?_,?_⟩
   ·have p:decide ((fs.map pK).length<lim)=true:=Z3 (by
     have:=f.length_eq;rw[Qql]at this
     rw[Qqz]; unfold lim; lia)
    rw[Qqm];generalize rs[y.toNat]=u at *;generalize (rs.eraseIdx y.toNat).map pK=v at *;exact qze 2 [66] 1 (λq=>_/\_/\_/\q) [.c (Z y,[Y4 O (rs.map pK),Y4 O (fs.map pK)]),.c (pK u,[Y4 O v,Y4 O (fs.map pK)]),.b O] ⟨r,g,p,rfl⟩
   ·refine List.Perm.trans ?_ f;rw[Qzz];refine List.Perm.append_left fs ?_;exact qfk b
   ·rw[List.length_eraseIdx_of_lt b]; lia)
 rw[Qqz,Qxp]at hr;have h:rs=[]:=Qzs.mp (by lia);subst h;rw[Qzx]at f;exact⟨fs,f,qzz 2 [] 2 (λq=>_/\q) [.s (.nx [Y (scr ns),Y (Z k),Y (.lst ?B),Y (Y1 0),Y (Y1 1),a],[Y4 O [],Y4 O (fs.map pK)])] ⟨hf,rfl⟩⟩
end
def qpq(ds:L α):cut ds B (Y (ds.length:J))=ds:=by
 unfold cut cutIx;dsimp only;rw[Z5 (by lia),Int.toNat_natCast,Nat.min_self,Qkx,Qj1,Qzg]
noncomputable abbrev TS(sz:D)(T:J)(ts:Pk):Y2:=DS sz T ?y ?s 4 [.lst O [],.lst O []]
section
variable {ts:Pk}(K:Kp ts pl){W H P T:J}(hX:∀p∈pl,KdOk W H P p.2){j:Y0}{X:Y2}
include K hX
theorem qh1(A:1<=W)(z:W<=24)(I:1<=H)(G:H<=24)(p0:0<=P)(p1:P<=12)(E:1<=T)(C:T<=400)(m):
  callD fns (m+8) 64 [Y1 0,Z (?s).length] (DS ?c T ?y ?s (j+3) X)=Y (Y1 ?e,DS ?c T ?y ?s (j+3) ?qa):=by
 have hl:=K.len;have F:=K.perm.length_eq;have o:noLocs ?s=true:=qzy λp n=>by
  show(O&&(O&&(noLoc p.2.f&&O)))=O;rw[DF.noLoc (hX p (K.perm.mem_iff.mp n)).1]
  rfl
 have d:(DS ?c T ?y ?s (j+3) X).length=X.length+3:=rfl;have N:callD fns (m+7) 55 [Y1 ?e,Z W,Z H,Z P,Z T] (DS ?c T ?y ?s (j+3) X++[.obj 807 []])=Y (.non,DS ?c T ?y ?s (j+3) ?qb):=qq8 (f:=55) d rfl rfl (es:=[Z W,Z H,Z P,Z T]) rfl (qa7 A z I G p0 p1 E C (m+4));obtain⟨τ',st',hf,a,rfl,rfl⟩:=qqw (c:=callD fns (m+7)) (τ:=[Y (Y1 0),Y (Z (?s).length),Y (Y1 ?e),B]) (st:=DS ?c T ?y ?s (j+3) ?qb) (it:=.gc (.sli (.attr 807 ?L "done") B (Y (.var 1)))) (s:=.lst (.lst ?s)) (ds:=ts.map tK) (t:=.var 3)
  (body:=[.expr (.mcall 807 58 "perform" (.var 2) [.var 3])])
  (λi τ' st'=>∃a:Y3 D,τ'=[Y (Y1 0),Y (Z (?s).length),Y (Y1 ?e),a]/\st'=DS ?c T ?y ?s (j+3) (X++up ?e (DS ?c T (kvD (ts.take i)) ((ts.take i).map tK) 3 ?I)))
  (by
   have g:gcD (DS ?c T ?y ?s (j+3) ?qb) (Y1 (DS ?c T ?y ?s (j+3) ?qb).length,(DS ?c T ?y ?s (j+3) ?qb)++[Y4 O (cut ?s B (Y ((?s).length:J)))])=(.lst ?s,DS ?c T ?y ?s (j+3) ?qb):=by
    rw[qpq];exact qzv o
   have v:(RL (callD fns (m+7))).ev [Y (Y1 0),Y (Z (?s).length),Y (Y1 ?e),B] (DS ?c T ?y ?s (j+3) ?qb) (.gc (.sli (.attr 807 ?L "done") B (Y (.var 1))))=Y (.lst ?s,DS ?c T ?y ?s (j+3) ?qb):=
    qzc 3 [] 7 (λq=>_/\q) [.l ?s] ⟨g,rfl⟩
   show((RL (callD fns (m+7))).ev _ _ _).bind _=_;rw[v]
   rfl)
  (qzn rfl) (λk τ' st' _=>qqq rfl k) ⟨B,rfl,rfl⟩ (λi τ' st' x y n=>by
   obtain⟨a,rfl,rfl⟩:=n;rw[Qqw]at y;obtain⟨p,hi,rfl⟩:=Qqa.mp y;have l:=K.perm.mem_iff.mp (Qqi hi);obtain⟨tk,u⟩:=qlk K.nd hi;have w:(ts.take i).length<lim:=by rw[Qq9]; unfold lim; lia
   have e:=qdo (sz:=szD W H P) (T:=T) (day:=p.1) (b:=3) (X:=?I) (kv:=kvD (ts.take i)) (dn:=(ts.take i).map tK) (m+5) p.2.f (by rw[Qqz]; exact w) (by rw[Qqz]; exact w);rw[qla u]at e;have e:=qq8 (f:=58) (m:=m+6) d (es:=[tK p]) rfl rfl (by show(((O&&(O&&(noLoc p.2.f&&O)))&&O):Yb)=O; rw[DF.noLoc (hX p l).1]; rfl) e;have h:(DS ?c T ?y ?s (j+3) (X++up ?e (DS ?c T (kvD (ts.take i)) ((ts.take i).map tK) 3 ?I)))[X.length+3]?=Y (mpC (· + ?e) ?U):=by
    have:=qxi (i:=0) (S:=DS ?c T (kvD (ts.take i)) ((ts.take i).map tK) 3 ?I) d rfl;rw[Qzp]at this;exact this
   refine⟨[Y (Y1 0),Y (Z (?s).length),Y (Y1 ?e),Y (tK p)],DS ?c T ?y ?s (j+3) (X++up ?e (DS ?c T (kvD (ts.take (i+1))) ((ts.take (i+1)).map tK) 3 ?I)),?_,_,rfl,rfl⟩;rw[tk,Qqm];generalize ts.take i=r at *
   exact qze 3 [58] 7 (λq=>_/\_/\q) [.r (mpC (· + ?e) ?U),.c (.non,DS ?c T ?y ?s (j+3) (X++up ?e (DS ?c T (kvD (r++[p])) (r.map tK++[tK p]) 3 ?I)))] ⟨h,e,rfl⟩)
 rw[show ts.take (?s).length=ts by rw[Qqz,Qzg]]at hf;have b1:decide ((0:J)<=((?s).length:J))=true:=Z3 (by lia);have b2:decide (((?s).length:J)<=((?s).length:J))=true:=Z3 (by lia);exact qzz 3 [55] 8 (λq=>_/\_/\_/\_/\q) [.b O,.b O,.c (.non,DS ?c T ?y ?s (j+3) ?qb),.s (.nx [Y (Y1 0),Y (Z (?s).length),Y (Y1 ?e),a],DS ?c T ?y ?s (j+3) ?qa)] ⟨b1,b2,N,hf,rfl⟩
theorem qmz(k:1<=W)(g:W<=24)(r:1<=H)(o:H<=24)(p0:0<=P)(p1:P<=12)(n:1<=T)(l:T<=400)(hj:X[j]?=Y (Y4 O []))(m):
  callD fns (m+9) 65 [Y1 0] (DS ?c T ?y ?s (j+3) X)=Y (Y1 ?e,DS ?c T ?y ?s (j+3) (X++up ?e (TS ?c T ts))):=by
 have e:=qh1 (j:=j) (X:=X) K hX k g r o p0 p1 n l m;have d:(DS ?c T ?y ?s (j+3) X).length=X.length+3:=rfl;have hb:(DS ?c T ?y ?s (j+3) ?qa)[j+3]?=Y (Y4 O []):=by
  show(X++_)[j]?=_;rw[Qqs (Qqk.mp hj).1];exact hj
 have b:(DS ?c T ?y ?s (j+3) ?qa++[Ya.lst O []])[X.length+3]?=Y (mpC (· + ?e) ?U):=by
  have:=qxi (i:=0) (S:=DS ?c T ?y ?s 3 ?I) d rfl;rw[Qzp]at this;exact ga _ this
 have f:(DS ?c T ?y ?s (j+3) ?qa).length=4+?e:=by
  show(X++up ?e _).length+3=_;rw[Qql,Qqz];show X.length+4+3=_
  lia
 have c:(DS ?c T ?y ?s (j+3) ?qa++[Ya.lst O []]).set ?e (mpC (· + ?e) (.obj 807 [("extent",szD W H P),("year",Z T),("kept",Y1 1),("done",Y1 2),("back",Y1 4)]))=DS ?c T ?y ?s (j+3) (X++up ?e (TS ?c T ts)):=by
  show((.obj 807 _::.dic O ?y::Y4 O ?s::(X++(_::_:Y2)))++[Ya.lst O []]).set ?e _=_;show _::_::_::((X++(_::_:Y2))++[Ya.lst O []]).set X.length _=_;rw[Qzz,List.set_append_right (h:=Qqv _),Nat.sub_self]
  rfl
 have a:(([Y (Y1 0),Y (Y1 ?e)]:Sl),((DS ?c T ?y ?s (j+3) ?qa)++[Ya.lst O []]).set ?e (.obj 807 (putA "back" (Y1 (DS ?c T ?y ?s (j+3) ?qa).length) [("extent",szD W H P),("year",Z T),("kept",Y1 (1+?e)),("done",Y1 (2+?e)),("back",Y1 (3+?e))])))=([Y (Y1 0),Y (Y1 ?e)],DS ?c T ?y ?s (j+3) (X++up ?e (TS ?c T ts))):=by
  rw[f];exact congrArg _ c
 exact qzz 3 [64] 9 (λq=>_/\_/\_/\_/\q) [.c (Y1 ?e,DS ?c T ?y ?s (j+3) ?qa),.r (Y4 O []),.r (mpC (· + ?e) ?U),.e ([Y (Y1 0),Y (Y1 ?e)],DS ?c T ?y ?s (j+3) (X++up ?e (TS ?c T ts)))] ⟨e,hb,b,a,rfl⟩
end
noncomputable def inF(F:L J)(k:Kd):Bool:=match ptN k with
 |some n=>F.contains n
 |none=>Y6
noncomputable def fam:Pk->L J->L J
 |[],F=>F
 |p::r,F=>fam r (if inF F p.2 then F++[p.1] else F)
theorem qfz:∀{A Bq}{F},fam (A++Bq) F=fam Bq (fam A F)
 |[],_,_=>rfl
 |_::A,_,_=>qfz (A:=A)
theorem qe8:∀{pl}{F},x∈F->x∈fam pl F
 |[],_,h=>h
 |p::r,F,h=>qe8 (pl:=r) (by split; exact Qzb _ h; exact h)
theorem qa2:∀{pl}{F},(∀p∈pl,x≠p.1)->(x∈fam pl F↔x∈F)
 |[],_,_=>Iff.rfl
 |p::r,F,h=>by
  refine(qa2 (pl:=r) λp a=>h p (.tail _ a)).trans ?_;have:=h p (.head _)
  split
  ·simp[this]
  ·rfl
theorem qe9:∀{pl}{F},(fam pl F).length<=F.length+pl.length
 |[],_=>Qqv _
 |p::r,F=>by
  refine Qzh (qe9 (pl:=r)) ?_;rw[Qqh]
  split
  ·rw[Qql]; show F.length+1+r.length<=_; lia
  ·lia
theorem ql0{n:J}{p:J×Kd}:∀{pl:Pk}{F:L J},(pl.map (·.1)).Pairwise (· < ·)->p∈pl->p.1 ∉ F->ptN p.2=Y n->n<p.1->(p.1∈fam pl F↔n∈fam pl F)
 |a::r,F,hd,g,f,hn,e=>by
  rw[Qqg,Qxa]at hd;have hr:∀u∈r,a.1<u.1:=λu b=>hd.1 _ (Qqj.mpr ⟨u,b,rfl⟩);rcases Qqb.mp g with rfl|c
  ·unfold fam;rw[qa2 λu b=>by have:=hr u b; lia,qa2 λu b=>by have:=hr u b; lia];unfold inF;rw[hn];dsimp only;have d:n≠p.1:=by lia
   by_cases h:n∈F
   ·rw[Z6 (Qxm.mpr h)];simp[h]
   ·rw[Z5 λz=>h (Qxm.mp z)];exact⟨λz=>absurd z f,λz=>absurd z h⟩
  ·have d:=hr p c
   exact ql0 (pl:=r) (F:=if inF F a.2 then F++[a.1] else F) hd.2 c (by split<;>first|exact f|(simp[f];lia)) hn e
theorem qlu{p:J×Kd}:∀{pl:Pk}{F:L J},(pl.map (·.1)).Pairwise (· < ·)->p∈pl->p.1 ∉ F->ptN p.2=B->p.1 ∉ fam pl F
 |a::r,F,hd,e,d,hn=>by
  rw[Qqg,Qxa]at hd;have hr:∀u∈r,a.1<u.1:=λu c=>hd.1 _ (Qqj.mpr ⟨u,c,rfl⟩);rcases Qqb.mp e with rfl|b
  ·unfold fam inF;rw[hn,qa2 λu c=>by have:=hr u c; lia];exact d
  ·have f:=hr p b
   exact qlu (pl:=r) (F:=if inF F a.2 then F++[a.1] else F) hd.2 b (by split<;>first|exact d|(simp[d];lia)) hn
def pk_inj{pl:Pk}(hd:(pl.map (·.1)).Pairwise (· < ·))(c:p∈pl)(b:u∈pl)(e:p.1=u.1):p=u:=by
 obtain⟨i,hi,rfl⟩:=Qzr c;obtain⟨j,hj,rfl⟩:=Qzr b;have a:=Qxb.mp hd;rcases Qja i j with h|h|h
 ·have:=a i j (by simpa using hi) (by simpa using hj) h;rw[Qxr,Qxr]at this
  lia
 ·subst h; rfl
 ·have:=a j i (by simpa using hj) (by simpa using hi) h;rw[Qxr,Qxr]at this
  lia
def qij{T D:J}(hd:(pl.map (·.1)).Pairwise (· < ·))(hs:(sd,Kd.stake o g)∈pl):
  fil (fam pl [sd]) (hst T (pl.filter λp=>decide (p.1<=D)) q0)=hst T ((pl.filter λp=>!(p.1==sd)).filter λp=>decide (p.1<=D)) q0:=by
 have d:(pl.filter λp=>decide (p.1<=D)).map (·.1) |>.Pairwise (· < ·):=hd.sublist (List.filter_sublist.map _)
 have h:∀p∈pl,p.1=sd->p=(sd,Kd.stake o g):=λp a e=>pk_inj hd a hs e;have b:∀p∈pl,p.1≠sd->p.1 ∉ [sd]:=λp _ e z=>e (Qqy.mp z);rw[qe5 _ q0 d (λc hc=>nomatch hc) (sd:=sd) (λp a n hn f=>?_) (λp a ne ⟨o',i,e⟩=>?_) (λp a e=>?_)]
 ·show hst T _ (fil _ q0)=_;rw[List.filter_filter,List.filter_filter];have:fil (fam pl [sd]) q0=q0:=rfl;rw[this]
  congr 1
  exact List.filter_congr λp _=>Bool.and_comm _ _
 ·have a:=(Qzn.mp a).1;refine ql0 hd a (b p a λe=>?_) hn f;rw[h p a e]at hn;cases hn
 ·have a:=(Qzn.mp a).1;exact qlu hd a (b p a ne) (by rw[e]; rfl)
 ·have a:=(Qzn.mp a).1;rw[h p a e];exact⟨qe8 (.head _),o,g,rfl⟩
def any_in(F:L J)(n):((F.map D.int).any λy=>eqT y (Z n))=F.contains n:=by
 rw[List.any_map,List.contains_eq_any_beq];exact congrArg (λg=>F.any g) (funext λy=>(eqI y n).trans (Bool.beq_comm ..))
def fl_int(F:L J):flats 9 (F.map D.int)=true:=by unfold flats; rw[Qzc]; intro x a; obtain⟨i,_,rfl⟩:=Qqj.mp a; rfl
def in_list(F:L J)(n)(S)(b:seqAt S q=Y (F.map Z))(a:∀ds,q≠Y9 ds):inD S (Z n) q=Y (F.contains n):=by
 have e:inD S (Z n) q=(seqAt S q).bind λds=>if flat 9 (Z n)&&flats 9 ds then Y (ds.any λy=>eqT y (Z n)) else none:=by
  cases q with
  |tup ds=>exact absurd rfl (a ds)
  |_=>rfl
 rw[e,b];show(if O&&flats 9 (F.map D.int) then _ else B)=_;rw[fl_int,any_in]
 rfl
section
def qe7(I:∀p∈pl,KdOk W H P p.2)(hl:pl.length<=24)(s)(m):callD fns (m+1) 83 [.lst ?B,Z s] []=Y (Y1 0,[Y4 O ((fam pl [s]).map Z)]):=by
 obtain⟨τ',st',hf,a,b,rfl,rfl⟩:=qa0 (c:=callD fns m) (τ:=[Y (.lst ?B),Y (Z s),Y (Y1 0),B,B]) (st:=[Y4 O [Z s]]) (i:=0) (q:=.lst ?B) (ds:=pl.map pK) (t:=.tup [3,4])
  (body:=?J)
  (λi τ' st'=>∃a b:Y3 D,τ'=[Y (.lst ?B),Y (Z s),Y (Y1 0),a,b]/\st'=[Y4 O ((fam (pl.take i) [s]).map Z)])
  rfl ⟨B,B,rfl,rfl⟩ (λ_ _ _ _=>rfl) (λi τ' st' x v E=>by
   obtain⟨a,b,rfl,rfl⟩:=E;rw[Qqw]at v;obtain⟨p,hi,rfl⟩:=Qqa.mp v;obtain⟨z,A⟩:=Qqk.mp hi;have tk:pl.take (i+1)=pl.take i++[p]:=by rw[Qzy z,A]
   have w:(fam (pl.take i) [s]).length<lim:=by
    have:=qe9 (pl:=pl.take i) (F:=[s]);have:=List.length_take_le i pl;have:([s]:L J).length=1:=rfl;unfold lim; lia
   have C:fam (pl.take (i+1)) [s]=if inF (fam (pl.take i) [s]) p.2 then fam (pl.take i) [s]++[p.1] else fam (pl.take i) [s]:=by rw[tk,qfz]; rfl
   refine⟨[Y (.lst ?B),Y (Z s),Y (Y1 0),Y (Z p.1),Y p.2.f],[Y4 O ((fam (pl.take (i+1)) [s]).map Z)],?_,_,_,rfl,rfl⟩;rw[C];generalize fam (pl.take i) [s]=F at *;have v:=I p (Qqi hi);obtain⟨d,k⟩:=p;have no:inF F k=Y6->((setT (.tup [3,4]) (pK (d,k)) [Y (.lst ?B),Y (Z s),Y (Y1 0),a,b]).bind λu=>(?D).ex u [Y4 O (F.map Z)] ?J)=Y (.nx [Y (.lst ?B),Y (Z s),Y (Y1 0),Y (Z d),Y k.f],[Y4 O (F.map Z)])->((setT (.tup [3,4]) (pK (d,k)) [Y (.lst ?B),Y (Z s),Y (Y1 0),a,b]).bind λu=>(?D).ex u [Y4 O (F.map Z)] ?J)=Y (.nx [Y (.lst ?B),Y (Z s),Y (Y1 0),Y (Z d),Y k.f],[Y4 O ((if inF F k then F++[d] else F).map Z)]):=λh e=>by rw[h]; exact e
   cases k with
   |vein s ps=>exact no rfl (qze 1 [] 0 (λq=>q) [] rfl)
   |join a b f=>exact no rfl (qze 1 [] 0 (λq=>q) [] rfl)
   |stake o g=>exact no rfl (qze 1 [] 0 (λq=>q) [] rfl)
   |clm f=>
    have hc:CF' f:=v.2
    cases hc with
    |work n=>exact no rfl (qze 1 [] 0 (λq=>q) [] rfl)
    |give n=>exact no rfl (qze 1 [] 0 (λq=>q) [] rfl)
    |sell n o G=>exact no rfl (qze 1 [] 0 (λq=>q) [] rfl)
    |part n s' l o hs G=>
     have j:=in_list F n [Y4 O (F.map Z)] (q:=Y1 0) rfl nofun
     have e:inF F (Kd.clm (.tup [sO "part",Z n,Z s',Z l,Z o]))=F.contains n:=rfl
     cases r:F.contains n with
     |false=>rw[r]at j; exact no (e.trans r) (qze 1 [] 0 (λq=>_/\q) [.b Y6] ⟨j,rfl⟩)
     |true=>
      rw[r]at j;rw[e,r];have y:decide ((F.map D.int).length<lim)=true:=Z3 (by rw[Qqz]; exact w);show _=Y (Out.nx _,[Ya.lst O ((F++[d]).map Z)]);rw[Qqm]
      exact qze 1 [] 0 (λq=>_/\_/\q) [.b O,.b O] ⟨j,y,rfl⟩)
 rw[Qqz,Qzg]at hf;exact qzz 1 [] 1 (λq=>_/\q) [.s (.nx [Y (.lst ?B),Y (Z s),Y (Y1 0),a,b],[Y4 O ((fam pl [s]).map Z)])] ⟨hf,rfl⟩
end
def same_int(m)(st)(i):callD fns (m+1) 67 [Z i,Z i] st=Y (.bl O,st):=
 qzz 0 [] 1 (λq=>_/\q) [.b O] ⟨(show(i==i)=O from beq_self_eq_true i),rfl⟩
def same_str(m)(st)(s):callD fns (m+1) 67 [.str s,.str s] st=Y (.bl O,st):=
 qjb 0 [] 1 (.bl (s==s),st) (λq=>q) [] (by rw[beq_self_eq_true])
def qy4(m)(st):callD fns (m+1) 67 [.non,.non] st=Y (.bl O,st):=
 qzz 0 [] 1 (λq=>q) [] rfl
def qy3(m)(st)(hd:d=.tup ds\/d=.lst ds)(hl:ds.length<100000)(n:∀x∈ds,callD fns (m+1) 67 [x,x] st=Y (.bl O,st)):callD fns (m+2) 67 [d,d] st=Y (.bl O,st):=by
 have hb:bfun st .all [.lst ((ds.map λ_=>O).map .bl)]=Y (.bl O,st):=by
  show(asBools _).map _=_;rw[asB];exact congrArg (λb=>Y (D.bl b,st)) (by simp)
 have k:=qzv (st:=st) (nlB (ds.map λ_=>O));have j:∀(S:Y2) (i:Y0) (x:D),ds[i]?=Y x->idxD S d (Z (i:J))=Y x:=λS i x f=>by
  have hi:=(Qqk.mp f).1;have h2:(i:J)<ds.length:=by lia
  have e:atI ds (i:J)=Y x:=by
   unfold atI ixN;rw[Z6 (by lia),Z6 h2];exact f
  rcases hd with rfl|rfl<;>exact e
 have o:∀S:Y2,bfun S .len [d]=Y (Z ds.length,S):=λS=>by rcases hd with rfl|rfl<;>rfl
 have hc:stepEv ?v [Y d,Y d,B] st (.comp ?L (.rng1 (.bcall .len [.var 1])) B (.gc (.call 67 [.idx (.var 2) ?L,.idx (.var 1) ?L])) [B,Y 1,Y 0])=Y (Y1 st.length,st++[Y4 O ((ds.map λ_=>O).map .bl)]):=by
  have h:=qqz (c:=callD fns (m+1)) (τ:=[Y d,Y d,B]) (st:=st) (t:=.var 0) (it:=.rng1 (.bcall .len [.var 1])) (elt:=.gc (.call 67 [.idx (.var 2) ?L,.idx (.var 1) ?L])) (test:=B) (sr:=[B,Y 1,Y 0]) (s:=.rng 0 ds.length) (ds:=(List.range ds.length).map λi:Y0=>D.int (0+(i:J))) (λ_=>Y (.bl O)) (λτ=>∃a,τ=[a,Y d,Y d]) (by
   have el:(?v).ev [Y d,Y d,B] st (.bcall .len [.var 1])=Y (Z ds.length,st):=by
    rcases hd with rfl|rfl<;>exact qzc 0 [] 1 (λq=>q) [] rfl
   show((?v).ev _ _ (.bcall .len [.var 1])).bind _=_;rw[el];show(if big (ds.length:J)=O then B else Y (Src.rng 0 (ds.length:J).toNat,st))=_;rw[Z5 (by unfold big; simp; lia)]
   rfl) (λi=>qx7 0 _ i) (by simp[Src.size]) (by simp; unfold lim; lia) ⟨B,rfl⟩ λτ x f g=>by
   obtain⟨a,rfl⟩:=g;obtain⟨i,hi,rfl⟩:=Qqj.mp f;have hi:=Qz8.mp hi;have f:=Qqd hi;have p:(0:J)+(i:J)=i:=by lia
   rw[p];refine⟨[Y (Z i),Y d,Y d],qk3 rfl ?_,_,rfl⟩;exact qzc 0 [67] 1 (λq=>_/\_/\_/\_/\q) [.i ds[i],.i ds[i],.c (.bl O,st),.g] ⟨j st i _ f,j st i _ f,n _ (Qxk hi),gS (.bl O) st rfl,rfl⟩
  have e:((List.range ds.length).map λi:Y0=>D.int (0+(i:J))).filterMap (λ_=>Y (D.bl O))=(ds.map λ_=>O).map .bl:=by
   rw[Qxw,Qqp];refine(congrFun Qx8 _).trans ?_;rw[List.map_const',Qxp];exact(List.map_const' (l:=ds) (b:=D.bl O)).symm
  rw[e]at h;exact h
 rcases hd with rfl|rfl
 ·exact qzz 0 [] 2 (λq=>_/\_/\_/\_/\q) [.b Y6,.c (Y1 st.length,st++[Y4 O ((ds.map λ_=>O).map .bl)]),.l ((ds.map λ_=>O).map .bl),.c (.bl O,st)] ⟨(show(!((ds.length:J)==ds.length))=Y6 by simp),hc,k,hb,rfl⟩
 ·exact qzz 0 [] 2 (λq=>_/\_/\_/\_/\q) [.b Y6,.c (Y1 st.length,st++[Y4 O ((ds.map λ_=>O).map .bl)]),.l ((ds.map λ_=>O).map .bl),.c (.bl O,st)] ⟨(show(!((ds.length:J)==ds.length))=Y6 by simp),hc,k,hb,rfl⟩
inductive Dq:Y0->D->Prop
 |non {k}:Dq k .non
 |int {k i}:Dq k (.int i)
 |str {k s}:Dq k (.str s)
 |tup {k ds} (h:∀d∈ds,Dq k d) (hl:ds.length<100000):Dq (k+1) (.tup ds)
 |lst {k ds} (h:∀d∈ds,Dq k d) (hl:ds.length<100000):Dq (k+1) (.lst ds)
def qdy(h:Dq k d):∀(m:Y0) (st:Y2),callD fns (m+k+1) 67 [d,d] st=Y (.bl O,st):=by
 induction h with
 |non=>exact λm st=>qy4 _ st
 |int=>exact λm st=>same_int _ st _
 |str=>exact λm st=>same_str _ st _
 |@tup k ds h hl a=>exact λm st=>qy3 (m+k) st ?qp hl λx b=>a x b m st
 |@lst k ds h hl a=>exact λm st=>qy3 (m+k) st (.inr rfl) hl λx b=>a x b m st
noncomputable abbrev bkU(N:Y0)(cs:L Cl):L (D×D):=(qzh cs).map λp=>(p.1,mp (· + N) p.2)
noncomputable abbrev pU(N:Y0)(T:J)(cs:L Cl):Pl:=⟨N,1+N,2+N,3+N,4+N,5+N,.int T,.loc (6+N),.loc (7+N),bkU N cs⟩
theorem mpv_nl:∀{kvs:L (D×D)},(∀p∈kvs,noLoc p.2=O)->(kvs.map λp=>(p.1,mp f p.2))=kvs
 |[],_=>rfl
 |p::r,h=>by
  rw[Qqg,mp_nl p.2 (h p (.head _)),mpv_nl λu a=>h u (.tail _ a)]
def oD_up(o):mp f (oD o)=oD o:=by cases o<;>rfl
def qen(l:L J):mps f (l.map Z)=l.map Z:=qv5 _ (nlI l)
def cel_up(c:Cl)(y):mpC f (c.cel (Y1 y))=c.cel (Y1 (f y)):=by
 show Ya.obj _ [("owner",Z c.o),("ground",rD c.g),("days",Y1 (f y)),("last",Z c.la),("vested",mp f (oD c.v)),("given",mp f (oD c.gv))]=_;rw[oD_up,oD_up]
 rfl
theorem qfc(k):∀kvs:L (D×D),dget (kvs.map λp=>(p.1,mp f p.2)) k=(dget kvs k).map (mp f)
 |[]=>rfl
 |p::r=>by
  have a:=qfc (f:=f) k r;unfold dget at a ⊢;rw[Qqg,Qzq,Qzq];dsimp only
  cases eqT p.1 k with
  |true=>rfl
  |false=>exact a
def vo_nl(V:VsOk vs):∀p∈voD vs,noLoc p.2=true:=λp b=>by
 obtain⟨v,hv,rfl⟩:=Qqj.mp b;obtain⟨a,e,_⟩:=(V v hv).1;show(noLoc v.2.1&&(noLoc (Y9 ?qk)&&O))=O;rw[e,qyq];show(noLocs (a.map Z)&&_)=O;rw[nlI]
 rfl
def qak(h:exs f [s] τ st=Y (.nx a,st')):f τ st s=Y (.nx a,st'):=by
 unfold exs at h
 cases b:f τ st s with
 |none=>rw[b]at h; cases h
 |some p=>
  obtain⟨o,S⟩:=p;rw[b]at h
  cases o with
  |nx c=>exact h
  |rt d=>cases h
def fa_up{pre:Y2}{T:J}(e:pre.length=N)(I:Inv rest cs)(V:VsOk q.vs)(h:JoI q.vs q.jo):FA (pU N T cs) ?c d (voD q.vs) q.jo cs q.ro (pre++up N (FQ W H P T d q cs rest)++X) where
 hf:=ga X (by have:=qxi (i:=0) (S:=FQ W H P T d q cs rest) e rfl; rw[Qzp]at this; exact this)
 hv:=ga X (by
  have:=qxi (i:=1) (S:=FQ W H P T d q cs rest) e rfl;rw[show mpC (· + N) (.dic O (voD q.vs))=.dic O (voD q.vs) from congrArg (Ya.dic O) (mpv_nl (vo_nl V))]at this
  exact this)
 hj:=ga X (by
  have:=qxi (i:=2) (S:=FQ W H P T d q cs rest) e rfl
  rw[show mpC (· + N) (.dic O q.jo)=.dic O q.jo from congrArg (Ya.dic O) (mpv_nl λp g=>by
   obtain⟨a,b,f,rfl,_⟩:=h p g
   rfl)]at this
  exact this)
 hs:=ga X (qxi (i:=3) (S:=FQ W H P T d q cs rest) e rfl)
 hb:=ga X (qxi (i:=4) (S:=FQ W H P T d q cs rest) e rfl)
 hr:=ga X (by
  have:=qxi (i:=5) (S:=FQ W H P T d q cs rest) e rfl;rw[show mpC (· + N) (Y4 O (rowD q.ro))=Y4 O (rowD q.ro) from congrArg (Ya.lst O) (qen q.ro)]at this
  exact this)
 hc:=λc hc=>by
  have h1:=qxi (i:=c.j+9) (S:=FQ W H P T d q cs rest) e (I.at_ c hc).2;have h2:=qxi (i:=c.j+8) (S:=FQ W H P T d q cs rest) e (I.at_ c hc).1;rw[cel_up]at h1;rw[show mpC (· + N) c.dl=c.dl from congrArg (Ya.lst O) (qen c.ds)]at h2;refine⟨c.j+9+N,c.j+8+N,?_,ga X h1,ga X h2⟩;rw[qfc,I.get hc]
  rfl
 hk:=by
  show((qzh cs).map _).map _=_;unfold qzh;rw[Qqp,Qqp]
  rfl
section
variable {ns:L J}(hn:ns.length<=63)
include hn
theorem end_ok(m)(st){pl:Pk}(k:∀p∈pl,1<=p.1/\p.1<=400):∃D:J,callD fns (m+2) 80 [scr ns,Z 1,Yc ?B] st=Y (Z D,st)/\1<=D/\D<=400:=by
 obtain⟨la,f,s,r⟩:∃la:J,stepEx ?v [Y (scr ns),Y (Z 1),Y (Yc ?B),Y (Z 0),B] st (.ite (.cmp .Gt (.bcall .len [Yd 2]) (.lit (Z 0))) [.set (.var 3) (.idx (.idx (Yd 2) (.neg (.lit (Z 1)))) (.lit (Z 0)))] [])=Y (.nx [Y (scr ns),Y (Z 1),Y (Yc ?B),Y (Z la),B],st)/\0<=la/\la<=400:=by
  rcases List.eq_nil_or_concat pl with rfl|⟨ps,p,rfl⟩
  ·exact⟨0,qak (qxc 0 [] 1 (λq=>_/\q) [.b Y6] ⟨(show decide ((0:J)<((([]:Pk).map pK).length:J))=Y6 by decide),rfl⟩),by decide,by decide⟩
  ·have h:=k p (by simp);have d:idxD st (Yc ((ps.concat p).map pK)) (Z (-1))=Y (pK p):=by
    rw[List.concat_eq_append,Qqm];show atI (ps.map pK++[pK p]) (-1)=_;unfold atI ixN;rw[Z5 (by decide),Z6 (by simp; lia)];have:((-1:J)+((ps.map pK++[pK p]).length:Y0)).toNat=(ps.map pK).length:=by simp; lia
    rw[oBs,this];simp
   have e:decide ((0:J)<(((ps.concat p).map pK).length:J))=true:=Z3 (by rw[Qqz,List.length_concat]; lia);exact⟨p.1,qak (qxc 0 [] 1 (λq=>_/\_/\q) [.b O,.i (pK p)] ⟨e,d,rfl⟩),by lia,h.2⟩
 obtain⟨y1,o,u,t⟩:=dr hn m st 1 6 (many:=3) (by decide) (by decide) (by decide);obtain⟨y2,n,b1,b2⟩:=dr hn m st 1 7 (many:=la+40) (by decide) (by decide) (by lia);obtain⟨a,l,c1,c2⟩:=dr hn m st 1 8 (many:=3) (by decide) (by decide) (by decide);obtain⟨x,d⟩:∃x:J,idxD st (Yc [Z (la+y1),Z (1+y2),Z la]) (Z a)=Y (Z x):=by
  have:a=0\/a=1\/a=2:=by lia
  rcases this with rfl|rfl|rfl
  ·exact⟨_,rfl⟩
  ·exact⟨_,rfl⟩
  ·exact⟨_,rfl⟩
 have g:=qzv (st:=st) (ds:=[Z (la+y1),Z (1+y2),Z la]) rfl;have c:∀(b:Yb),decide (x<400)=b->∀b':Yb,decide ((if b then x else 400) > 1)=b'->callD fns (m+2) 80 [scr ns,Z 1,Yc ?B] st=Y (Z (if b' then(if b then x else 400) else 1),st):=λb hb b' i=>by
  have j:stepEx ?v [Y (scr ns),Y (Z 1),Y (Yc ?B),B,B] st (.set (.var 3) (.lit (Z 0)))=Y (.nx [Y (scr ns),Y (Z 1),Y (Yc ?B),Y (Z 0),B],st):=by
   show((?v).ev _ _ _).bind _=_;rw[qqg (callD fns (m+1)) _ st (.lit (Z 0)) (Z 0,st) rfl]
   rfl
  exact qzz 0 [66] 2 (λq=>_/\_/\_/\_/\_/\_/\_/\_/\_/\q) [.t (.nx [Y (scr ns),Y (Z 1),Y (Yc ?B),Y (Z 0),B],st),.t (.nx [Y (scr ns),Y (Z 1),Y (Yc ?B),Y (Z la),B],st),.c (Z y1,st),.c (Z y2,st),.l [Z (la+y1),Z (1+y2),Z la],.c (Z a,st),.i (Z x),.b b,.b b'] ⟨j,f,o,n,g,l,d,hb,i,rfl⟩
 by_cases hb:x<400
 ·by_cases hc:x > 1
  ·exact⟨x,c O (Z3 hb) O (Z3 hc),by lia,by lia⟩
  ·exact⟨1,c O (Z3 hb) Y6 (Z4 hc),by decide,by decide⟩
 ·exact⟨400,c Y6 (Z4 hb) O rfl,by decide,by decide⟩
end
section
variable {ns:L J}(hn:ns.length<=63){W H P:J}(w1:1<=W)(w2:W<=24)(h1:1<=H)(h2:H<=24)(p0:0<=P)(p1:P<=12)
include hn w1 w2 h1 h2 p0 p1
theorem qmn(m)(st):∃fd:L P3,callD fns (m+2) 84 [scr ns,Z 1,szD W H P] st=Y (Y1 st.length,st++[Y4 O (fd.map spD)])/\fd.length<=40/\∀p∈fd,InG W H P p:=by
 obtain⟨sp,b,G,F,f⟩:=qg3 w1 w2 h1 h2 p0 p1 m st;obtain⟨v,hv,C,A⟩:=dr hn m st 1 65 (many:=(sp.map spD).length) (by decide) (by decide) (by rw[Qqz]; lia);have z:=qzv (st:=st) (ds:=sp.map spD) (qzy λ_ _=>rfl);obtain⟨n,g,E,D⟩:∃n:J,(?v).ev [Y (scr ns),Y (Z 1),Y ?c,Y (Yc (sp.map spD)),Y (Z v)] st (.bcall .min [.lit (Z 40),.bcall .len [Yd 3]])=Y (Z n,st)/\0<=n/\n<=40:=by
  by_cases h:?S<40
  ·exact⟨?S,qzc 0 [] 1 (λq=>_/\q) [.b O] ⟨Z3 h,rfl⟩,by lia,by lia⟩
  ·exact⟨40,qzc 0 [] 1 (λq=>_/\q) [.b Y6] ⟨Z4 h,rfl⟩,by decide,by decide⟩
 have k:0<?S:=by rw[Qqz]; lia
 have w:?S<2 ^ 64:=by rw[Qqz]; lia
 have a:∀i:Y0,((v+(i:J)) % ?S).toNat<sp.length:=λi=>by
  have l:=Int.emod_nonneg (v+(i:J)) (show ?S≠0 by lia);have I:=Int.emod_lt_of_pos (v+(i:J)) k;have e:?S=sp.length:=by rw[Qqz]
  lia
 have hc:=qxf (it:=.rng1 (.bcall .min [.lit (Z 40),.bcall .len [Yd 3]])) (r:=RL (callD fns (m+1))) (τ:=[Y (scr ns),Y (Z 1),Y ?c,Y (Yc (sp.map spD)),Y (Z v)]) (S:=st) (elt:=.idx (Yd 2) (.bin .Mod (.bin .Add (Yd 1) (Yd 0)) (.bcall .len [Yd 2]))) (sr:=[B,Y 4,Y 3])
  (es:=((List.range n.toNat).map λ(i:Y0)=>sp[((v+(i:J)) % ?S).toNat]?.getD (0,0,0)).map spD) (s:=.rng 0 n.toNat) (S':=st)
  (by
   show((?v).ev _ _ _).bind _=_;rw[g];show(if big n then B else Y (Src.rng 0 n.toNat,st))=_
   rw[Z5 (by unfold big; simp; lia)]) (qx7 0 n.toNat) (by simp[Src.size]) rfl (by simp) (by simp; unfold lim; lia) λi d e hd j=>by
  rw[Qqw]at hd;rw[Qqp,Qqw]at j;obtain⟨x,o,rfl⟩:=Qqa.mp hd;rw[o]at j;cases j;rw[Int.zero_add];have hi:=a x;have l:=Int.emod_nonneg (v+(x:J)) (show ?S≠0 by lia);have c:idxD st (Yc (sp.map spD)) (Z ((v+(x:J)) % ?S))=Y (spD (sp[((v+(x:J)) % ?S).toNat]?.getD (0,0,0))):=by
   show atI (sp.map spD) _=_;unfold atI ixN;rw[Z6 l,Z6 (Int.emod_lt_of_pos _ k),oBs,Qqw,Qqd hi]
   rfl
  have u:=bMo st (v+(x:J)) k;generalize (v+(x:J)) % ?S=y at *;exact qzc 0 [] 1 (λq=>_/\_/\q) [.c (Z y,st),.i (spD (sp[y.toNat]?.getD (0,0,0)))] ⟨u,c,rfl⟩
 refine⟨(List.range n.toNat).map λ(i:Y0)=>sp[((v+(i:J)) % ?S).toNat]?.getD (0,0,0),?_,by simp; lia,λp t=>?_⟩
 ·exact qzz 0 [70,66] 2 (λq=>_/\_/\_/\_/\q) [.c (Y1 st.length,st++[Y4 O (sp.map spD)]),.l (sp.map spD),.c (Z v,st),.c (Y1 st.length,st++[Y4 O (((List.range n.toNat).map λ(i:Y0)=>sp[((v+(i:J)) % ?S).toNat]?.getD (0,0,0)).map spD)])] ⟨b,z,hv,hc,rfl⟩
 ·obtain⟨i,_,rfl⟩:=Qqj.mp t;rw[Qqd (a i)];exact f _ (Qxk _)
end
def fnd_z(cs:L Cl)(n):(cs.map Cl.z).find? (λc=>c.nm==n)=(cs.find? λc=>c.nm==n).map Cl.z:=by
 rw[List.find?_map]
 rfl
def qmi(cs)(d n):stB (cs.map Cl.z) d n=stB cs d n:=by
 unfold stB;rw[fnd_z];cases cs.find? λc=>c.nm==n<;>rfl
def stC_z(cs)(ro)(d):(stC cs ro d).map Cl.z=stC (cs.map Cl.z) ro d:=by
 unfold stC;rw[List.map_filterMap];refine congrArg (λg=>ro.filterMap g) (funext λn=>?_);rw[qmi,fnd_z]
 split<;>rfl
def rkA_z(ps)(gs):rkA ps (gs.map Cl.z)=rkA ps gs:=by
 unfold rkA;rw[Qxw]
 rfl
def rkG_z(ps)(p)(gs):rkG ps p (gs.map Cl.z)=rkG ps p gs:=by
 unfold rkG;rw[Qxw]
 rfl
section
def qc8(h:n ∉ F):stB (zs.filter λc=>kp F c.nm) d n=stB zs d n:=by
 unfold stB;rw[qj8 h]
variable {F:L J}
theorem qi4(zs)(d):∀ro:L J,(ro.filter (kp F)).filter (stB (zs.filter λc=>kp F c.nm) d)=(ro.filter (stB zs d)).filter (kp F)
 |[]=>rfl
 |n::r=>by
  have a:=qi4 zs d r
  cases hk:kp F n with
  |true=>
   rw[Qq5 hk,Qqo,qc8 (kp_t.mp hk),Qqo,a]
   split
   ·rw[Qq5 hk]
   ·rfl
  |false=>
   rw[Qq4 (by rw[hk]; nofun),a,Qqo (p:=stB zs d)]
   split
   ·rw[Qq4 (by rw[hk]; nofun)]
   ·rfl
theorem qc7(zs)(d):∀ro:L J,stC (zs.filter λc=>kp F c.nm) (ro.filter (kp F)) d=(stC zs ro d).filter λc=>kp F c.nm
 |[]=>rfl
 |n::r=>by
  have a:=qc7 zs d r;unfold stC at a ⊢
  cases hk:kp F n with
  |true=>
   rw[Qq5 hk,Qqt,Qqt,a,qc8 (kp_t.mp hk),qj8 (kp_t.mp hk)]
   split<;>rename_i e
   ·rfl
   ·rename_i c;have b:c.nm=n:=by
     split at e
     ·exact eq_of_beq (by simpa using Qxz e)
     ·cases e
    rw[Qq5 (p:=λ(c:Cl)=>kp F c.nm) (by rw[b]; exact hk)]
  |false=>
   rw[Qq4 (by rw[hk]; nofun),a,Qqt]
   split<;>rename_i e
   ·rfl
   ·rename_i c;have b:c.nm=n:=by
     split at e
     ·exact eq_of_beq (by simpa using Qxz e)
     ·cases e
    rw[Qq4 (p:=λ(c:Cl)=>kp F c.nm) (by rw[b,hk]; nofun)]
theorem qde(ps):∀e:L Cl,rkA ps (e.filter λc=>kp F c.nm)=(rkA ps e).filter λp=>kp F p.1
 |[]=>rfl
 |c::r=>by
  have b:=qde ps r;unfold rkA at b ⊢;rw[Qqo,Qqt (a:=c)]
  cases d:hasB c.g ps with
  |true=>
   rw[Z6 rfl];dsimp only;rw[Qqo];dsimp only
   split
   ·rw[Qqt,b,d]; rfl
   ·exact b
  |false=>
   rw[Z5 Qq8];dsimp only
   split
   ·rw[Qqt,b,d]; rfl
   ·exact b
theorem qdd(ps)(q):∀e:L Cl,rkG ps q (e.filter λc=>kp F c.nm)=(rkG ps q e).filter λp=>kp F p.1
 |[]=>rfl
 |c::r=>by
  have d:=qdd ps q r;unfold rkG at d ⊢;rw[Qqo,Qqt (a:=c)]
  cases b:(if hasB c.g ps then B else if inB c.g q then Y (c.nm,"ground") else B) with
  |none=>
   dsimp only
   split
   ·rw[Qqt,d,b]
   ·exact d
  |some u=>
   have f:u=(c.nm,"ground"):=by
    split at b
    ·cases b
    ·split at b
     ·cases b; rfl
     ·cases b
   subst f;dsimp only;rw[Qqo];dsimp only
   split
   ·rw[Qqt,d,b]
   ·exact d
def qes(f:cs.map Cl.z=q.zs)(b:a.map Cl.z=(fil F q).zs)(ps)(p)(d):
  rkA ps (stC a (fil F q).ro d)++rkG ps p (stC a (fil F q).ro d)=(rkA ps (stC cs q.ro d)++rkG ps p (stC cs q.ro d)).filter λu=>kp F u.1:=by
 have e:(stC a (fil F q).ro d).map Cl.z=((stC cs q.ro d).map Cl.z).filter λc=>kp F c.nm:=by
  rw[stC_z,stC_z,f,b];exact qc7 q.zs d q.ro
 rw[<- rkA_z ps (stC a _ d),<- rkG_z ps p (stC a _ d),e,qde,qdd,rkA_z,rkG_z,Qza]
def qc6(c:cs.map Cl.z=q.zs)(b:a.map Cl.z=(fil F q).zs)(d):(fil F q).ro.filter (stB a d)=(q.ro.filter (stB cs d)).filter (kp F):=by
 have f:stB a d=stB (fil F q).zs d:=funext λn=>by rw[<- b,qmi]
 have e:stB cs d=stB q.zs d:=funext λn=>by rw[<- c,qmi]
 rw[f,e];exact qi4 q.zs d q.ro
end
def ql8(N a)(S):up N (up a S)=up (a+N) S:=by
 unfold up;rw[Qqp];refine congrArg (λg=>S.map g) (funext λc=>?_);show mpC _ (mpC _ c)=_;rw[qez];exact congrArg (mpC · c) (funext λl=>Nat.add_assoc l a N)
def qcw(N)(A Bq):up N (A++Bq)=up N A++up N Bq:=Qqm
def qov(ts)(s):ddrop ?y (Z s)=kvD (ts.filter λp=>!(p.1==s)):=by
 unfold ddrop kvD;rw[Qjj]
 rfl
def Kp.fil(K:Kp ts pl)(P:J×Kd->Yb):Kp (ts.filter P) (pl.filter P):=
 ⟨K.perm.filter P,K.up.sublist (List.filter_sublist.map _),Qzh (Qzd _ _) K.len,λp a=>K.day p (Qzn.mp a).1⟩
noncomputable abbrev dC(W H P T:J)(b:Y0):Ya:=.obj 807 [("extent",szD W H P),("year",.int T),("kept",.loc 1),("done",.loc 2),("back",.loc b)]
noncomputable abbrev X2:Y2:=[.lst O [],.lst O [],.lst O []]
section
variable {ts pl:Pk}(K:Kp ts pl){W H P T:J}(hX:∀p∈pl,KdOk W H P p.2){o s:J}{g:Rc4}(hs:(s,Kd.stake o g)∈pl)(j:Y0)(X:Y2)
noncomputable abbrev tsN(ts:Pk)(s:J):Pk:=ts.filter λp=>!(p.1==s)
noncomputable abbrev dnS(ts:Pk)(s:J)(f:D):L D:=ts.map tK++[.tup [sO "strike",.int s,f]]
noncomputable abbrev E2(W H P T:J)(ts:Pk)(s:J)(f:D)(Yq:Y2):Y2:=DS ?c T (kvD (tsN ts s)) (dnS ts s f) 5 (X2++Yq)
noncomputable abbrev S1(W H P T:J)(ts:Pk)(j:Y0)(X:Y2)(E:Y2):Y2:=DS ?c T ?y ?s (j+3) (X++up ?e E)
theorem S1_at{E:Y2}(h:E[i]?=Y c):(S1 W H P T ts j X E)[i+?e]?=Y (mpC (· + ?e) c):=
 qxi (pre:=DS ?c T ?y ?s (j+3) X) (S:=E) rfl h
include K hs
theorem qc0(m):callD fns (m+4) 57 [Y1 ?e,Z s] (S1 W H P T ts j X (TS ?c T ts))=Y (.non,S1 W H P T ts j X ?Y):=by
 have h:=K.day _ hs
 have e:=qc1 (T:=T) (sz:=szD W H P) (b:=4) (X:=[Y4 O [],Y4 O []]) (dn:=ts.map tK) m h.1 h.2 (K.get hs) (by
  have:=K.len;have:=K.perm.length_eq
  rw[Qqz]; unfold lim; lia)
 rw[qov]at e;exact qq8 (m:=m+3) (f:=57) (pre:=DS ?c T ?y ?s (j+3) X) (N:=X.length+3) (es:=[Z s]) rfl rfl rfl rfl e
include hX
theorem two_ok{D:J}(w:1<=W)(v:W<=24)(C:1<=H)(A:H<=24)(p0:0<=P)(p1:P<=12)(y:1<=T)(x:T<=400)(Q:1<=D)(I:D<=400)(m):
  ∃(S R:Y0) (u t:Y2) (q:Ps) (cs a:L Cl) (k l:Y0),
   callD fns (m+9) 62 [Y1 0,Z D] (S1 W H P T ts j X ?Y)=Y (Y1 S,u)/\u[X.length+3]?=Y (mpC (· + ?e) (dC W H P T 5))/\
   callD fns (m+9) 62 [Y1 ?e,Z D] u=Y (Y1 R,t)/\
   (∀Z7,FA (pU S T cs) ?c D (voD q.vs) q.jo cs q.ro (t++Z7))/\(∀Z7,FA (pU R T a) ?c D (voD q.vs) q.jo a (fil (fam pl [s]) q).ro (t++Z7))/\
   cs.map Cl.z=q.zs/\a.map Cl.z=(fil (fam pl [s]) q).zs/\(Pu W H k T D q.vs q.jo cs q.ro/\k<=24)/\Pu W H l T D q.vs q.jo a (fil (fam pl [s]) q).ro/\l<=24:=by
 have K2:=K.fil λp=>!(p.1==s);have r:∀p∈pl.filter (λp=>!(p.1==s)),KdOk W H P p.2:=λp V=>hX p (Qzn.mp V).1;obtain⟨k,cs,rest,e,F,hk⟩:=qa1 (dn:=ts.map tK) (b:=j+3) (X:=X++up ?e ?Y) K hX w v C A p0 p1 y x Q I m;have fp:=qij (T:=T) (D:=D) K.up hs;generalize hst T (pl.filter λp=>decide (p.1<=D)) q0=q at e F fp;have d:(X++up ?e ?Y).length+3=6+?e:=by
  rw[Qql,Qqz];show X.length+6+3=_
  lia
 obtain⟨l,a,c,G,h,n⟩:=qa1 (D:=D) (T:=T) (dn:=dnS ts s (Kd.stake o g).f) (b:=5) (X:=X2++up 6 ?qg) K2 r w v C A p0 p1 y x Q I m;rw[<- fp]at G h;have U:enD W H P T ts ?s (j+3) (X++up ?e ?Y) ?qg=S1 W H P T ts j X (E2 W H P T ts s (Kd.stake o g).f (up 6 ?qg)):=by
  show DS _ _ _ _ _ _=DS _ _ _ _ _ _;rw[d,<- ql8 ?e 6,Qzz,<- qcw]
  rfl
 have e4:=qq8 (m:=m+8) (f:=62) (pre:=DS ?c T ?y ?s (j+3) X) (N:=X.length+3) (es:=[Z D]) rfl rfl rfl rfl G;rw[U,d]at e;have z:DS ?c T ?y ?s (j+3) X++up ?e (enD W H P T (tsN ts s) (dnS ts s (Kd.stake o g).f) 5 (X2++up 6 ?qg) (FQ W H P T D (fil (fam pl [s]) q) a c))=S1 W H P T ts j X ?Y++up (6+?e) ?qg++up ((X2++up 6 ?qg).length+3+?e) (FQ W H P T D (fil (fam pl [s]) q) a c):=by
  show DS ?c T ?y ?s (j+3) X++up ?e ((E2 W H P T ts s (Kd.stake o g).f []++up 6 ?qg)++up ((X2++up 6 ?qg).length+3) (FQ W H P T D (fil (fam pl [s]) q) a c))=_;rw[qcw,qcw,ql8,ql8,<- Qzz,<- Qzz]
  rfl
 refine⟨6+?e,_,_,_,q,cs,a,k,l,e,?_,e4,λZ7=>?_,λZ7=>?_,F.z,h.z,⟨F.pu,hk⟩,h.pu,n⟩
 ·have:=S1_at (W:=W) (H:=H) (P:=P) (T:=T) (ts:=ts) j X (E:=E2 W H P T ts s (Kd.stake o g).f (up 6 ?qg)) (i:=0) rfl;rw[Qzp]at this;exact this
 ·rw[z,Qzz];exact fa_up d F.I F.pu.V F.pu.jv
 ·rw[z];refine fa_up (q:=fil (fam pl [s]) q) ?_ h.I h.pu.V h.pu.jv;rw[Qql,Qqz,Qql,Qqz];have e:(S1 W H P T ts j X ?Y).length=6+?e:=d;rw[e];show _=3+(?qg).length+3+?e
  lia
end
abbrev Hr:=L (J×String)
noncomputable abbrev hrD(R:Hr):D:=.lst (R.map hiD)
noncomputable abbrev flI(F:L J):D:=.lst (F.map .int)
noncomputable def fsD:Hr->D
 |[]=>.non
 |p::_=>.int p.1
def qd6(F)(n)(S)(b:seqAt S q=Y (F.map Z))(a:∀ds,q≠Y9 ds):cmpD S .NotIn (Z n) q=Y (kp F n):=by
 show(inD S (Z n) q).map (!·)=_;rw[in_list F n S b a]
 rfl
noncomputable def gN(F:L J):D->Y3 D
 |.tup (.int n::_)=>if kp F n then Y (D.int n) else B
 |_=>B
def gN_h(F)(u):gN F (hiD u)=if kp F u.1 then Y (D.int u.1) else none:=rfl
section
variable {F:L J}{S:Y2}
def qa9(m)(R)(nm:D->J)(e:(?D).ev τ S it=Y (.lst R,S))(b:inner sr τ=B::a)(hl:R.length<lim)(hc:∀d∈R,(?D).tst (Y d::a) S c=Y (kp F (nm d),S))(f:∀d∈R,(?D).ev (Y d::a) S elt=Y (d,S))(hr:∀τ,src ?D τ S it=((?D).ev τ S it).bind λp=>match p.1 with|.tup ds=>Y (.tup ds,p.2)|d=>(seqAt p.2 d).map λ_=>(.lst d,p.2)):
  stepEv ?D τ S (.comp ?L it (Y c) elt sr)=Y (Y1 S.length,S++[Y4 O (R.filter λd=>kp F (nm d))]):=by
 have h:=qkj (it:=it) (c:=c) (elt:=elt) (sr:=sr) (p:=λd=>kp F (nm d)) (ds:=R) (s:=.lst (.lst R)) id (by rw[hr,e]; rfl) (qqq rfl) (qzn rfl) b hl
  (λi d hd=>hc d (Qqi hd)) (λi d hd _=>f d (Qqi hd))
 rw[Qx3]at h;exact h
def hr_fil(R:Hr):(R.map hiD).filter (λd=>kp F (match d with|Y9 (Z n::_)=>n|_=>0))=(R.filter λu=>kp F u.1).map hiD:=by
 rw[Qjj]
 rfl
def nl_hr(R:Hr):noLocs (R.map hiD)=true:=qzy λ_ _=>rfl
def dq_hr{R:Hr}(h:R.length<100000):Dq 2 (hrD R):=.lst (λd hd=>by
 obtain⟨p,_,rfl⟩:=Qqj.mp hd
 exact .tup (λx a=>by
  rcases Qqb.mp a with rfl|a
  ·exact .int
  ·rw[Qqy.mp a]; exact .str) (by show 2<100000; decide)) (by rw[Qqz]; exact h)
def qbj(m){R:Hr}(hl:R.length<100000):callD fns (m+4) 85 [hrD (R.filter λu=>kp F u.1),hrD R,flI F] S=Y (.bl O,S):=by
 have hc:=qa9 (F:=F) (S:=S) (m+3) (R.map hiD) (λd=>match d with|Y9 (Z n::_)=>n|_=>0) (τ:=[Y (hrD (R.filter λu=>kp F u.1)),Y (hrD R),Y (flI F)]) (it:=Yd 1) (c:=.cmp .NotIn (.idx (Yd 0) (.lit (Z 0))) (Yd 1)) (elt:=Yd 0) (sr:=[B,Y 2]) (qqg _ _ _ _ _ rfl) rfl (by rw[Qqz]; unfold lim; lia)
  (λd hd=>by
   obtain⟨p,_,rfl⟩:=Qqj.mp hd
   exact qzf 0 [] 3 (λq=>_/\q) [.b (kp F p.1)] ⟨qd6 F p.1 S (q:=flI F) rfl nofun,rfl⟩)
  (λd hd=>qqg _ _ _ _ _ rfl) (λ_=>rfl)
 rw[hr_fil]at hc;have g:=qzv (st:=S) (nl_hr (R.filter λu=>kp F u.1));have hs:=qdy (dq_hr (R:=R.filter λu=>kp F u.1) (Qxu (Qzd _ _) hl)) m S;exact qzz 0 [67] 4 (λq=>_/\_/\_/\q) [.c (Y1 S.length,S++[Y4 O ((R.filter λu=>kp F u.1).map hiD)]),.l ((R.filter λu=>kp F u.1).map hiD),.c (.bl O,S)] ⟨hc,g,hs,rfl⟩
def qor(S)(d)(r):idxD S (Yc (d::r)) (Z 0)=Y d:=by
 show atI (d::r) 0=_;unfold atI ixN;rw[Z6 (by decide),Z6 (by rw[Qqh]; lia)]
 rfl
def qgo(m){R:Hr}(h:callD fns (m+5) 37 [Y1 p,Y9 ?T] S=Y q)(g:gcD S q=(hrD R,S)):callD fns (m+6) 39 [Y1 p,Y9 ?T] S=Y (fsD R,S):=by
 cases R with
 |nil=>exact qzz 0 [37] 6 (λq=>_/\_/\_/\q) [.c q,.l [],.b Y6] ⟨h,g,@Eq.refl Yb Y6,rfl⟩
 |cons u r=>exact qzz 0 [37] 6 (λq=>_/\_/\_/\_/\q) [.c q,.l ((u::r).map hiD),.b O,.i (hiD u)] ⟨h,g,@Eq.refl Yb O,qor S (hiD u) (r.map hiD),rfl⟩
def qho(m){R:Hr}(hl:R.length<100000)(f:τ[13]?=Y (Y (hrD R)))(o:τ[7]?=Y (Y (flI F))):stepEv ?D τ S (.comp (.tup [0,1]) (.var 13) (Y (.cmp .NotIn ?L (.var 2))) ?L [B,B,Y 7])=Y (Y1 S.length,S++[Y4 O ((R.filter λu=>kp F u.1).map λu=>Z u.1)]):=by
 obtain⟨s,n,l,j⟩:=qw5 (c:=callD fns m) (st:=S) f rfl
 have h:=qqz (t:=.tup [0,1]) (elt:=.var 0) (test:=Y (.cmp .NotIn ?L (.var 2))) (sr:=[B,B,Y 7]) (gN F) (λτ=>∃a b,τ=[a,b,Y (flI F)]) n l j (by rw[Qqz]; unfold lim; lia) ⟨B,B,by show [B,B,(τ[7]?).bind id]=_; rw[o]; rfl⟩ (λτ d hd g=>by
  obtain⟨a,b,rfl⟩:=g;obtain⟨p,_,rfl⟩:=Qqj.mp hd
  exact⟨[Y (Z p.1),Y (sO p.2),Y (flI F)],turn_if rfl (qzf (k:=m) 0 [] 0 (λq=>_/\q) [.b (kp F p.1)] ⟨qd6 F p.1 S (q:=flI F) rfl nofun,rfl⟩) λ_=>qqg _ _ _ _ _ rfl,Y (Z p.1),Y (sO p.2),rfl⟩)
 have e:(R.map hiD).filterMap (gN F)=(R.filter λu=>kp F u.1).map λu=>Z u.1:=by
  clear h f n l j hl
  induction R with
  |nil=>rfl
  |cons u r i=>
   rw[Qqg,Qqt,gN_h,Qqo]
   cases kp F u.1 with
   |true=>exact congrArg (D.int u.1::·) i
   |false=>exact i
 rw[e]at h;exact h
end
noncomputable abbrev lwT(ns:L J)(W H P T:J)(pl:D)(d:Y3 D)(st s fl:D)(o:Y3 D)(N:Y0)(fs r:Y3 D)(a b c:Y3 D):Sl:=
 [Y (scr ns),Y ?c,Y (.int T),Y pl,d,Y st,Y s,Y fl,o,Y (.loc N),fs,r,a,b,c]
noncomputable abbrev lwB:L M.S:=[.set (.var 13) (.gc (.call 37 [.idx (.var 10) (.lit (.int 0)),.var 12])),.ite (.not (.call 85 [.gc (.call 37 [.idx (.var 10) (.lit (.int 1)),.var 12]),.var 13,.var 7])) [.ret (.lit (.bl Y6))] [],.set (.var 14) (.gc (.bin .Add (.gc (.comp (.tup [0,1]) (.var 13) (Y (.cmp .NotIn ?L (.var 2))) ?L [B,B,Y 7])) (.gc (.lst [.lit .non])))),.ite (.not (.gc (.call 67 [.call 39 [.idx (.var 10) (.lit (.int 1)),.var 12],.idx (.var 14) (.lit (.int 0))]))) [.ret (.lit (.bl Y6))] []]
structure Two (W H P T D:J) (F:L J) (LF N1 N2:Y0) (q:Ps) (cs cs':L Cl) (k k':Y0) (S:Y2):Prop where
 hl:S[LF]?=Y (.lst O [.loc N1,.loc N2])
 A1:FA (pU N1 T cs) (szD W H P) D (voD q.vs) q.jo cs q.ro S
 A2:FA (pU N2 T cs') (szD W H P) D (voD q.vs) q.jo cs' (fil F q).ro S
 z1:cs.map Cl.z=q.zs
 z2:cs'.map Cl.z=(fil F q).zs
 p1:Pu W H k T D q.vs q.jo cs q.ro
 k1:k<=24
 p2:Pu W H k' T D q.vs q.jo cs' (fil F q).ro
 k2:k'<=24
section
variable {W H P T D:J}{F:L J}{LF N1 N2:Y0}{q:Ps}{cs cs':L Cl}{k k':Y0}{S:Y2}
def Two.i1(h:Two W H P T D F LF N1 N2 q cs cs' k k' S):idxD S (Y1 LF) (Z 0)=Y (Y1 N1):=by
 show(seqAt S (Y1 LF)).bind _=_;show(listAt S LF).bind _=_;unfold listAt;rw[h.hl]
 rfl
def Two.i2(h:Two W H P T D F LF N1 N2 q cs cs' k k' S):idxD S (Y1 LF) (Z 1)=Y (Y1 N2):=by
 show(listAt S LF).bind _=_;unfold listAt;rw[h.hl]
 rfl
def Pu.asks(p:Pu W H k T D vs jo cs ro)(hk:k<=24):(cs.map (·.nm)).Nodup/\(∀n∈ro,∃c∈cs,c.nm=n)/\ro.length<1000:=
 ⟨p.up.imp Int.ne_of_lt,p.R.in1,by have:=p.rl; lia⟩
def qmx(m)(h:Two W H P T D F LF N1 N2 q cs cs' k k' S)(hu:InG W H P u):
  ∃b' c',(RL (callD fns (m+9))).ex (lwT ns W H P T pl d st s (flI F) o N (Y (Y1 LF)) r (Y (spD u)) b c) S lwB=Y (.nx (lwT ns W H P T pl d st s (flI F) o N (Y (Y1 LF)) r (Y (spD u)) b' c'),S):=by
 obtain⟨x,y,z⟩:=u;have j:ing W H P x y z=true:=by
  obtain⟨i1,i2,U,Q,K,I⟩:=hu;unfold ing;rw[Z3 i1,Z3 i2,Z3 U,Z3 Q,Z3 K,Z3 I]
  rfl
 have a0:=h.p1.vl;have hk:=h.k1;obtain⟨ps,g⟩:=qh9 (d:=D) h.p1.vn (by lia) h.p1.V h.p1.jv j;obtain⟨C,r1,G⟩:=h.p1.asks h.k1;obtain⟨n,r2,p⟩:=h.p2.asks h.k2;obtain⟨A,c1,g1⟩:=g cs q.ro C r1 G (m+4) _ S h.A1;obtain⟨w,c2,v⟩:=g cs' _ n r2 p (m+4) _ S h.A2;obtain⟨q3,c3,t⟩:=g cs' _ n r2 p (m+3) _ S h.A2;have e:=qes h.z1 h.z2 ps (x,y) D;rw[e]at v t;have l:(rkA ps (stC cs q.ro D)++rkG ps (x,y) (stC cs q.ro D)).length<100000:=by
  have a1:(rkA ps (stC cs q.ro D)).length<=q.ro.length:=Qzh (Qxc _ _) qk8;have a2:(rkG ps (x,y) (stC cs q.ro D)).length<=q.ro.length:=Qzh (Qxc _ _) qk8;have:=h.p1.rl;rw[Qql]
  lia
 generalize rkA ps (stC cs q.ro D)++rkG ps (x,y) (stC cs q.ro D)=R at *;have ht:=qgo (S:=S) (m+3) c3 t;have X:=qbj (F:=F) (S:=S) (m+5) l;have hs:callD fns (m+9) 67 [fsD (R.filter λu=>kp F u.1),fsD (R.filter λu=>kp F u.1)] S=Y (.bl O,S):=by
  cases R.filter λu=>kp F u.1 with
  |nil=>exact qy4 (m+8) S
  |cons u r=>exact same_int (m+8) S u.1
 have i:=qho (F:=F) (S:=S) (m+9) l (τ:=lwT ns W H P T pl d st s (flI F) o N (Y (Y1 LF)) r (Y (spD (x,y,z))) (Y (hrD R)) c) rfl rfl;have a3:(R.filter λu=>kp F u.1).length<100000:=Qxu (Qzd _ _) l;generalize (R.filter λu=>kp F u.1)=f at *;have gn:=qzv (st:=S) (ds:=f.map λu=>M.D.int u.1) (qzy λ_ _=>rfl);have g0:=qzv (st:=S) (ds:=[M.D.non]) rfl;have gf:=qzv (st:=S) (ds:=(f.map λu=>M.D.int u.1)++[M.D.non]) (by rw[qqs,List.all_append,<- qqs,qzy λ_ _=>rfl]; rfl);have E:decide (lim<(f.map λu=>M.D.int u.1).length+[M.D.non].length)=false:=Z4 (by rw[Qqz]; unfold lim; show ¬ _<_+1; lia);have V:idxD S (Yc ((f.map λu=>M.D.int u.1)++[M.D.non])) (Z 0)=Y (fsD f):=by
  cases f with
  |nil=>exact qor S .non []
  |cons u r=>exact qor S (Z u.1) _
 exact⟨Y (hrD R),Y (Yc ((f.map λu=>M.D.int u.1)++[M.D.non])),qze 0 [37,85,67,39] 9 (λq=>_/\_/\_/\_/\_/\_/\_/\_/\_/\_/\_/\_/\_/\_/\_/\_/\_/\q)
  [.i (Y1 N1),.c A,.l (R.map hiD),.i (Y1 N2),.c w,.l (f.map hiD),.c (.bl O,S),.c (Y1 S.length,S++[Y4 O (f.map λu=>M.D.int u.1)]),.l (f.map λu=>M.D.int u.1),.l [M.D.non],.b Y6,.l ((f.map λu=>M.D.int u.1)++[M.D.non]),.i (Y1 N2),.c (fsD f,S),.i (fsD f),.c (.bl O,S),.g]
  ⟨h.i1,c1,g1,h.i2,c2,v,X,i,gn,g0,E,gf,h.i2,ht,V,hs,gS (.bl O) S rfl,rfl⟩⟩
end
noncomputable abbrev stS:M.S:=.ite (.cmp .Eq (.bcall .len [.var 5]) (.lit (.int 0))) [.set (.var 3) (.gc (.bin .Add (.gc (.sli (.var 3) B (Y (.neg (.lit (.int 1)))))) (.gc (.lst [.tup [.lit (.int 400),.tup [.lit (sO "stake"),.lit (.int 3),.lit (.int 0),.lit (.int 0),.lit (.int 0),.lit (.int 0)]]])))),.set (.var 5) (.gc (.lst [.lit (.int 400)]))] []
noncomputable abbrev t5(ns:L J)(W H P T:J)(pl st:D):Sl:=[Y (scr ns),Y ?c,Y (.int T),Y pl,B,Y st,B,B,B,B,B,B,B,B,B]
noncomputable abbrev cpS:E:=.comp (.tup [0,1]) (.var 3) (Y (.cmp .Eq (.idx (.var 1) (.lit (.int 0))) (.lit (sO "stake")))) ?L [B,B]
noncomputable abbrev cpF:E:=.comp ?L (.var 11) (Y (.cmp .NotIn ?L (.var 1))) ?L [B,Y 7]
noncomputable abbrev frS:M.S:=.forr (.var 12) (.gc (.call 84 [.var 0,.lit (.int 1),.var 1])) lwB
section
variable {ns:L J}{W H P T v y1 y2 y s D:J}{PL0 PL ST0 PL' ST FL TL r1 r2:L M.D}{S0 S1 S2 S3 S4:Y2}{N N1 N2 b:Y0}{cs cs':L Cl}{τ':Sl}
def qm1(m)(R:callD fns (m+9) 68 [scr ns,Z 0] []=Y (szD W H P,[]))(Q:callD fns (m+9) 69 [scr ns,Z 0] []=Y (Z T,[]))(K:callD fns (m+9) 66 [scr ns,Z 0,Z 20,Z 25] []=Y (Z v,[]))(I:callD fns (m+9) 79 [scr ns,Z 1,szD W H P,Z v] []=Y (Y1 0,[Y4 O PL0]))(G:gcD [] (Y1 0,[Ya.lst O PL0])=(Yc PL,[]))(F:stepEv (RL (callD fns (m+9))) [Y (scr ns),Y ?c,Y (Z T),Y (Yc PL),B,B,B,B,B,B,B,B,B,B,B] [] cpS=Y (Y1 0,[Y4 O ST0]))(E:gcD [] (Y1 0,[Ya.lst O ST0])=(Yc ST0,[]))(C:stepEx (RL (callD fns (m+9))) (t5 ns W H P T (Yc PL) (Yc ST0)) [] stS=Y (.nx (t5 ns W H P T (Yc PL') (Yc ST)),[]))(b1:callD fns (m+9) 66 [scr ns,Z 0,Z 21,Z ST.length] []=Y (Z y1,[]))(b2:callD fns (m+9) 66 [scr ns,Z 0,Z 22,Z 2] []=Y (Z y2,[]))(b3:binop [] .FloorDiv (Z y1) (Z (1+y2))=Y (Z y,[]))(b4:idxD [] (Yc ST) (Z y)=Y (Z s))(c1:callD fns (m+9) 83 [Yc PL',Z s] []=Y (Y1 0,[Y4 O FL]))(c2:gcD [] (Y1 0,[Ya.lst O FL])=(Yc FL,[]))(c3:callD fns (m+9) 82 [scr ns,Z 1,Yc PL'] []=Y (Y1 1,[Y4 O [],Y4 O TL]))(c4:gcD [] (Y1 1,[Ya.lst O [],Y4 O TL])=(Yc TL,[]))(c5:callD fns (m+9) 81 [szD W H P,Z T,Yc TL] []=Y (Y1 0,S0))(A:S0[0]?=Y (dC W H P T b))(z:callD fns (m+9) 65 [Y1 0] S0=Y (Y1 N,S1))(x:S1[N]?=Y (mpC (· + N) (dC W H P T 4)))(w:callD fns (m+9) 57 [Y1 N,Z s] S1=Y (.non,S2))(u:callD fns (m+9) 80 [scr ns,Z 1,Yc PL'] S2=Y (Z D,S2))(t:S2[0]?=Y (dC W H P T b))(r:callD fns (m+9) 62 [Y1 0,Z D] S2=Y (Y1 N1,S3))(p:S3[N]?=Y (mpC (· + N) (dC W H P T 5)))(o:callD fns (m+9) 62 [Y1 N,Z D] S3=Y (Y1 N2,S4))(n:idxD (S4++?o) (Y1 S4.length) (Z 0)=Y (Y1 N1))(l:(S4++?o)[N1]?=Y ((pU N1 T cs).fc ?c D))(k:callD fns (m+9) 54 [Y1 N1] (S4++?o)=Y (Y1 (S4++[Ya.lst O [Y1 N1,Y1 N2]]).length,S4++?o++[Y4 O r1]))(j:gcD (S4++?o) (Y1 (S4++[Ya.lst O [Y1 N1,Y1 N2]]).length,S4++?o++[Y4 O r1])=(Yc r1,S4++?o))(i:idxD (S4++?o) (Y1 S4.length) (Z 1)=Y (Y1 N2))(h:(S4++?o)[N2]?=Y ((pU N2 T cs').fc ?c D))(g:callD fns (m+9) 54 [Y1 N2] (S4++?o)=Y ?Z)(a:gcD (S4++?o) ?Z=(Yc r2,S4++?o))(f:stepEv (RL (callD fns (m+9))) (lwT ns W H P T (Yc PL') (Y (Z D)) (Yc ST) (Z s) (Yc FL) (Y (Y1 0)) N (Y (Y1 S4.length)) (Y (Yc r1)) B B B) (S4++?o) cpF=Y ?Z)(e:callD fns (m+9) 67 [Yc r2,Yc r2] (S4++?o)=Y (.bl O,S4++?o))(d:stepEx (RL (callD fns (m+9))) (lwT ns W H P T (Yc PL') (Y (Z D)) (Yc ST) (Z s) (Yc FL) (Y (Y1 0)) N (Y (Y1 S4.length)) (Y (Yc r1)) B B B) (S4++?o) frS=Y (.nx τ',S4++?o)):
  callD fns (m+10) 86 [scr ns] []=Y (.bl O,S4++?o):=by
 have c:=gS (.bl O) (S4++?o) rfl;exact qzz 0 [68,69,66,79,83,82,81,65,57,80,62,54,67] 10 (λq=>_/\_/\_/\_/\_/\_/\_/\_/\_/\_/\_/\_/\_/\_/\_/\_/\_/\_/\_/\_/\_/\_/\_/\_/\_/\_/\_/\_/\_/\_/\_/\_/\_/\_/\_/\_/\_/\_/\_/\q)
  [.c (szD W H P,[]),.c (Z T,[]),.c (Z v,[]),.c (Y1 0,[Y4 O PL0]),.l PL,.c (Y1 0,[Y4 O ST0]),.l ST0,.t (.nx (t5 ns W H P T (Yc PL') (Yc ST)),[]),.c (Z y1,[]),.c (Z y2,[]),.c (Z y,[]),.i (Z s),.c (Y1 0,[Y4 O FL]),.l FL,.c (Y1 1,[Y4 O [],Y4 O TL]),.l TL,.c (Y1 0,S0),.r (dC W H P T b),.c (Y1 N,S1),.r (mpC (· + N) (dC W H P T 4)),.c (.non,S2),.c (Z D,S2),.r (dC W H P T b),.c (Y1 N1,S3),.r (mpC (· + N) (dC W H P T 5)),.c (Y1 N2,S4),.i (Y1 N1),.r ((pU N1 T cs).fc ?c D),.c (Y1 (S4++[Ya.lst O [Y1 N1,Y1 N2]]).length,S4++?o++[Y4 O r1]),.l r1,.i (Y1 N2),.r ((pU N2 T cs').fc ?c D),.c ?Z,.l r2,.c ?Z,.l r2,.c (.bl O,S4++?o),.g,.s (.nx τ',S4++?o)]
  ⟨R,Q,K,I,G,F,E,C,b1,b2,b3,b4,c1,c2,c3,c4,c5,A,z,x,w,u,t,r,p,o,n,l,k,j,i,h,g,a,f,a,e,c,d,rfl⟩
end
theorem pk_of:∀{l},(∀p∈l,DF W H P p.2)->∃pl:Pk,l=pl.map (λp=>(p.1,p.2.f))/\∀p∈pl,KdOk W H P p.2
 |[],_=>⟨[],rfl,Qqu _⟩
 |a::r,h=>by
  obtain⟨pl,e,q⟩:=pk_of (l:=r) λp b=>h p (.tail _ b);obtain⟨k,hk,ok⟩:=kd_of (h a (.head _));exact⟨(a.1,k)::pl,by rw[Qqg,<- e,hk],Qjq.mpr ⟨ok,q⟩⟩
def wst(h:KdOk W H P k)(e:wIs k.f ["stake"]=O):∃o g,k=.stake o g:=by
 cases k with
 |vein s ps=>cases e
 |join a b f=>cases e
 |stake o g=>exact⟨o,g,rfl⟩
 |clm f=>
  have hc:CF' f:=h.2;cases hc<;>cases e
def t_st(m)(S)(p:J×D)(h:DF W H P p.2):(?D).tst [Y (Z p.1),Y p.2] S (.cmp .Eq (.idx (Yd 1) (.lit (Z 0))) (.lit (sO "stake")))=Y (wIs p.2 ["stake"],S):=by
 obtain⟨x,f⟩:=p
 cases h with
 |vein=>exact qzf 0 [] 0 (λq=>q) [] rfl
 |join=>exact qzf 0 [] 0 (λq=>q) [] rfl
 |stake=>exact qzf 0 [] 0 (λq=>q) [] rfl
 |claim h _=>cases h<;>exact qzf 0 [] 0 (λq=>q) [] rfl
def pk_D(pl:Pk):(pl.map λp=>(p.1,p.2.f)).map pD=pl.map pK:=by rw[Qqp]; rfl
structure Plan (W H P:J) (pl:Pk):Prop where
 up:(pl.map (·.1)).Pairwise (· < ·)
 len:pl.length<=24
 day:∀p∈pl,1<=p.1/\p.1<=400
 ok:∀p∈pl,KdOk W H P p.2
def Plan.nl(h:Plan W H P pl):noLocs ?B=true:=qzy λp a=>by
 show(O&&(noLoc p.2.f&&O))=O;rw[DF.noLoc (h.ok p a).1]
 rfl
def qg2{T:J}(G:1<=W)(I:1<=H)(h:Plan W H P pl)(A:∀p∈pl,p.1<=360)(m)(j:i=dys (pl.map λp=>(p.1,p.2.f)) ["stake"]):
  ∃(pl':Pk) (st:L J),stepEx (RL (callD fns (m+9))) (t5 ns W H P T (Yc ?B) (Yc (i.map Z))) [] stS=Y (.nx (t5 ns W H P T (Yc (pl'.map pK)) (Yc (st.map Z))),[])/\Plan W H P pl'/\st≠[]/\st.length<1000/\∀s∈st,∃o g,(s,Kd.stake o g)∈pl':=by
 have hl:=h.len
 cases hs:i with
 |cons a r=>
  rw[<- hs];have hb:(((i.map D.int).length:J)==0)=false:=beq_eq_false_iff_ne.mpr (by rw[hs,Qqz,Qqh]; lia);refine⟨pl,i,qak (qxc 0 [] 9 (λq=>_/\q) [.b Y6] ⟨hb,rfl⟩),h,by rw[hs]; nofun,?_,λs l=>?_⟩
  ·rw[j];unfold dys;rw[Qqz];have:=Qzd (λp:J×D=>wIs p.2 ["stake"]) (pl.map λp=>(p.1,p.2.f));rw[Qqz]at this
   lia
  ·rw[j]at l;obtain⟨p,c,rfl⟩:=Qqj.mp l;obtain⟨c,x⟩:=Qzn.mp c;obtain⟨u,n,rfl⟩:=Qqj.mp c;obtain⟨o,g,e⟩:=wst (h.ok u n) x;exact⟨o,g,by rw[<- e]; exact n⟩
 |nil=>
  have f:cut ?B B (Y (-1))=(pl.take (pl.length - 1)).map pK:=by
   unfold cut cutIx;dsimp only;rw[Z6 (by decide),Qj1,Qkx,List.map_take,Qqz]
   congr 1
   lia
  have d:∀p∈pl.take (pl.length - 1),p∈pl:=λp c=>Qjt c;have k:Plan W H P (pl.take (pl.length - 1)++[(400,.stake 3 (0,0,0,0))]):=by
   refine⟨?_,?_,λp c=>?_,λp c=>?_⟩
   ·rw[Qqm,Qx9];refine⟨h.up.sublist ((Qxn _ _).map _),Qjy ..,λa y b hb=>?_⟩;obtain⟨p,c,rfl⟩:=Qqj.mp y;have:=A p (d p c);rw[Qqy.mp hb];show p.1<400
    lia
   ·rw[Qql,Qq9];show min (pl.length - 1) pl.length+1<=24;rcases Nat.eq_zero_or_pos pl.length with z|z
    ·rw[z]; decide
    ·lia
   ·rcases Qqr.mp c with c|c
    ·exact h.day p (d p c)
    ·rw[Qqy.mp c]; exact⟨by decide,by decide⟩
   ·rcases Qqr.mp c with c|c
    ·exact h.ok p (d p c)
    ·rw[Qqy.mp c];exact⟨.stake (o:=3) (g:=(0,0,0,0)) (by decide) (by decide) (by decide) (by decide) (by show(0:J)<W; lia) (by decide) (by decide) (by show(0:J)<H; lia),trivial⟩
  have v:=qzv (st:=[]) (ds:=(pl.take (pl.length - 1)).map pK) (Plan.nl ⟨h.up.sublist ((Qxn _ _).map _),by rw[Qq9]; lia,λp c=>h.day p (d p c),λp c=>h.ok p (d p c)⟩);rw[<- f]at v;have E:=qzv (st:=[]) (ds:=[pK (400,.stake 3 (0,0,0,0))]) rfl;have t:=qzv (st:=[]) k.nl;have F:(pl.take (pl.length - 1)++[(400,Kd.stake 3 (0,0,0,0))]).map pK=cut ?B B (Y (-1))++[pK (400,.stake 3 (0,0,0,0))]:=by rw[Qqm,f]; rfl
  have C:=qzv (st:=[]) (ds:=[D.int 400]) rfl
  have w:decide (lim<(cut ?B B (Y (-1))).length+[pK (400,Kd.stake 3 (0,0,0,0))].length)=false:=Z4 (by
   rw[f,Qqz,Qq9];show ¬ _<_+1
   unfold lim; lia)
  have hb:((([]:L D).length:J)==0)=true:=rfl;refine⟨pl.take (pl.length - 1)++[(400,.stake 3 (0,0,0,0))],[400],?_,k,nofun,by decide,λs l=>?_⟩
  ·rw[F]at t ⊢;exact qak (qxc 0 [] 9 (λq=>_/\_/\_/\_/\_/\_/\q) [.b O,.l (cut ?B B (Y (-1))),.l [pK (400,.stake 3 (0,0,0,0))],.b Y6,.l (cut ?B B (Y (-1))++[pK (400,.stake 3 (0,0,0,0))]),.l [D.int 400]] ⟨hb,v,E,w,t,C,rfl⟩)
  ·rw[Qqy.mp l];exact⟨3,(0,0,0,0),Qqn _ (.head _)⟩
def qbb{W H P T D:J}{F:L J}{f K I:Y0}{q:Ps}{cs p:L Cl}{k z:Y0}{S:Y2}{ns:L J}(C:ns.length<=63)(y:1<=W)(w:W<=24)(G:1<=H)(E:H<=24)(p0:0<=P)(p1:P<=12)(m:Y0)(h:Two W H P T D F f K I q cs p k z S){pl st s:M.D}{o d r:Y3 M.D}{N:Y0}:
  ∃τ',stepEx (RL (callD fns (m+9))) (lwT ns W H P T pl d st s (flI F) o N (Y (Y1 f)) r B B B) S frS=Y (.nx τ',S):=by
 obtain⟨fd,j,Q,n⟩:=qmn C y w G E p0 p1 (m+7) S;have g:=qzv (st:=S) (ds:=fd.map spD) (qzy λ_ _=>rfl);have l:(RL (callD fns (m+9))).ev (lwT ns W H P T pl d st s (flI F) o N (Y (Y1 f)) r B B B) S (.gc (.call 84 [.var 0,.lit (Z 1),.var 1]))=Y (.lst (fd.map spD),S):=
  qzc 0 [84] 9 (λq=>_/\_/\q) [.c (Y1 S.length,S++[Y4 O (fd.map spD)]),.l (fd.map spD)] ⟨j,g,rfl⟩
 obtain⟨τ',st',hf,a,b,c,rfl,rfl⟩:=qqw (c:=callD fns (m+9)) (τ:=lwT ns W H P T pl d st s (flI F) o N (Y (Y1 f)) r B B B) (st:=S) (it:=.gc (.call 84 [.var 0,.lit (Z 1),.var 1])) (s:=.lst (.lst (fd.map spD))) (ds:=fd.map spD) (t:=.var 12) (body:=lwB)
  (λi τ' st'=>∃a b c:Y3 M.D,τ'=lwT ns W H P T pl d st s (flI F) o N (Y (Y1 f)) r a b c/\st'=S)
  (by show((RL (callD fns (m+9))).ev _ _ _).bind _=_; rw[l]; rfl) (qzn rfl) (λk τ' st' _=>qqq rfl k) ⟨B,B,B,rfl,rfl⟩ (λi τ' st' x v A=>by
   obtain⟨a,b,c,rfl,rfl⟩:=A;rw[Qqw]at v;obtain⟨u,hi,rfl⟩:=Qqa.mp v;obtain⟨b',R,e⟩:=qmx (b:=b) (c:=c) (ns:=ns) (pl:=pl) (st:=st) (s:=s) (o:=o) (d:=d) (r:=r) (N:=N) m h (n u (Qqi hi))
   exact⟨_,_,e,_,_,_,rfl,rfl⟩)
 exact⟨_,hf⟩
def law_ok(m):∀ns:L J,ns.length<=63->∃st',callD fns (m+10) 86 [.lst (ns.map Z)] []=Y (.bl O,st'):=λns hn=>by
 obtain⟨W,H,P,a1,w1,w2,h1,h2,p0,p1,_⟩:=qmp hn (m+7) [] 0;obtain⟨T,a0,R,I⟩:=qma hn (m+7) [] 0;obtain⟨v,hv,v1,v2⟩:=dr hn (m+8) [] 0 20 (many:=25) (by decide) (by decide) (by decide);obtain⟨a9,A,C,f,z⟩:=qnw hn w1 w2 h1 h2 p0 p1 (m+4) [] 1 (many:=v) (by decide) (by decide) (by lia) (by lia);obtain⟨pl1,rfl,hok⟩:=pk_of (W:=W) (H:=H) (P:=P) λp e=>(f p e).1;rw[Qqz]at C;have Pl:Plan W H P pl1:=⟨by rw[Qqp]at z; exact z,by lia,λp e=>by have:=f _ (Qqj.mpr ⟨p,e,rfl⟩); exact⟨this.2.1,by have:=this.2.2; show p.1<=400; lia⟩,hok⟩
 have a6:=qff (W:=W) (H:=H) (P:=P) (m+9) (S:=[]) (q0:=.lst (pl1.map pK)) (τ:=[Y (scr ns),Y ?c,Y (Z T),Y (.lst (pl1.map pK)),B,B,B,B,B,B,B,B,B,B,B]) (q:=.cmp .Eq (.idx (.var 1) (.lit (Z 0))) (.lit (sO "stake"))) (pl:=pl1.map λp=>(p.1,p.2.f)) (by rw[pk_D]; rfl) ["stake"] (λp e=>(f p e).1) (by rw[Qqz]; have:=Pl.len; lia) rfl (λp h=>t_st (m+9) [] p h);obtain⟨pl,st,a8,Q,U,sl,V⟩:=qg2 (T:=T) (ns:=ns) w1 h1 Pl (λp e=>(f _ (Qqj.mpr ⟨p,e,rfl⟩)).2.2) m rfl;generalize dys (pl1.map λp=>(p.1,p.2.f)) ["stake"]=ss at *;have a7:=qzv (st:=[]) (nlI ss);have a5:=qzv (st:=[]) Pl.nl;have a2:0<st.length:=Qxs.mpr U;obtain⟨y1,b1,w,G⟩:=dr hn (m+8) [] 0 21 (many:=(st.map D.int).length) (by decide) (by decide) (by rw[Qqz]; lia);obtain⟨y2,b2,a4,a3⟩:=dr hn (m+8) [] 0 22 (many:=2) (by decide) (by decide) (by decide);rw[Qqz]at G;have b3:=bDi [] y1 (b:=1+y2) (by lia) (by lia);have z0:0<=y1 / (1+y2):=Int.ediv_nonneg w (by lia);have z1:y1 / (1+y2)<=y1:=Int.ediv_le_self _ w;generalize y1 / (1+y2)=y at *;have x:y.toNat<st.length:=by lia
 have b4:idxD [] (.lst (st.map D.int)) (Z y)=Y (Z st[y.toNat]):=by
  show atI (st.map D.int) y=_;unfold atI ixN;rw[Z6 z0,Z6 (by rw[Qqz]; lia),oBs,Qqw,Qqd x]
  rfl
 obtain⟨o,g,hs⟩:=V _ (Qxk x);generalize st[y.toNat]=s at *;have c1:=qe7 Q.ok Q.len s (m+8);have c2:=qzv (st:=[]) (nlI (fam pl [s]));obtain⟨ts,a,c3⟩:=qca hn Q.len Q.nl (m+7) 1;have K:Kp ts pl:=⟨a,Q.up,Q.len,Q.day⟩
 have c4:=qou (st:=[]) (ex:=[Y4 O [],Y4 O (ts.map pK)]) (i:=1) rfl (qzy λp e=>by
  show(O&&(noLoc p.2.f&&O))=O;rw[DF.noLoc (Q.ok p (a.mem_iff.mp e)).1]
  rfl)
 obtain⟨j,X,c5,hj⟩:=qiy (T:=T) K Q.ok w1 w2 h1 h2 p0 p1 R I (m+1);have d2:=qmz (T:=T) K Q.ok w1 w2 h1 h2 p0 p1 R I hj m;have d3:=S1_at (W:=W) (H:=H) (P:=P) (T:=T) (ts:=ts) j X (E:=TS ?c T ts) (i:=0) rfl;rw[Qzp]at d3;have d4:=qc0 (W:=W) (H:=H) (P:=P) (T:=T) K hs j X (m+5);obtain⟨D,d5,D1,D2⟩:=end_ok hn (m+7) (S1 W H P T ts j X ?Y) Q.day;obtain⟨N1,N2,S3,S4,q,cs,cs',k,k',d7,d8,d9,A1,A2,u,t,⟨P1,k1⟩,P2,k2⟩:=two_ok (T:=T) K Q.ok hs j X w1 w2 h1 h2 p0 p1 R I D1 D2 m;have A1:=A1 ?o;have A2:=A2 ?o;have TT:Two W H P T D (fam pl [s]) S4.length N1 N2 q cs cs' k k' (S4++?o):=⟨gl,A1,A2,u,t,P1,k1,P2,k2⟩
 obtain⟨n1,r1,l1⟩:=P1.asks k1;obtain⟨n2,r2,l2⟩:=P2.asks k2;have e3:=qk7 (m+6) A1 n1 r1 l1;have e7:=qk7 (m+6) A2 n2 r2 l2;have sf:=qc6 u t D;rw[sf]at e7;have b0:(q.ro.filter (stB cs D)).length<1000:=Qxu (Qzd _ _) l1;generalize q.ro.filter (stB cs D)=l at *;have e4:=qzv (st:=S4++?o) (nlI l);have e8:=qzv (st:=S4++?o) (nlI (l.filter (kp (fam pl [s]))));have e9:=qa9 (F:=fam pl [s]) (S:=S4++?o) (m+9) (rowD l) (λd=>match d with|Z n=>n|_=>0) (τ:=lwT ns W H P T (.lst ?B) (Y (Z D)) (.lst (st.map Z)) (Z s) (flI (fam pl [s])) (Y (Y1 0)) ?e (Y (Y1 S4.length)) (Y (.lst (rowD l))) B B B) (it:=.var 11) (c:=.cmp .NotIn ?L (.var 1)) (elt:=.var 0) (sr:=[B,Y 7]) (qqg _ _ _ _ _ rfl) rfl (by rw[Qqz]; unfold lim; lia)
  (λd hd=>by
   obtain⟨n,_,rfl⟩:=Qqj.mp hd
   exact qzf 0 [] 9 (λq=>_/\q) [.b (kp (fam pl [s]) n)] ⟨qd6 (fam pl [s]) n (S4++?o) (q:=flI (fam pl [s])) rfl nofun,rfl⟩)
  (λd hd=>qqg _ _ _ _ _ rfl) (λ_=>rfl)
 have er:(rowD l).filter (λd=>kp (fam pl [s]) (match d with|Z n=>n|_=>0))=rowD (l.filter (kp (fam pl [s]))):=by
  rw[Qjj]
  rfl
 rw[er]at e9
 have g1:=qdy (.lst (k:=0) (ds:=rowD (l.filter (kp (fam pl [s])))) (λd hd=>by obtain⟨n,_,rfl⟩:=Qqj.mp hd; exact .int) (by
  have:=Qzd (kp (fam pl [s])) l
  rw[Qqz]; lia)) (m+7) (S4++?o)
 obtain⟨τ',g2⟩:=qbb (pl:=.lst ?B) (st:=.lst (st.map Z)) (s:=Z s) (o:=Y (Y1 0)) (d:=Y (Z D)) (r:=Y (.lst (rowD l))) (N:=X.length+3) hn w1 w2 h1 h2 p0 p1 m TT;rw[pk_D]at A;exact⟨_,qm1 m a1 a0 hv A a5 a6 a7 a8 b1 b2 b3 b4 c1 c2 c3 c4 c5 rfl d2 d3 d4 d5 rfl d7 d8 d9 TT.i1 A1.hf e3 e4 TT.i2 A2.hf e7 e8 e9 g1 g2⟩
end K50
end
namespace K50
open PySem PySem.Spec PyProof.Rows L2 MS
open M (D Ya Y2 Sl E S T Src Fn Out R)
def ar0{P:L Y8->Prop}(h:P []):∀us:L Y8,us.length=0->P us:=λus e=>by
 cases us with
 |nil=>exact h
 |cons a r=>cases e
def arS{P:L Y8->Prop}(h:∀a,∀us:L Y8,us.length=n->P (a::us)):∀us:L Y8,us.length=n+1->P us:=λus e=>by
 cases us with
 |nil=>cases e
 |cons a r=>exact h a r (Nat.succ.inj e)
def bs:∀r∈tab,Bd r:=by
 repeat' first|exact Qqu _|refine Qjq.mpr ⟨?_,?_⟩
 all_goals first|exact λ_ _ _ _ _ _=>arS λ_=>ar0 rfl|exact λ_ _ _ _ _ _=>arS λ_=>arS λ_=>ar0 rfl|exact λ_ _ _ _ _ _=>arS λ_=>arS λ_=>arS λ_=>ar0 rfl|exact λ_ _ _ _ _ _=>arS λ_=>arS λ_=>arS λ_=>arS λ_=>ar0 rfl|exact λ_ _ _ _ _ _=>arS λ_=>arS λ_=>arS λ_=>arS λ_=>arS λ_=>ar0 rfl
end K50
open PySem PySem.W PyProof.Rows
set_option maxRecDepth 100000 in
set_option maxHeartbeats 0 in
theorem PySem.Challenge.cw_dipright_k50_whole_a_stake_struck_out_holds : PySem.Challenge.rw_dipright_k50_whole_a_stake_struck_out.Holds := by
 w_on; o_law
 refine holds_open (XP:=XL (K50.vw PZW) []) (YP:=InK K50.KF) K50.left (InK.of (λ_=>by kernel_rfl)) InK.keeps (λs e=>xl_of s (Bool.and_eq_true_iff.mp e).1) XL.keeps (by rfl) (by rfl) (by rfl) (λs e=>recFacts_of (Bool.and_eq_true_iff.mp e).2) (by rfl) (by assumption) (by decide +kernel) ⟨rfl,rfl,rfl,rfl,rfl,by decide +kernel⟩ ?hw ?hc
 (case hw=>w_witness2)
 refine MS.walk_law (l:=RZW) (K:=K50.KH) (k:=2*20) (x:="_law_script") rfl rfl ⟨rfl,by decide,by decide⟩ (λw h Yq=>Yq) ?F
 case F=>
  intro w mg fa h KX G hmg
  k_fill
  refine MS.law_mk (t:=K50.tab) (glo:=K50.glo) (i:=86) (n:=19) KX G hmg rfl rfl rfl K50.bs (by decide +kernel) (K50.law_ok 10) ?_ ?_ ?_ ?_ ?_ ?_
  all_goals repeat' first|exact Qqu _|refine Qjq.mpr ⟨?_,?_⟩|apply MS.RwK.fn|apply MS.RwK.me|apply MS.ClK.mk|apply MS.GlK.mk|apply MS.GdK.mk|exact MS.vNil|exact MS.eNil|apply MS.vCons|apply MS.eCons|apply MS.vTup
  all_goals try dsimp only
  all_goals first|exact MS.vInt|exact MS.vStr|k_is|rfl

