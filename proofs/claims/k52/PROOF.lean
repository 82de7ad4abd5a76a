import PyProof.Rows.All
import KE.KSortedM
import KE.KDictList
import KE.KIsAll
import KE.KRevIter
import KE.LcSums
import KE.KDictOf
import PyProof.AttrMissHeap
import PySem.Challenge.RW_dipright_k52_whole_a_vein_told_late
set_option Elab.async false
set_option backward.eqns.nonrecursive false
set_option genInjectivity false
set_option genSizeOf false
set_option bootstrap.genMatcherCode false
set_option linter.all false
set_option maxRecDepth 100000
set_option maxHeartbeats 4000000
set_option hygiene false
set_option hygiene false
local macro_rules|`(?v)=>`(model X.prog X.w)
local macro_rules|`(?w)=>`(szD W H P)
local macro_rules|`(?y)=>`(ps.map cD)
local macro_rules|`(?z)=>`(FC sz T d fo jo cs ro rest)
local macro_rules|`(?A)=>`(model prog w)
local macro_rules|`(?B)=>`(r.ev τ st a)
local macro_rules|`(?C)=>`(h.ev τ st a)
local macro_rules|`(?D)=>`([sO "stake",O o,O g.1,O g.2.1,O g.2.2.1,O g.2.2.2])
local macro_rules|`(?E)=>`(intKind prog w)
local macro_rules|`(?G)=>`(M.rn fns dl n)
local macro_rules|`(?H)=>`(ss.map O)
local macro_rules|`(?I)=>`(RL (callD fns (m+1)))
local macro_rules|`(?J)=>`(RL (callD fns (m+9)))
local macro_rules|`(?K)=>`(.var 0)
local macro_rules|`(?L)=>`(RL (callD fns (k+d)))
local macro_rules|`(?M)=>`(RL (callD fns m))
local macro_rules|`(?N)=>`(Sub.refl m)
local macro_rules|`(?O)=>`(s.heap.objs.size+1)
local macro_rules|`(?R)=>`(Y3 st.length)
local macro_rules|`(?S)=>`((tA++[(late,Kd.vein (Y9 ?H) ps)]))
local macro_rules|`(?T)=>`(A.e c X G a R ha)
local macro_rules|`(?U)=>`(pl.map pK)
local macro_rules|`(?V)=>`(Y3 S.length)
local macro_rules|`(?W)=>`(r.ev τ p.2 b)
local macro_rules|`(?X)=>`(b1.trans (b2.trans b3))
local macro_rules|`(?Y)=>`((x==("__debug__" : Y4)))
local macro_rules|`(?Z)=>`(.ref s.heap.objs.size)
local macro_rules|`(?qa)=>`(((sp.map spD).length:J))
local macro_rules|`(?qb)=>`([Y (.lst (sgD gs)),Y (.lst ?y),Y (.tup [O x,O y,O z]),Y ?R,Y (Y3 (st++[Ya.lst L []]).length),Y (O c.nm),Y (rD c.g)])
local macro_rules|`(?qc)=>`(qzi X N scope Cc fp s H)
local macro_rules|`(?qd)=>`((.bin .Add (.lit (O 1)) (.call 61 [.var 0,.var 1,.bin .Add (.var 2) (.lit (O 3)),.idx (.gc (.lst [.lit (O 16),.lit (O 4),.lit (O 4),.lit (O 4)])) (.call 61 [.var 0,.var 1,.bin .Add (.var 2) (.lit (O 2)),.lit (O 4)])])))
local macro_rules|`(?qe)=>`(r.ev τ st e)
local macro_rules|`(?qf)=>`((items.toList.drop (sIx items.size 0 b)).take (sIx items.size items.size c - sIx items.size 0 b))
local macro_rules|`(?qg)=>`(voD vs)
local macro_rules|`(?qh)=>`(vst day ps)
local macro_rules|`(?qi)=>`(Y5×Obj)
local macro_rules|`(?qj)=>`((A++[q]).map cD)
local macro_rules|`(?qk)=>`(.var 3)
local macro_rules|`(?ql)=>`(A.e c X G b pb hb)
local macro_rules|`(?qm)=>`([.dic L (bD W H P)])
local macro_rules|`(?qn)=>`(.var 1)
local macro_rules|`(?qo)=>`(RL (callD fns (m+2)))
local macro_rules|`(?qp)=>`(gB st (.dic L (bD W H P)))
local macro_rules|`(?qq)=>`([O x,O y,O z])
local macro_rules|`(?qr)=>`(v.2.2.map cD)
local macro_rules|`(?qs)=>`(b1.trans b2)
local macro_rules|`(?qt)=>`((A.under (.builtin "type.__call__" ⟨.ref C::us,a⟩)))
local macro_rules|`(?qu)=>`(.inl rfl)
local macro_rules|`(?qv)=>`([Y8 L []])
local macro_rules|`(?qw)=>`(Tr.of_same sm)
local macro_rules|`(?qx)=>`(.lit (.int 1))
local macro_rules|`(?qy)=>`(.frz o (.dK xs))
local macro_rules|`(?qz)=>`(leap m p.i p.perturb)
local macro_rules|`(?q0)=>`(RL (callD fns (m+3)))
local macro_rules|`(?q1)=>`(S.length+2)
local macro_rules|`(?q2)=>`(X.length+3)
local macro_rules|`(?q3)=>`(G.no rfl)
local macro_rules|`(?q4)=>`(mixKind P w)
local macro_rules|`(?q5)=>`(backTo pos (starEach es X.env))
local macro_rules|`(?q6)=>`([Kc hc,Kc n,Kc hs,Kb hb,Kc hl,Kb (Z7 i),Kl g,Ki hf])
local macro_rules|`(?c)=>`((by decide))
local macro_rules|`(?d)=>`((by lia))
local macro_rules|`(?e)=>`((by show @Ne Y0 _ _; lia))
local macro_rules|`(?g)=>`((by simp))
local macro_rules|`(?i)=>`((by intro z; cases z))
local macro_rules|`(?j)=>`((by decide +kernel))
local macro_rules|`(?k)=>`((by rw[Qqz]; unfold lim; lia))
local macro_rules|`(?l)=>`((by simp; unfold lim; lia))
local macro_rules|`(?q)=>`((by omega))
local macro_rules|`(?o)=>`((by unfold big; simp; lia))
local macro_rules|`(?r)=>`((by simp; lia))
local macro_rules|`(?s)=>`((by simp[Src.size]))
local macro_rules|`(?t)=>`((by rw[Qqz]; lia))
local macro_rules|`(abbrev $a:declId $b:optDeclSig $c:declVal)=>`(noncomputable def $a:declId $b:optDeclSig $c:declVal)
open _root_ renaming List->Z,Int->J,Nat->Y0,Option->Y2,Bool->Yb
open Bool renaming true->L,false->Y6
open Option renaming some->Y,none->B
open PySem renaming Value->Y7,Addr->Y5,Str->Y4
open PySem renaming wpAny_bind->Qq,Shared->Qz,wpAny_pure->Qx,World->Qj,Around->Qk,wpAny_field->Qv,wpAny_setField_rec->Qw,bootBuiltins->Qy,eval->Qa,wpAny_callSpecial?_slot->Qb,SetTable->Qc,wpAny_call_entry->Qd,wpAny_truthy_bool->Qe,compareOp->Qg,wpAny_mono->Qh,wpAny_newObj_type->Qi,NameKind->Ql,wpAny_seqItems->Qm,FuncData->Qn,sysModules->Qo,Params->Qp,call_meets->Qr,Builtin->Qs,wpAny_holding->Qt,codeAny_builtin->Qu,assignEach->Q0,treeTable->Q1,sizeLine_eq->Q2,DictEntry->Q3,binaryOp->Q4,codeAny_mono->Q5,wpAny_attempt->Q6,importedModules->Q7,tupleKind_room_in1->Q8,wpAny_rule->Q9,wpAny_pyIter_list->Zq,wpAny_setState_of->Zz,builtinLookup_eq_fast->Zx,attributeBase->Zj,codeAny->Zk,getItem->Zv,sliceBounds->Zw,wpAny_of_eq->Zy,wpAny_passesOwn->Za,wpAny_loadPart'->Zb,wpAny_specialOf->Zc,wpAny_Call_Name_kw->Zd,wpAny_typeOf->Ze,isSubtype_type->Zf,ofAClassStatement->Zg,behindInMarks->Zh,Operator->Zl,wpAny_isInstance->Zm,holding->Zo,letOwnedTupleGo->Zp,typeLookup_type->Zr,Keyword->Zs,callerA->Z1,getMethod->Z2,plainId_quiet->Z3,wpAny_onRaise->Z4,setSearchFrom->Z5
open PySem.W renaming boot_heap->Qf,behindTheImports->Zi
open PyProof.Rows renaming AllBare->Zn,IntsAre->Zu
section
universe u
theorem Z6[Decidable p](h:p):decide p=true:=decide_eq_true h
theorem Z7[Decidable p](h:¬p):decide p=false:=decide_eq_false h
theorem Z8{h:Decidable c}(n:¬c){t e:α}:ite c t e=e:=if_neg n
theorem Z9{h:Decidable c}(n:c){t e:α}:ite c t e=t:=if_pos n
end
open PySem.Challenge renaming pw_dipright_k52_whole_a_vein_told_late->PZW,rw_dipright_k52_whole_a_vein_told_late->RZW
open PySem.W renaming Frag->Qqq,keepIn->Qz7,nsIn->Qjd,mg_of->Qjl,methodCall_KW->Qjo,plainGet_of->Qj6,callWith_K->Qj7,cellsFrom_some->Qkn
open List renaming length_map->Qqz,mem_map->Qqj,getElem?_eq_some_iff->Qqk,getElem?_map->Qqv,mem_singleton->Qqa,getElem?_eq_getElem->Qqb,mem_cons->Qqc,map_cons->Qqd,size_toArray->Qqe,map_append->Qqg,mem_append->Qqi,mem_append_right->Qql,length_cons->Qqm,mem_of_getElem?->Qqn,append_assoc->Qqo,map_map->Qqp,length_append->Qqr,append_nil->Qqs,mem_filter->Qqu,find?_cons->Qq2,take_succ_eq_append_getElem->Qq3,forall_mem_nil->Qq4,filterMap_cons->Qq5,mem_cons_of_mem->Qq6,getElem?_set_ne->Qq7,filter_append->Qq8,getElem?_append_left->Qq9,mem_append_left->Qzq,filter_cons->Qzz,nodup_cons->Qzj,mem_cons_self->Qzk,filter_cons_of_neg->Qzv,mem_of_find?_eq_some->Qzw,length_take->Qzy,getElem?_set_self->Qza,take_length->Qzb,all_eq_true->Qze,getElem?_append_right->Qzf,getElem?_eq_none->Qzh,filter_cons_of_pos->Qzi,lookup_cons->Qzl,not_mem_nil->Qzm,map_congr_left->Qzr,length_eq_zero_iff->Qzs,getElem?_eq_none_iff->Qzt,length_filter_le->Qz0,find?_some->Qz1,any_eq_true->Qz2,all_cons->Qz4,mem_range->Qz6,replicate_succ->Qz8,flatMap_append->Qz9,mem_filterMap->Qxq,filterMap_map->Qxx,pairwise_cons->Qxj,nodup_append->Qxk,foldl_append->Qxv,length_set->Qxw,any_cons->Qxb,find?_eq_none->Qxd,pairwise_iff_getElem->Qxe,pairwise_append->Qxf,length_filterMap_le->Qxg,flatten_cons->Qxh,length_range->Qxl,length_drop->Qxm,getElem_mem->Qxn,map_id->Qxp,map_nil->Qxs,take_sublist->Qxu,find?_append->Qx0,drop_eq_getElem_cons->Qx1,getElem?_range->Qx3,getElem_of_mem->Qx4,length_pos_iff->Qx5,filter_eq_self->Qx6,filter_sublist->Qx7,getElem?_take->Qx9,any_append->Qjq,take_of_length_le->Qjz,length_singleton->Qjk,filterMap_eq_map->Qjw,forall_mem_cons->Qjy,nil_append->Qja,getElem?_drop->Qjb,length_zipIdx->Qje,take_succ->Qjf,pairwise_map->Qjg,length_replicate->Qjp,take_append_drop->Qjs,contains_iff_mem->Qjt,filterMap_append->Qju,eraseIdx_eq_take_drop_succ->Qj0,length_nil->Qj1,getElem_toArray->Qj2,filter_map->Qj4,getLast?_eq_some_getLast->Qj5,set_cons_zero->Qj9,any_eq_false->Qkz,ext_getElem?->Qkv,flatMap_cons->Qkw,getElem?_take_of_lt->Qka,getElem_map->Qkc,drop_length->Qkd,cons_append->Qke,getElem?_replicate->Qkf,pairwise_singleton->Qkg,of_mem_zip->Qkh,foldl_cons->Qki,filter_nil->Qkl,take_zero->Qkr,mapM_cons->Qkt
open PySem.Heap renaming get?_push_of_some->Qqx,lt_size->Qqf,get?_push_size->Qqh,size_push->Qxc,get?_update_other->Qjh,get?_update_self->Qjr
open Nat renaming le_refl->Qqw,lt_of_lt_of_le->Qq0,ne_of_lt->Qq1,zero_le->Qzg,le_trans->Qzn,lt_succ_self->Qzp,zero_add->Qz3,lt_irrefl->Qxa,le_of_lt_succ->Qxi,le_succ->Qxo,ne_of_gt->Qxr,lt_succ_of_lt->Qjx,le_of_lt->Qjj,lt_or_ge->Qjv,succ_pos->Qjc,succ_le_succ->Qjm,le_add_right->Qjn,mod_lt->Qj3,add_sub_cancel->Qj8,le_of_eq->Qky,zero_lt_succ->Qkb
open Option renaming map_eq_some_iff->Qqy,isSome_iff_exists->Qxz,isSome_map->Qkx,map_eq_none_iff->Qkp
open Bool renaming and_eq_true->Qqt,false_ne_true->Qzx,false_eq_true->Qzo,or_eq_true->Qxt,not_eq_true->Qx2,and_true->Qx8,false_or->Qkq,not_eq_true'->Qkk,eq_iff_iff->Qkm,and_false->Qks,not_true->Qku
open Array renaming getElem?_toList->Qzc,getElem?_eq_getElem->Qzd,length_toList->Qzu,getElem?_eq_some_iff->Qz5,getD_eq_getD_getElem?->Qxy,getElem?_eq_none->Qji,size_append->Qkj,getElem?_extract->Qko
section
universe u v
theorem oBs(a)(f:α->Y2 b):(Y a).bind f=f a:=rfl
theorem oMs(a)(f:α->b):(Y a).map f=Y (f a):=rfl
end
namespace L2
open PySem PySem.Spec PyProof.Rows
abbrev qqd(s:Stmt):Arguments:=match s with
 |.FunctionDef _ a _ _ _ _ _ _ _ _=>a
 |_=>{ posonlyargs:=[],args:=[],vararg:=B,kwonlyargs:=[],kw_defaults:=[],kwarg:=B,defaults:=[] }
abbrev qzt(s:Stmt):Z Stmt:=match s with
 |.FunctionDef _ _ b _ _ _ _ _ _ _=>b
 |_=>[]
abbrev qzy(s:Stmt):Scope:=match s with
 |.FunctionDef _ _ _ _ _ _ sc _ _ _=>sc
 |_=>{ kind:=.function,names:=[],isGenerator:=Y6,isCoroutine:=Y6 }
end L2
namespace K52
open PySem PySem.Spec PyProof.Rows
abbrev top(i:Y0):Stmt:=PZW.main.body.getD i (.Pass ⟨0,0,0,0⟩)
abbrev cb(s:Stmt)(j:Y0):Stmt:=match s with
 |.ClassDef _ _ _ b _ _ _ _ _ _ _=>b.getD j (.Pass ⟨0,0,0,0⟩)
 |_=>s
end K52
namespace HD
open PySem PySem.W PySem.Calls PyProof.Rows
abbrev lf:Life:=PySem.Life.mk [] [] [] 0 [] [] Bool.false #[] [] 0 Bool.false Bool.false Bool.false 0 [2000,10,10] Bool.false 0 Bool.true [] [] 0 Bool.false
abbrev sM:Y4:=⟨#[60,109,111,100,117,108,101,62]⟩
abbrev sF:Y4:=⟨#[47,99,108,97,105,109,47,99,117,116,46,112,121]⟩
abbrev sN:Y4:=⟨#[95,95,109,97,105,110,95,95]⟩
abbrev bt(l:Z Obj):BT:=(l.foldl (λ(p:BT×Y0) o=>(p.1.ins p.2 o,p.2+1)) (.nil,0)).1
abbrev Ta(P:Qp):BT:=bt ((Qf P).objs.toList++[Obj.mk (.type "tuple") B (.seq #[]) #[],Obj.mk .none B (.fields #[]) #[],
 Obj.mk (.type "code") B (.fields #[.str sM 182,.str sM 183,.str sF 184,.int 1 0,.int 0 0,.int 0 0,.int 0 0,.int 0 0,.ref 11,.bool Y6,.int 181 0,.ref 12,.none,.none,.none,.none,.int 185 0,.int 1 0,.str sF 186]) #[],
 Obj.mk (.type "frame") B .plain #[Y (.ref 13),Y (.ref 3),Y (.ref 3),B,Y (.str sN 164),B,Y (.ref 0)]])
abbrev Sa(w:Qj)(os:OsState):SharedT:=⟨Ta w.params,15,lf,#[],⟨0,0,0,0⟩,187,os⟩
noncomputable abbrev an:Y2 Y7:=Y (.ref 6)
noncomputable abbrev p0:Pos:=⟨0,0,0,0⟩
abbrev ev(p:Program):Env:={ scope:=p.main.scope,locals:=mainNs,globals:=mainNs,cells:=[],code:=.ref 13,frame:=Y 14 }
abbrev cE(p:Program):Code:=.body (Zi p) (ev p)
abbrev Lk(p q:Program)(loose:Z Y4)(Xt:Program->Qz->Yb)(ads:Z Y5)(w:Qj)(s:Qz):=(staticsOk (Q7 p.main.body) (Qf w.params) s.heap&&namesBound p s.heap&&gensDone s&&laidKept (Qf w.params) s.heap,openSeen q loose (Q7 p.main.body) (Xt q) L s,ads.map s.heap.get?)
theorem fin_of:topRun Q1 p w 11 an 2 s (restOf [] env c q [topFrame p0])=Y s:=by
 cases s
 rfl
noncomputable abbrev Fs(p:Program)(w:Qj)(s:Qz):Bool:=staticsOk (Q7 p.main.body) (Qf w.params) s.heap&&namesBound p s.heap&&gensDone s&&laidKept (Qf w.params) s.heap
theorem qpw{os:OsState}(z:((Qf w.params).isNs mainGlobals&&(Array.mk []:Array GenState).size==0,(Qf w.params).objs.size,(Qf w.params).nsMap mainGlobals "__annotations__")=(L,11,an))(r:topRun Q1 p w 11 an N ⟨Qf w.params,#[],boot_drawn,boot_toks,os⟩ (topStub p)=Y s)(l:Fs p w s=L):topFrom Q1 p w N ⟨Qf w.params,#[],boot_drawn,boot_toks,os⟩=Y s:=by
 have z1:=congrArg (·.1) z;have z2:=congrArg (·.2.1) z;have a:=congrArg (·.2.2) z;dsimp only at z1 z2 a;simp only[topFrom,z1,z2,a,r,oBs];show(match Fs p w s with|true=>Y s|false=>B)=_;rw[l]
abbrev Rn(p:Program)(n:Y0)(w:Qj)(os:OsState):=segRunT Q1 p w 11 an 1 n (Sa w os) (piecesOf (Zi p) (ev p) (cE p) p0 [topFrame p0])
abbrev LA(p q:Program)(ads:Z Y5)(w:Qj)(s:Qz):=staticsOk (Q7 p.main.body) (Qf w.params) s.heap
abbrev LI(p:Program)(w:Qj)(s:Qz):=(namesBound p s.heap,gensDone s,laidKept (Qf w.params) s.heap)
abbrev LH(ads:Z Y5)(s:Qz):=ads.map s.heap.get?
abbrev LF(q:Program)(s:Qz):=seen ((recsOf q).map (·.name)) (ownsOf q) [] { s with gens:=#[] }
abbrev LB(p q:Program)(loose:Z Y4)(Xt:Program->Qz->Yb)(s:Qz):Bool:=s.heap.keysOk (looseW q loose) ((recsOf q).map (·.name)) ((litsOf q).map (·.1)) ((clssOf q (looseW q loose)).map (·.name))&&s.heap.accountedOkI (Q7 p.main.body)&&s.heap.isNs mainGlobals&&s.heap.isNs builtinsNs&&tablesOk q s.heap&&Xt q s&&s.gens.size==0
abbrev LD(q:Program)(loose:Z Y4)(s:Qz):=(s.heap.bltView,tabsOk q s,pinSeenD q (drecsOf q) s,clsSeenW q loose s)
abbrev LG(q:Program)(loose:Z Y4)(s:Qz):=(wideSeen q s,plainSeenD q loose s)
theorem lo3{K:Qp->Frag}(j:∀w:Qj,Option.map (λs:Qz=>(s.heap,s.gens,s.drawn,s.toks)) (fencedOpening Q1 p w N)=Y (Qf w.params,#[],boot_drawn,boot_toks))(z:∀w:Qj,((Qf w.params).isNs mainGlobals&&(Array.mk []:Array GenState).size==0,(Qf w.params).objs.size,(Qf w.params).nsMap mainGlobals "__annotations__")=(L,11,an))(pre:∀w:Qj,(λos=>topGo Q1 p w 11 an 12 ⟨Qf w.params,#[],boot_drawn,boot_toks,os⟩ (topStub p))=λos=>Y ((Sa w os).abs,⟨denote Q1 (cE p),cE p,p0,[topFrame p0]⟩))(blk:∀w:Qj,(λos=>segRun Q1 p w 11 an 1 1 (Sa w os).abs (blockOf (Zi p) (ev p) (cE p) p0 [topFrame p0]))=λos=>Y (Flow.next,(Sa w os).abs,cE p,p0))(A:∀w:Qj,(λos=>(Rn p n w os).map λr=>(r.1,r.2.2.1,r.2.2.2,LA p q ads w r.2.1.abs))=λ_=>Y (Flow.next,cE p,p1,L))(gI:∀w:Qj,(λos=>(Rn p n w os).map λr=>LI p w r.2.1.abs)=λ_=>Y (L,L,L))(gX:∀w:Qj,(λos=>(Rn p n w os).map λr=>LH ads r.2.1.abs)=λ_=>Y ((K w.params).map λp=>Y p.2))(gZ:∀w:Qj,(λos=>(Rn p n w os).map λr=>LF q r.2.1.abs)=λ_=>Y (expectedOf q))(gB:∀w:Qj,(λos=>(Rn p n w os).map λr=>LB p q loose Xt r.2.1.abs)=λ_=>Y L)(y:∀w:Qj,(λos=>(Rn p n w os).map λr=>plainSeenE q (looseW q loose) r.2.1.abs)=λ_=>Y (plainGoodE q (looseW q loose)))(x:∀w:Qj,(λos=>(Rn p n w os).map λr=>LD q loose r.2.1.abs)=λ_=>Y (bltViewBooted,L,pinGoodD (drecsOf q),clsGoodW q loose))(u:∀w:Qj,(λos=>(Rn p n w os).map λr=>LG q loose r.2.1.abs)=λ_=>Y (wideGood q,plainGoodD q loose))(le:Nat.ble (12+(1+(n+2))) N=L):LeftO p q loose (Xt q) (λs=>ads.map s.heap.get?) (λw=>(K w.params).map λp=>Y p.2) N:=by
 intro w
 rcases Qqy.mp (j w) with⟨S,F,hS⟩
 rcases S with⟨H,g,d,t,os⟩
 have h1:H=Qf w.params:=congrArg (·.1) hS;have h2:g=#[]:=congrArg (·.2.1) hS;have o:d=boot_drawn:=congrArg (·.2.2.1) hS;have m:t=boot_toks:=congrArg (·.2.2.2) hS;subst h1 h2 o m
 rcases Qqy.mp (congrFun (A w) os) with⟨⟨f,S1,c,i⟩,run,same⟩
 have h:∀{α:Type}{g:Flow×SharedT×Code×Pos->α}{v:α},(Rn p n w os).map g=Y v->g (f,S1,c,i)=v:=λe=>by rw[run]at e; exact Option.some.inj e
 have E:f=Flow.next:=congrArg (·.1) same;have D:c=cE p:=congrArg (·.2.1) same;have C:i=p1:=congrArg (·.2.2.1) same;have i0:=h (congrFun (gI w) os);have i1:staticsOk (Q7 p.main.body) (Qf w.params) S1.abs.heap=true:=congrArg (·.2.2.2) same;have i2:namesBound p S1.abs.heap=true:=congrArg (·.1) i0;have i3:gensDone S1.abs=true:=congrArg (·.2.1) i0;have i4:laidKept (Qf w.params) S1.abs.heap=true:=congrArg (·.2.2) i0;have l1:Fs p w S1.abs=true:=(by unfold Fs;rw[i1,i2,i3,i4];rfl);have l:=h (congrFun (gZ w) os);have k:=h (congrFun (gX w) os);have b:=h (congrFun (gB w) os);have c0:=h (congrFun (y w) os);have d:=h (congrFun (x w) os);have e:=h (congrFun (u w) os);have l2:openSeen q loose (Q7 p.main.body) (Xt q) L S1.abs=openGood q loose:=Prod.ext l (Prod.ext (congrArg (·.1) d) (Prod.ext b (Prod.ext (congrArg (·.2.1) d) (Prod.ext (congrArg (·.2.2.1) d) (Prod.ext c0 (Prod.ext (congrArg (·.2) e) (Prod.ext (congrArg (·.1) e) (congrArg (·.2.2.2) d))))))));subst E D C;have a:=piece_app (rest:=[]) (segRun_of run) fin_of;rw[Qqs]at a;have all:=go_top (congrFun (pre w) os) (piece_block (congrFun (blk w) os) a);have more:=topRun_mono (N - (12+(1+(n+2)))) _ _ _ _ all;rw[Nat.add_sub_cancel' (Nat.le_of_ble_eq_true le)]at more;simp only[openEnds,F,oBs,qpw (z w) more l1,oMs];exact congrArg Y (Prod.ext l2 k)
end HD
namespace K52
open PySem L2
abbrev c0:Z Y4:=["_law_some_spots","_law_script","_law_k","_law_size_here","_law_spots_here","_law_spots","_law_first_here","_law_draw","len","_law_at","range","min"]
abbrev c1:Z Y4:=[".0","fast","_law_roots","_law_plan_here","_law_roots_here","_law_day","_law_fact_here","stake","part","_law_touched","_law_outs_here","_law_row"]
abbrev c2:Z Y4:=["_law_name","_law_way","any","_law_in","_law_cell","_law_course","_law_steps_here","own_course","_law_first","_law_stays","_law_rows","_law_free"]
abbrev c3:Z Y4:=["_law_same","law","_law_size","_law_term_here","_law_term","_law_plan","_law_veins","vein","_law_late","dict","_law_pair","join"]
abbrev c4:Z Y4:=["_law_diary_here","_law_diary","_law_turned","_law_days","max","_law_ahead","field","tell","_law_course_here","_law_fields","_law_spot","heirs"]
abbrev c5:Z Y4:=["_law_claim_fact","_law_names","_law_claim","_law_pick","_law_who_here","_law_who","_law_side","_law_line","work","sell","give","_law_fact"]
abbrev c6:Z Y4:=["_law_vein","_law_floor","_law_rect","_law_many","_law_pace","append","_law_rect_here","Diary","_law_rest","list","_law_found","pop"]
abbrev c7:Z Y4:=["_law_j","_law_wide","_law_tall","_law_x","sorted","_law_y","_law_steps","_law_deep","tuple","_law_outs","_law_count","_law_stride"]
abbrev c8:Z Y4:=["_law_place","__name__","law_dipright_k52_whole_a_vein_told_late","_law_turn","_law_step","_law_one","_law_two","_law_due","isinstance","_law_like","all","int"]
abbrev c9:Z Y4:=["bool","str","_law_sizes","_law_floors","TERMS","COIN","check_district","wide","tall","deep","term","fits"]
abbrev c10:Z Y4:=["LENGTHS","DEPTHS","BadNumber","not the numbers of a district","check_day","day","DAYS","not a day","Field","__init__","self","extent"]
abbrev c11:Z Y4:=["year","found","joints","staked","Claims","dug","debts","enter","fact","sound","BadFact","not sound for this district"]
abbrev c12:Z Y4:=["Late","the field's day isn't earlier","answer","enter_vein","enter_join","enter_stake","dig","enter_dig","pay","enter_pay","change","vest_all"]
abbrev c13:Z Y4:=["good","other","novein","order","joined","outcrops","extend","who","spot","worth","owe","owner"]
abbrev c14:Z Y4:=["gatekeeper","mouth","claim","over","debtor","creditor","tenths","pass_to","the field's day is later","today","_wall","size"]
abbrev c15:Z Y4:=["veins","claims","name","NoVein","no vein is known by that day","get","named","ground","last","vested","given","state"]
abbrev c16:Z Y4:=["years","standing","entries","twin","dipright.diary","kept","done","back","Taken","a fact is kept for that day","perform","strike"]
abbrev c17:Z Y4:=["undo","redo","deed","put","there","fact_on","deeds","facts","word","entered","known","many"]
abbrev c18:Z Y4:=["NoDeed","not so many deeds are done","title","first_claim","cell","standing_grounds","inside","dipright.field","covers","dipright.title","ground_of","ranked"]
abbrev c19:Z Y4:=["grounds","heads","first","behind","has_one","dip","columns_at","ranks","met_columns","met","joint","column"]
abbrev c20:Z Y4:=["outcrop","climbed","enumerate","in_ground","OutOfGround","not a spot of the district","pairs","dipright.reach","pair","dipright.claims","Claim","days"]
abbrev c21:Z Y4:=["piece","fallen","unvested","stands","book","row","names","NoClaim","no claim is known by that day","through","vest","noclaim"]
abbrev c22:Z Y4:=["ended","whole","pieces","parted","nocut","insert","index","dipright.veins","MOVES","steps","course","step"]
abbrev c23:Z Y4:=["move","below","x","y","reversed","can_part","rect","side","line","ahead","LEFT","TOP"]
abbrev c24:Z Y4:=["LOW","RIGHT","dipright.years","counted","some","good_steps","all_fit","good_outcrops","MOST_COLUMNS","is_cell","thing","set"]
abbrev c25:Z Y4:=["sound_vein","numbers_agree","ASKS","dipright.ground","folk","floor","coins","bounds","FOLK","SIDES","LINES","STEPS"]
abbrev c26:Z Y4:=["COINS","value","bound","asked","values","kind","zip","DiprightError","dipright.facts","k","dipright.errors","ValueError"]
abbrev c27:Z Y4:=["/claim/cut.py","__doc__","__package__","__loader__","__spec__","__annotations__","__builtins__","__file__","__cached__","__main__","__module__","__firstlineno__"]
abbrev c28:Z Y4:=["__static_attributes__","__weakref__","Claim.__init__","Claim.piece","Claim.twin","Claim.state","__dict__","Claims.__init__","Claims.names","Claims.named","Claims.standing","Claims.stake"]
abbrev c29:Z Y4:=["Claims.vest","Claims.vest_all","Claims.change","Claims.part","Claims.twin","Field.__init__","Field.enter","Field.answer","Field.enter_vein","Field.enter_join","Field.enter_stake","Field.enter_dig"]
abbrev c30:Z Y4:=["Field.enter_pay","Field.gatekeeper","Field.owe","Field.pass_to","Field.today","Field.size","Field.term","Field.veins","Field.claims","Field.vein","Field.joined","Field.claim"]
abbrev c31:Z Y4:=["Field.state","Field.years","Field.standing","Field.entries","Field.twin","Diary.__init__","Diary.tell","Diary.strike","Diary.undo","Diary.redo","Diary.perform","Diary.put"]
abbrev c32:Z Y4:=["Diary.fact_on","Diary.deeds","Diary.facts","Diary.size","Diary.term","Diary.word","Diary.field","Diary.entered","Diary.known","Diary.twin"]
abbrev Al:Z (Z Y4):=[c0,c1,c2,c3,c4,c5,c6,c7,c8,c9,c10,c11,c12,c13,c14,c15,c16,c17,c18,c19,c20,c21,c22,c23,c24,c25,c26,c27,c28,c29,c30,c31,c32]
abbrev Af(i j:Y0):Y4:=(Al.getD i []).getD j ⟨#[]⟩
abbrev b0:String:="dict"
abbrev b1:String:="__main__.__loader__#opaque"
abbrev b2:String:="tuple"
abbrev b3:String:="code"
abbrev b4:String:="function"
abbrev b5:String:="ValueError"
abbrev b6:String:="ValueError.__new__"
abbrev b7:String:="type"
abbrev b8:String:="Exception"
abbrev b9:String:="BaseException"
abbrev b10:String:="object"
abbrev b11:String:="ExceptionGroup.__weakref__"
abbrev b12:String:="getset_descriptor"
abbrev b13:String:="object.__new__"
abbrev b14:String:="function.__dict__"
abbrev b15:String:="function.__dict__#set"
lay_quick Af b0 b1 b2 b3 b4 b5 b6 b7 b8 b9 b10 b11 b12 b13 b14 b15
def Hy(a:Y0->Y0->Y4)(i:Y0)(p:Prop):Y0->Z Y4->Prop
 |_,[]=>p
 |j,x::r=>x=a i j->Hy a i p (j+1) r
def Hz(a:Y0->Y0->Y4)(p:Prop):Y0->Z (Z Y4)->Prop
 |_,[]=>p
 |i,c::r=>Hy a i (Hz a p (i+1) r) 0 c
abbrev G(a:Y0->Y0->Y4):Program:=by
 refine'(?f:(x:Program)->Hz a (PZW=x) 0 Al->Program) _ ?h
 (case f=>exact λx _=>x)
 (case h=>(repeat intro _); show PZW=_; delta PZW; conv=>lhs; simp only[*,Nat.reduceAdd])
noncomputable abbrev fnD(x y:Y4)(s:Stmt):=FuncData.mk x y (qqd s) (.stmts (qzt s)) (qzy s)
noncomputable abbrev kh:=PyData.keyHash
noncomputable abbrev de(P:Qp)(x:Y4)(k:Y0)(v:Y7):=DictEntry.mk (kh P x) (.str x k) v
noncomputable abbrev oq(u:String)(x:Array Y7):=Obj.mk (.type u) Option.none (.seq x) #[]
noncomputable abbrev zA(u:String)(a:Y0->Y0->Y4)(i j v w k:Y0)(ln n:J)(r p:Y0):=Obj.mk (.type u) Option.none (.fields #[.str (a i j) k,.str (a v w) (k+1),.str (a 27 0) (k+2),.int ln 0,.int n 0,.int 0 0,.int 0 0,.int 3 0,.ref r,.bool Bool.true,.int 181 0,.ref (r+1),.none,.ref (r+2),.ref (r+3),.ref (r+4),.int (.ofNat p) 0,.int ln 0,.str (a 27 0) (p+1)]) #[]
noncomputable abbrev zB(u:String)(a:Y0->Y0->Y4)(i j v w k:Y0)(ln n:J)(r p:Y0):=Obj.mk (.type u) Option.none (.fields #[.str (a i j) k,.str (a v w) (k+1),.str (a 27 0) (k+2),.int ln 0,.int n 0,.int 0 0,.int 0 0,.int 3 0,.ref r,.bool Bool.true,.int 181 0,.ref (r+1),.none,.none,.none,.ref (r+2),.int (.ofNat p) 0,.int ln 0,.str (a 27 0) (p+1)]) #[]
noncomputable abbrev zA2(u:String)(a:Y0->Y0->Y4)(i j:Y0):=zA u a i j i j
noncomputable abbrev zB2(u:String)(a:Y0->Y0->Y4)(i j:Y0):=zB u a i j i j
noncomputable abbrev zM(u:String)(a:Y0->Y0->Y4)(i j v w:Y0)(s:Stmt)(x y k r:Y0):=Obj.mk (.type u) Option.none (.func (fnD (a i j) (a v w) s 3 [] .none .none .none (.str (a x y) k) Option.none (.ref r) .none 0)) #[]
noncomputable abbrev zF(u:String)(a:Y0->Y0->Y4)(i j:Y0):=zM u a i j i j
noncomputable abbrev zR(P:Qp)(a:Y0->Y0->Y4)(i j k r:Y0):=de P (a i j) k (.ref r)
abbrev KG(tp:Y0->Stmt)(a:Y0->Y0->Y4)(u0 u1 u2 u3 u4 u5 u6 u7 u8 u9 u10 u11 u12 u13 u14 u15:String)(P:Qp):Qqq:=(nat_lit 3,Obj.mk (.type u0) Option.none (.dict #[de P (a 8 1) 165 (.str (a 8 2) 1292),de P (a 27 1) 166 .none,de P (a 27 2) 167 .none,de P (a 27 3) 168 (.builtin u1),de P (a 27 4) 169 .none,zR P a 27 5 170 6,zR P a 27 6 171 4,de P (a 27 7) 173 (.str (a 27 0) 172),de P (a 27 8) 174 .none,zR P a 14 10 193 21,zR P a 26 7 213 31,zR P a 10 2 229 44,zR P a 11 10 245 56,zR P a 12 0 261 68,zR P a 16 8 277 80,zR P a 18 0 293 92,zR P a 15 3 309 104,zR P a 21 7 325 116,zR P a 20 4 341 128,zR P a 10 6 346 131,zR P a 25 8 349 132,zR P a 25 9 352 133,zR P a 25 10 355 134,zR P a 25 11 358 135,zR P a 26 0 361 136,de P (a 24 8) 363 (.int 16 362),zR P a 25 2 406 137,zR P a 25 7 413 152,zR P a 9 11 421 159,zR P a 24 6 427 164,zR P a 24 9 435 171,zR P a 24 5 443 178,zR P a 24 7 449 183,zR P a 25 0 457 190,zR P a 25 1 464 197,zR P a 11 9 472 204,de P (a 23 10) 476 (.int 0 475),de P (a 23 11) 478 (.int 1 477),de P (a 24 1) 480 (.int 2 479),de P (a 24 0) 482 (.int 3 481),zR P a 18 6 490 211,zR P a 19 4 496 216,zR P a 23 5 505 223,zR P a 22 3 516 230,zR P a 20 3 524 237,zR P a 24 3 536 244,zR P a 21 9 544 251,zR P a 20 10 608 289,zR P a 11 4 721 371,zR P a 22 8 736 381,zR P a 2 7 749 388,zR P a 20 1 761 395,zR P a 19 8 767 400,zR P a 19 6 773 405,zR P a 18 10 783 412,zR P a 20 0 791 419,zR P a 13 5 797 424,zR P a 18 8 805 431,zR P a 18 5 813 436,zR P a 18 11 826 443,zR P a 4 11 835 450,zR P a 18 3 842 457,zR P a 18 2 850 464,zR P a 13 11 859 471,zR P a 14 3 869 478,zR P a 10 0 874 479,zR P a 10 1 877 480,zR P a 9 4 880 481,de P (a 9 5) 882 (.int 10 881),zR P a 9 6 892 488,zR P a 10 4 899 495,zR P a 10 8 1126 673,zR P a 6 7 1291 802,zR P a 0 7 1309 813,zR P a 3 0 1315 818,zR P a 3 2 1327 825,zR P a 3 4 1336 832,zR P a 0 5 1342 837,zR P a 6 2 1355 844,zR P a 7 6 1361 849,zR P a 7 9 1377 856,zR P a 5 5 1386 863,zR P a 5 3 1396 870,zR P a 6 0 1405 877,zR P a 5 0 1420 884,zR P a 5 11 1426 889,zR P a 3 5 1440 896,zR P a 2 3 1448 903,zR P a 4 1 1460 910,zR P a 4 2 1472 917,zR P a 0 0 1478 922,zR P a 1 2 1488 929,zR P a 1 9 1494 934,zR P a 2 5 1500 939,zR P a 2 8 1506 944,zR P a 2 9 1516 951,zR P a 3 1 1522 956] 97) #[]) ::
(nat_lit 131,oq u2 #[.int 1 344,.int 400 345]) ::
(nat_lit 132,oq u2 #[.int 1 347,.int 40 348]) ::
(nat_lit 133,oq u2 #[.int 0 350,.int 1 351]) ::
(nat_lit 134,oq u2 #[.int 1 353,.int 23 354]) ::
(nat_lit 135,oq u2 #[.int 0 356,.int 4 357]) ::
(nat_lit 136,oq u2 #[.int 1 359,.int 1000000 360]) ::
(nat_lit 137,Obj.mk (.type u0) Option.none (.dict #[zR P a 3 11 364 138,zR P a 1 7 368 139,zR P a 5 8 374 140,zR P a 5 9 376 141,zR P a 1 8 379 142,zR P a 5 10 384 143,zR P a 12 6 386 144,zR P a 12 8 394 145] 8) #[]) ::
(nat_lit 138,oq u2 #[.str (a 10 5) 365,.str (a 10 5) 366,.str (a 23 1) 367]) ::
(nat_lit 139,oq u2 #[.str (a 25 4) 369,.str (a 23 2) 370,.str (a 23 3) 371,.str (a 23 2) 372,.str (a 23 3) 373]) ::
(nat_lit 140,oq u2 #[.str (a 10 5) 375]) ::
(nat_lit 141,oq u2 #[.str (a 10 5) 377,.str (a 25 4) 378]) ::
(nat_lit 142,oq u2 #[.str (a 10 5) 380,.str (a 23 7) 381,.str (a 23 8) 382,.str (a 25 4) 383]) ::
(nat_lit 143,oq u2 #[.str (a 10 5) 385]) ::
(nat_lit 144,oq u2 #[.str (a 25 4) 387,.str (a 23 2) 388,.str (a 23 3) 389,.str (a 23 2) 390,.str (a 23 3) 391,.str (a 25 5) 392,.str (a 25 6) 393]) ::
(nat_lit 145,oq u2 #[.str (a 25 4) 395,.str (a 25 4) 396,.str (a 25 6) 397]) ::
(nat_lit 151,zA2 u3 a 25 7 407 32 1 146 411) ::
(nat_lit 152,zF u4 a 25 7 (tp 20) 26 8 342 151) ::
(nat_lit 158,zA2 u3 a 9 11 414 34 2 153 419) ::
(nat_lit 159,zF u4 a 9 11 (tp 21) 26 8 342 158) ::
(nat_lit 163,zB2 u3 a 24 6 422 38 3 160 425) ::
(nat_lit 164,zF u4 a 24 6 (tp 22) 26 8 342 163) ::
(nat_lit 170,zA2 u3 a 24 9 428 43 2 165 433) ::
(nat_lit 171,zF u4 a 24 9 (tp 23) 26 8 342 170) ::
(nat_lit 177,zA2 u3 a 24 5 436 45 2 172 441) ::
(nat_lit 178,zF u4 a 24 5 (tp 24) 26 8 342 177) ::
(nat_lit 182,zB2 u3 a 24 7 444 47 2 179 447) ::
(nat_lit 183,zF u4 a 24 7 (tp 25) 26 8 342 182) ::
(nat_lit 189,zA2 u3 a 25 0 450 53 2 184 455) ::
(nat_lit 190,zF u4 a 25 0 (tp 26) 26 8 342 189) ::
(nat_lit 196,zA2 u3 a 25 1 458 55 1 191 462) ::
(nat_lit 197,zF u4 a 25 1 (tp 27) 26 8 342 196) ::
(nat_lit 203,zA2 u3 a 11 9 465 61 2 198 470) ::
(nat_lit 204,zF u4 a 11 9 (tp 28) 26 8 342 203) ::
(nat_lit 210,zA2 u3 a 18 6 483 72 2 205 488) ::
(nat_lit 211,zF u4 a 18 6 (tp 34) 25 3 473 210) ::
(nat_lit 215,zB2 u3 a 19 4 491 74 2 212 494) ::
(nat_lit 216,zF u4 a 19 4 (tp 35) 25 3 473 215) ::
(nat_lit 222,zA2 u3 a 23 5 497 76 3 217 503) ::
(nat_lit 223,zF u4 a 23 5 (tp 36) 25 3 473 222) ::
(nat_lit 229,zA2 u3 a 22 3 506 78 3 224 514) ::
(nat_lit 230,zF u4 a 22 3 (tp 37) 25 3 473 229) ::
(nat_lit 236,zA2 u3 a 20 3 517 88 2 231 522) ::
(nat_lit 237,zF u4 a 20 3 (tp 38) 25 3 473 236) ::
(nat_lit 243,zA2 u3 a 24 3 527 91 2 238 534) ::
(nat_lit 244,zF u4 a 24 3 (tp 40) 24 2 525 243) ::
(nat_lit 250,zA2 u3 a 21 9 537 97 2 245 542) ::
(nat_lit 251,zF u4 a 21 9 (tp 41) 24 2 525 250) ::
(nat_lit 264,zA u3 a 10 9 28 2 559 102 5 259 567) ::
(nat_lit 265,zM u4 a 10 9 28 2 (cb (tp 43) 0) 20 9 545 264) ::
(nat_lit 271,zA u3 a 21 0 28 3 570 110 3 266 577) ::
(nat_lit 272,zM u4 a 21 0 28 3 (cb (tp 43) 1) 20 9 545 271) ::
(nat_lit 285,zA u3 a 15 11 28 5 587 118 2 280 592) ::
(nat_lit 286,zM u4 a 15 11 28 5 (cb (tp 43) 3) 20 9 545 285) ::
(nat_lit 288,Obj.mk (.type u0) Option.none (.dict #[de P (a 27 10) 554 (.str (a 20 9) 545),de P (a 27 11) 558 (.int 100 557),zR P a 10 9 569 265,zR P a 21 0 579 272,zR P a 16 3 586 279,zR P a 15 11 594 286,zR P a 28 0 601 287,zR P a 28 6 603 290,zR P a 28 1 605 291,de P (a 27 1) 606 .none] 4) #[]) ::
(nat_lit 289,Obj.mk (.type u7) Option.none (.cls (ClassData.mk (a 20 10) [.type u10] [.ref 289,.type u10] 288 (a 20 10) Bool.true [] [] Bool.false Option.none Bool.false)) #[Option.none,Option.none,Option.some (.str (a 20 10) 547),Option.some (.str (a 20 10) 555),Option.some (.builtin u13),Option.some (.bool Bool.true)]) ::
(nat_lit 306,zA u3 a 10 9 28 7 621 128 2 301 626) ::
(nat_lit 307,zM u4 a 10 9 28 7 (cb (tp 44) 0) 20 9 545 306) ::
(nat_lit 313,zA u3 a 21 6 28 8 629 133 1 308 633) ::
(nat_lit 314,zM u4 a 21 6 28 8 (cb (tp 44) 1) 20 9 545 313) ::
(nat_lit 320,zA u3 a 15 6 28 9 636 136 2 315 641) ::
(nat_lit 321,zM u4 a 15 6 28 9 (cb (tp 44) 2) 20 9 545 320) ::
(nat_lit 325,zB u3 a 16 1 28 10 644 141 2 322 647) ::
(nat_lit 326,zM u4 a 16 1 28 10 (cb (tp 44) 3) 20 9 545 325) ::
(nat_lit 332,zA u3 a 1 7 28 11 650 144 5 327 658) ::
(nat_lit 333,zM u4 a 1 7 28 11 (cb (tp 44) 4) 20 9 545 332) ::
(nat_lit 339,zA u3 a 21 10 29 0 661 148 4 334 669) ::
(nat_lit 340,zM u4 a 21 10 29 0 (cb (tp 44) 5) 20 9 545 339) ::
(nat_lit 346,zA u3 a 12 11 29 1 672 154 3 341 679) ::
(nat_lit 347,zM u4 a 12 11 29 1 (cb (tp 44) 6) 20 9 545 346) ::
(nat_lit 353,zA u3 a 12 10 29 2 682 158 3 348 690) ::
(nat_lit 354,zM u4 a 12 10 29 2 (cb (tp 44) 7) 20 9 545 353) ::
(nat_lit 360,zA u3 a 1 8 29 3 693 176 3 355 701) ::
(nat_lit 361,zM u4 a 1 8 29 3 (cb (tp 44) 8) 20 9 545 360) ::
(nat_lit 370,Obj.mk (.type u0) Option.none (.dict #[de P (a 27 10) 616 (.str (a 20 9) 545),de P (a 27 11) 620 (.int 126 619),zR P a 10 9 628 307,zR P a 21 6 635 314,zR P a 15 6 643 321,zR P a 16 1 649 326,zR P a 1 7 660 333,zR P a 21 10 671 340,zR P a 12 11 681 347,zR P a 12 10 692 354,zR P a 1 8 703 361,zR P a 16 3 710 368,zR P a 28 0 714 369,zR P a 28 6 716 372,zR P a 28 1 718 373,de P (a 27 1) 719 .none] 4) #[]) ::
(nat_lit 371,Obj.mk (.type u7) Option.none (.cls (ClassData.mk (a 11 4) [.type u10] [.ref 371,.type u10] 370 (a 11 4) Bool.true [] [] Bool.false Option.none Bool.false)) #[Option.none,Option.none,Option.some (.str (a 11 4) 609),Option.some (.str (a 11 4) 617),Option.some (.builtin u13),Option.some (.bool Bool.true)]) ::
(nat_lit 376,oq u2 #[.int 0 724,.int 0 725]) ::
(nat_lit 377,oq u2 #[.int 1 726,.int 0 727]) ::
(nat_lit 378,oq u2 #[.int (-1) 729,.int 0 730]) ::
(nat_lit 379,oq u2 #[.int 0 731,.int 1 732]) ::
(nat_lit 380,oq u2 #[.int 0 733,.int (-1) 735]) ::
(nat_lit 381,oq u2 #[.ref 376,.ref 377,.ref 378,.ref 379,.ref 380]) ::
(nat_lit 387,zA2 u3 a 2 7 737 191 3 382 747) ::
(nat_lit 388,zF u4 a 2 7 (tp 47) 22 7 722 387) ::
(nat_lit 394,zA2 u3 a 20 1 750 200 3 389 759) ::
(nat_lit 395,zF u4 a 20 1 (tp 48) 22 7 722 394) ::
(nat_lit 399,zB2 u3 a 19 8 762 209 4 396 765) ::
(nat_lit 400,zF u4 a 19 8 (tp 49) 22 7 722 399) ::
(nat_lit 404,zB2 u3 a 19 6 768 216 2 401 771) ::
(nat_lit 405,zF u4 a 19 6 (tp 50) 22 7 722 404) ::
(nat_lit 411,zA2 u3 a 18 10 776 226 2 406 781) ::
(nat_lit 412,zF u4 a 18 10 (tp 52) 20 7 774 411) ::
(nat_lit 418,zA2 u3 a 20 0 784 228 2 413 789) ::
(nat_lit 419,zF u4 a 20 0 (tp 53) 20 7 774 418) ::
(nat_lit 423,zB2 u3 a 13 5 792 230 2 420 795) ::
(nat_lit 424,zF u4 a 13 5 (tp 54) 20 7 774 423) ::
(nat_lit 430,zA2 u3 a 18 8 798 232 2 425 803) ::
(nat_lit 431,zF u4 a 18 8 (tp 55) 20 7 774 430) ::
(nat_lit 435,zB2 u3 a 18 5 808 235 1 432 811) ::
(nat_lit 436,zF u4 a 18 5 (tp 57) 18 9 806 435) ::
(nat_lit 442,zA2 u3 a 18 11 814 237 3 437 824) ::
(nat_lit 443,zF u4 a 18 11 (tp 58) 18 9 806 442) ::
(nat_lit 449,zA2 u3 a 4 11 827 246 2 444 833) ::
(nat_lit 450,zF u4 a 4 11 (tp 59) 18 9 806 449) ::
(nat_lit 479,oq u2 #[.int 1 872,.int 24 873]) ::
(nat_lit 480,oq u2 #[.int 0 875,.int 12 876]) ::
(nat_lit 481,oq u2 #[.int 1 878,.int 400 879]) ::
(nat_lit 487,zA2 u3 a 9 6 883 266 4 482 890) ::
(nat_lit 488,zF u4 a 9 6 (tp 69) 18 7 870 487) ::
(nat_lit 494,zA2 u3 a 10 4 893 269 1 489 897) ::
(nat_lit 495,zF u4 a 10 4 (tp 70) 18 7 870 494) ::
(nat_lit 508,zA u3 a 10 9 29 5 912 274 5 503 920) ::
(nat_lit 509,zM u4 a 10 9 29 5 (cb (tp 71) 0) 18 7 870 508) ::
(nat_lit 515,zA u3 a 11 7 29 6 923 285 3 510 929) ::
(nat_lit 516,zM u4 a 11 7 29 6 (cb (tp 71) 1) 18 7 870 515) ::
(nat_lit 522,zA u3 a 12 2 29 7 932 294 2 517 937) ::
(nat_lit 523,zM u4 a 12 2 29 7 (cb (tp 71) 2) 18 7 870 522) ::
(nat_lit 529,zA u3 a 12 3 29 8 940 307 2 524 945) ::
(nat_lit 530,zM u4 a 12 3 29 8 (cb (tp 71) 3) 18 7 870 529) ::
(nat_lit 536,zA u3 a 12 4 29 9 948 312 2 531 955) ::
(nat_lit 537,zM u4 a 12 4 29 9 (cb (tp 71) 4) 18 7 870 536) ::
(nat_lit 543,zA u3 a 12 5 29 10 958 324 2 538 965) ::
(nat_lit 544,zM u4 a 12 5 29 10 (cb (tp 71) 5) 18 7 870 543) ::
(nat_lit 578,zA u3 a 14 7 30 3 1006 354 2 573 1011) ::
(nat_lit 579,zM u4 a 14 7 30 3 (cb (tp 71) 10) 18 7 870 578) ::
(nat_lit 592,zA u3 a 14 11 30 5 1021 363 1 587 1025) ::
(nat_lit 593,zM u4 a 14 11 30 5 (cb (tp 71) 12) 18 7 870 592) ::
(nat_lit 606,zA u3 a 15 0 30 7 1035 369 1 601 1039) ::
(nat_lit 607,zM u4 a 15 0 30 7 (cb (tp 71) 14) 18 7 870 606) ::
(nat_lit 620,zA u3 a 3 7 30 9 1049 375 2 615 1054) ::
(nat_lit 621,zM u4 a 3 7 30 9 (cb (tp 71) 16) 18 7 870 620) ::
(nat_lit 627,zA u3 a 13 4 30 10 1057 380 2 622 1062) ::
(nat_lit 628,zM u4 a 13 4 30 10 (cb (tp 71) 17) 18 7 870 627) ::
(nat_lit 634,zA u3 a 14 2 30 11 1065 385 2 629 1071) ::
(nat_lit 635,zM u4 a 14 2 30 11 (cb (tp 71) 18) 18 7 870 634) ::
(nat_lit 655,zA u3 a 16 1 31 2 1090 395 1 650 1094) ::
(nat_lit 656,zM u4 a 16 1 31 2 (cb (tp 71) 21) 18 7 870 655) ::
(nat_lit 672,Obj.mk (.type u0) Option.none (.dict #[de P (a 27 10) 907 (.str (a 18 7) 870),de P (a 27 11) 911 (.int 272 910),zR P a 10 9 922 509,zR P a 11 7 931 516,zR P a 12 2 939 523,zR P a 12 3 947 530,zR P a 12 4 957 537,zR P a 12 5 967 544,zR P a 12 7 978 551,zR P a 12 9 986 558,zR P a 14 0 995 565,zR P a 13 10 1005 572,zR P a 14 7 1013 579,zR P a 14 9 1020 586,zR P a 14 11 1027 593,zR P a 9 10 1034 600,zR P a 15 0 1041 607,zR P a 15 1 1048 614,zR P a 3 7 1056 621,zR P a 13 4 1064 628,zR P a 14 2 1073 635,zR P a 15 11 1081 642,zR P a 16 0 1089 649,zR P a 16 1 1096 656,zR P a 16 2 1103 663,zR P a 16 3 1110 670,zR P a 28 0 1119 671,zR P a 28 6 1121 674,zR P a 28 1 1123 675,de P (a 27 1) 1124 .none] 4) #[]) ::
(nat_lit 673,Obj.mk (.type u7) Option.none (.cls (ClassData.mk (a 10 8) [.type u10] [.ref 673,.type u10] 672 (a 10 8) Bool.true [] [] Bool.false Option.none Bool.false)) #[Option.none,Option.none,Option.some (.str (a 10 8) 900),Option.some (.str (a 10 8) 908),Option.some (.builtin u13),Option.some (.bool Bool.true)]) ::
(nat_lit 690,zA u3 a 10 9 31 5 1141 406 5 685 1149) ::
(nat_lit 691,zM u4 a 10 9 31 5 (cb (tp 73) 0) 16 4 1127 690) ::
(nat_lit 697,zA u3 a 4 7 31 6 1152 414 3 692 1158) ::
(nat_lit 698,zM u4 a 4 7 31 6 (cb (tp 73) 1) 16 4 1127 697) ::
(nat_lit 725,zA u3 a 16 10 31 10 1183 432 2 720 1188) ::
(nat_lit 726,zM u4 a 16 10 31 10 (cb (tp 73) 5) 16 4 1127 725) ::
(nat_lit 732,zA u3 a 17 3 31 11 1191 436 3 727 1197) ::
(nat_lit 733,zM u4 a 17 3 31 11 (cb (tp 73) 6) 16 4 1127 732) ::
(nat_lit 749,zB u3 a 17 7 32 2 1214 448 1 746 1217) ::
(nat_lit 750,zM u4 a 17 7 32 2 (cb (tp 73) 9) 16 4 1127 749) ::
(nat_lit 777,zA u3 a 4 6 32 6 1242 460 2 772 1248) ::
(nat_lit 778,zM u4 a 4 6 32 6 (cb (tp 73) 13) 16 4 1127 777) ::
(nat_lit 784,zA u3 a 17 9 32 7 1251 466 2 779 1259) ::
(nat_lit 785,zM u4 a 17 9 32 7 (cb (tp 73) 14) 16 4 1127 784) ::
(nat_lit 801,Obj.mk (.type u0) Option.none (.dict #[de P (a 27 10) 1136 (.str (a 16 4) 1127),de P (a 27 11) 1140 (.int 404 1139),zR P a 10 9 1151 691,zR P a 4 7 1160 698,zR P a 16 11 1168 705,zR P a 17 0 1175 712,zR P a 17 1 1182 719,zR P a 16 10 1190 726,zR P a 17 3 1199 733,zR P a 17 5 1207 740,zR P a 17 6 1213 745,zR P a 17 7 1219 750,zR P a 14 11 1226 757,zR P a 9 10 1233 764,zR P a 17 8 1241 771,zR P a 4 6 1250 778,zR P a 17 9 1261 785,zR P a 17 10 1271 792,zR P a 16 3 1278 799,zR P a 28 0 1284 800,zR P a 28 6 1286 803,zR P a 28 1 1288 804,de P (a 27 1) 1289 .none] 4) #[]) ::
(nat_lit 802,Obj.mk (.type u7) Option.none (.cls (ClassData.mk (a 6 7) [.type u10] [.ref 802,.type u10] 801 (a 6 7) Bool.true [] [] Bool.false Option.none Bool.false)) #[Option.none,Option.none,Option.some (.str (a 6 7) 1129),Option.some (.str (a 6 7) 1137),Option.some (.builtin u13),Option.some (.bool Bool.true)]) ::
(nat_lit 812,zA2 u3 a 0 7 1294 484 4 807 1307) ::
(nat_lit 813,zF u4 a 0 7 (tp 75) 8 2 1292 812) ::
(nat_lit 817,zB2 u3 a 3 0 1310 499 2 814 1313) ::
(nat_lit 818,zF u4 a 3 0 (tp 76) 8 2 1292 817) ::
(nat_lit 824,zA2 u3 a 3 2 1316 508 2 819 1325) ::
(nat_lit 825,zF u4 a 3 2 (tp 77) 8 2 1292 824) ::
(nat_lit 831,zA2 u3 a 3 4 1328 515 2 826 1334) ::
(nat_lit 832,zF u4 a 3 4 (tp 78) 8 2 1292 831) ::
(nat_lit 836,zB2 u3 a 0 5 1337 518 1 833 1340) ::
(nat_lit 837,zF u4 a 0 5 (tp 79) 8 2 1292 836) ::
(nat_lit 843,zA2 u3 a 6 2 1343 523 5 838 1353) ::
(nat_lit 844,zF u4 a 6 2 (tp 80) 8 2 1292 843) ::
(nat_lit 848,zB2 u3 a 7 6 1356 527 4 845 1359) ::
(nat_lit 849,zF u4 a 7 6 (tp 81) 8 2 1292 848) ::
(nat_lit 855,zA2 u3 a 7 9 1362 529 4 850 1375) ::
(nat_lit 856,zF u4 a 7 9 (tp 82) 8 2 1292 855) ::
(nat_lit 862,zA2 u3 a 5 5 1378 539 3 857 1384) ::
(nat_lit 863,zF u4 a 5 5 (tp 83) 8 2 1292 862) ::
(nat_lit 869,zA2 u3 a 5 3 1387 541 4 864 1394) ::
(nat_lit 870,zF u4 a 5 3 (tp 84) 8 2 1292 869) ::
(nat_lit 876,zA2 u3 a 6 0 1397 545 3 871 1403) ::
(nat_lit 877,zF u4 a 6 0 (tp 85) 8 2 1292 876) ::
(nat_lit 883,zA2 u3 a 5 0 1406 547 5 878 1418) ::
(nat_lit 884,zF u4 a 5 0 (tp 86) 8 2 1292 883) ::
(nat_lit 888,zB2 u3 a 5 11 1421 555 4 885 1424) ::
(nat_lit 889,zF u4 a 5 11 (tp 87) 8 2 1292 888) ::
(nat_lit 895,zA2 u3 a 3 5 1427 567 4 890 1438) ::
(nat_lit 896,zF u4 a 3 5 (tp 88) 8 2 1292 895) ::
(nat_lit 902,zA2 u3 a 2 3 1441 575 2 897 1446) ::
(nat_lit 903,zF u4 a 2 3 (tp 89) 8 2 1292 902) ::
(nat_lit 909,zA2 u3 a 4 1 1449 577 3 904 1458) ::
(nat_lit 910,zF u4 a 4 1 (tp 90) 8 2 1292 909) ::
(nat_lit 916,zA2 u3 a 4 2 1461 582 3 911 1470) ::
(nat_lit 917,zF u4 a 4 2 (tp 91) 8 2 1292 916) ::
(nat_lit 921,zB2 u3 a 0 0 1473 588 3 918 1476) ::
(nat_lit 922,zF u4 a 0 0 (tp 92) 8 2 1292 921) ::
(nat_lit 928,zA2 u3 a 1 2 1479 592 1 923 1486) ::
(nat_lit 929,zF u4 a 1 2 (tp 93) 8 2 1292 928) ::
(nat_lit 933,zB2 u3 a 1 9 1489 600 3 930 1492) ::
(nat_lit 934,zF u4 a 1 9 (tp 94) 8 2 1292 933) ::
(nat_lit 938,zB2 u3 a 2 5 1495 605 3 935 1498) ::
(nat_lit 939,zF u4 a 2 5 (tp 95) 8 2 1292 938) ::
(nat_lit 943,zB2 u3 a 2 8 1501 611 1 940 1504) ::
(nat_lit 944,zF u4 a 2 8 (tp 96) 8 2 1292 943) ::
(nat_lit 950,zA2 u3 a 2 9 1507 613 4 945 1514) ::
(nat_lit 951,zF u4 a 2 9 (tp 97) 8 2 1292 950) ::
(nat_lit 955,zB2 u3 a 3 1 1517 617 1 952 1520) ::
(nat_lit 956,zF u4 a 3 1 (tp 98) 8 2 1292 955)::[]
abbrev KF:Qp->Qqq:=KG top Af b0 b1 b2 b3 b4 b5 b6 b7 b8 b9 b10 b11 b12 b13 b14 b15
abbrev KH(P:Qp):Qqq:=by refine'(?f:(x:Qqq)->KF P=x->Qqq) _ ?h; (case f=>exact λx _=>x); (case h=>conv=>lhs; whnf)
end K52
namespace PySem.W.Fast
open PySem K52
abbrev tw9563739567701527676:Program:=G tw10844450190609615006
theorem te9563739567701527676:PZW=tw9563739567701527676:=Eq.trans (b:=G Af) (by kernel_rfl) (congrArg G te10844450190609615006)
abbrev qzu(i:Y0):Stmt:=tw9563739567701527676.main.body.getD i (.Pass ⟨0,0,0,0⟩)
theorem qqg:top=qzu:=funext λi=>congrArg (λp:Program=>p.main.body.getD i (.Pass ⟨0,0,0,0⟩)) te9563739567701527676
abbrev qqf:Qp->Frag:=KG qzu tw10844450190609615006 tw17903106710583156130 tw1850327777178959777 tw13595553285913080938 tw12322306048728006958 tw9104656086498899760 tw14797738034305876305 tw2993790540640629292 tw568201263873348821 tw10621945496283858177 tw17470429259089226780 tw4333150963540244916 tw2874796823454540080 tw1070718608996165673 tw11451777637803189534 tw16874461612149104948 tw12572965056560369443
theorem te14308660522117754454:KF=qqf:=congr (congr (congr (congr (congr (congr (congr (congr (congr (congr (congr (congr (congr (congr (congr (congr (congr (congrArg KG qqg) te10844450190609615006) te17903106710583156130) te1850327777178959777) te13595553285913080938) te12322306048728006958) te9104656086498899760) te14797738034305876305) te2993790540640629292) te568201263873348821) te10621945496283858177) te17470429259089226780) te4333150963540244916) te2874796823454540080) te1070718608996165673) te11451777637803189534) te16874461612149104948) te12572965056560369443
end PySem.W.Fast
namespace K52
open PySem PySem.W PySem.Calls PyProof.Rows HD
noncomputable abbrev ads:Z Y5:=[3,131,132,133,134,135,136,137,138,139,140,141,142,143,144,145,151,152,158,159,163,164,170,171,177,178,182,183,189,190,196,197,203,204,210,211,215,216,222,223,229,230,236,237,243,244,250,251,264,265,271,272,285,286,288,289,306,307,313,314,320,321,325,326,332,333,339,340,346,347,353,354,360,361,370,371,376,377,378,379,380,381,387,388,394,395,399,400,404,405,411,412,418,419,423,424,430,431,435,436,442,443,449,450,479,480,481,487,488,494,495,508,509,515,516,522,523,529,530,536,537,543,544,578,579,592,593,606,607,620,621,627,628,634,635,655,656,672,673,690,691,697,698,725,726,732,733,749,750,777,778,784,785,801,802,812,813,817,818,824,825,831,832,836,837,843,844,848,849,855,856,862,863,869,870,876,877,883,884,888,889,895,896,902,903,909,910,916,917,921,922,928,929,933,934,938,939,943,944,950,951,955,956]
noncomputable abbrev loose:Z Y4:=["ASKS"]
abbrev vw(p:Program):Program:=view p [0,2,3,4,5,6,7,8,9,10,12,13,14,15,16,17,18,19,20,21,22,23,24,25,26,27,28,30,31,32,33,34,35,36,37,38,40,41,43,44,46,47,48,49,50,52,53,54,55,57,58,59,60,61,62,63,65,66,67,68,69,70,71,73,75,76,77,78,79,80,81,82,83,84,85,86,87,88,89,90,91,92,93,94,95,96,97,98]
abbrev Xt(q:Program)(s:Qz):Bool:=xlAt q [] s&&recOk (RowW.records (OpenRow.toRowW (OpenLaw.row RZW))) s
theorem pre:∀w:Qj,(λos=>topGo Q1 PZW w 11 an 12 ⟨Qf w.params,#[],boot_drawn,boot_toks,os⟩ (topStub PZW))=λos=>Y ((Sa w os).abs,⟨denote Q1 (cE PZW),cE PZW,p0,[topFrame p0]⟩):=by
 rw[Fast.te15667345088766844465,Fast.te14364793385576792824,Fast.te11892475500146522536,Fast.te9563739567701527676];exact λw=>by kernel_rfl
theorem blk:∀w:Qj,(λos=>segRun Q1 PZW w 11 an 1 1 (Sa w os).abs (blockOf (Zi PZW) (ev PZW) (cE PZW) p0 [topFrame p0]))=λos=>Y (Flow.next,(Sa w os).abs,cE PZW,p0):=by
 rw[Fast.te14374325043358763698,Fast.te14364793385576792824,Fast.te9563739567701527676];exact λw=>by kernel_rfl
abbrev GC(w:Qj):Prop:=(λos=>(Rn PZW 6663 w os).map λr=>plainSeenE (vw PZW) (looseW (vw PZW) loose) r.2.1.abs)=λ_=>Y (plainGoodE (vw PZW) (looseW (vw PZW) loose))
theorem gCf:∀w:Qj,GC (w.withFollow "special-get-raises" Y6):=by
 unfold GC Rn ;rw[Fast.te10110043849684766642,Fast.te14364793385576792824,Fast.te9563739567701527676];exact λw=>by kernel_rfl
theorem gCt:∀w:Qj,GC (w.withFollow "special-get-raises" L):=by
 unfold GC Rn ;rw[Fast.te10110043849684766642,Fast.te14364793385576792824,Fast.te9563739567701527676];exact λw=>by kernel_rfl
abbrev GB(w:Qj):Prop:=(λos=>(Rn PZW 6663 w os).map λr=>LB PZW (vw PZW) loose Xt r.2.1.abs)=λ_=>Y L
theorem gBf:∀w:Qj,GB (w.withFollow "special-get-raises" Y6):=by
 unfold GB Rn LB;rw[Fast.te10110043849684766642,Fast.te14364793385576792824,Fast.te5923862056798008813,Fast.te9563739567701527676];exact λw=>by kernel_rfl
theorem gBt:∀w:Qj,GB (w.withFollow "special-get-raises" L):=by
 unfold GB Rn LB;rw[Fast.te10110043849684766642,Fast.te14364793385576792824,Fast.te5923862056798008813,Fast.te9563739567701527676];exact λw=>by kernel_rfl
abbrev GD(w:Qj):Prop:=(λos=>(Rn PZW 6663 w os).map λr=>LD (vw PZW) loose r.2.1.abs)=λ_=>Y (bltViewBooted,L,pinGoodD (drecsOf (vw PZW)),clsGoodW (vw PZW) loose)
theorem gDf:∀w:Qj,GD (w.withFollow "special-get-raises" Y6):=by
 unfold GD Rn LD;rw[Fast.te10110043849684766642,Fast.te14364793385576792824,Fast.te9563739567701527676];exact λw=>by kernel_rfl
theorem gDt:∀w:Qj,GD (w.withFollow "special-get-raises" L):=by
 unfold GD Rn LD;rw[Fast.te10110043849684766642,Fast.te14364793385576792824,Fast.te9563739567701527676];exact λw=>by kernel_rfl
abbrev GZ(w:Qj):Prop:=(λos=>(Rn PZW 6663 w os).map λr=>LF (vw PZW) r.2.1.abs)=λ_=>Y (expectedOf (vw PZW))
theorem gZf:∀w:Qj,GZ (w.withFollow "special-get-raises" Y6):=by
 unfold GZ Rn LF;rw[Fast.te10110043849684766642,Fast.te14364793385576792824,Fast.te9563739567701527676];exact λw=>by kernel_rfl
theorem gZt:∀w:Qj,GZ (w.withFollow "special-get-raises" L):=by
 unfold GZ Rn LF;rw[Fast.te10110043849684766642,Fast.te14364793385576792824,Fast.te9563739567701527676];exact λw=>by kernel_rfl
abbrev GX(w:Qj):Prop:=(λos=>(Rn PZW 6663 w os).map λr=>LH ads r.2.1.abs)=λ_=>Y ((KF w.params).map λp=>Y p.2)
theorem gXf:∀w:Qj,GX (w.withFollow "special-get-raises" Y6):=by
 unfold GX Rn LH;rw[Fast.te10110043849684766642,Fast.te14364793385576792824,Fast.te9563739567701527676,Fast.te14308660522117754454];exact λw=>by kernel_rfl
theorem gXt:∀w:Qj,GX (w.withFollow "special-get-raises" L):=by
 unfold GX Rn LH;rw[Fast.te10110043849684766642,Fast.te14364793385576792824,Fast.te9563739567701527676,Fast.te14308660522117754454];exact λw=>by kernel_rfl
abbrev GE(w:Qj):Prop:=(λos=>(Rn PZW 6663 w os).map λr=>LG (vw PZW) loose r.2.1.abs)=λ_=>Y (wideGood (vw PZW),plainGoodD (vw PZW) loose)
theorem gEf:∀w:Qj,GE (w.withFollow "special-get-raises" Y6):=by
 unfold GE Rn LG;rw[Fast.te10110043849684766642,Fast.te14364793385576792824,Fast.te9563739567701527676];exact λw=>by kernel_rfl
theorem gEt:∀w:Qj,GE (w.withFollow "special-get-raises" L):=by
 unfold GE Rn LG;rw[Fast.te10110043849684766642,Fast.te14364793385576792824,Fast.te9563739567701527676];exact λw=>by kernel_rfl
abbrev GI(w:Qj):Prop:=(λos=>(Rn PZW 6663 w os).map λr=>LI PZW w r.2.1.abs)=λ_=>Y (L,L,L)
theorem gIf:∀w:Qj,GI (w.withFollow "special-get-raises" Y6):=by
 unfold GI Rn LI;rw[Fast.te10110043849684766642,Fast.te14364793385576792824,Fast.te9563739567701527676];exact λw=>by kernel_rfl
theorem gIt:∀w:Qj,GI (w.withFollow "special-get-raises" L):=by
 unfold GI Rn LI;rw[Fast.te10110043849684766642,Fast.te14364793385576792824,Fast.te9563739567701527676];exact λw=>by kernel_rfl
abbrev GA(w:Qj):Prop:=(λos=>(Rn PZW 6663 w os).map λr=>(r.1,r.2.2.1,r.2.2.2,LA PZW (vw PZW) ads w r.2.1.abs))=λ_=>Y (Flow.next,cE PZW,⟨617,0,641,15⟩,L)
theorem gAf:∀w:Qj,GA (w.withFollow "special-get-raises" Y6):=by
 unfold GA Rn LA;rw[Fast.te10110043849684766642,Fast.te14364793385576792824,Fast.te5923862056798008813,Fast.te9563739567701527676];exact λw=>by kernel_rfl
theorem gAt:∀w:Qj,GA (w.withFollow "special-get-raises" L):=by
 unfold GA Rn LA;rw[Fast.te10110043849684766642,Fast.te14364793385576792824,Fast.te5923862056798008813,Fast.te9563739567701527676];exact λw=>by kernel_rfl
theorem left:LeftO PZW (vw PZW) loose (Xt (vw PZW)) (λs=>ads.map s.heap.get?) (λw=>(KF w.params).map λp=>Y p.2) 13450:=
 lo3 (boot_open (by kernel_rfl) ?c (λs=>by kernel_rfl)) (λw=>by kernel_rfl) pre blk (byRow2 "special-get-raises" gAf gAt) (byRow2 "special-get-raises" gIf gIt) (byRow2 "special-get-raises" gXf gXt) (byRow2 "special-get-raises" gZf gZt) (byRow2 "special-get-raises" gBf gBt) (byRow2 "special-get-raises" gCf gCt) (byRow2 "special-get-raises" gDf gDt) (byRow2 "special-get-raises" gEf gEt) ?c
end K52
section
namespace L2
open PySem PySem.Spec PyProof.Rows
noncomputable abbrev Key:=Sum J Y4
abbrev qb7:Key->Y7->Yb
 |.inl k,v=>Value.isInt k v
 |.inr x,v=>Value.isStrOf x v
abbrev keyH(w:Qj):Key->J
 |.inl k=>hashInt k
 |.inr x=>hashStr w x
def qze:∀{k}{v},qb7 k v=L->(∃i t,k=Sum.inl i/\v=Value.int i t)\/(∃x t,k=Sum.inr x/\v=Value.str x t)
 |.inl i,v,h=>by
  obtain⟨t,e⟩:=Value.isInt_shape h;exact .inl ⟨i,t,rfl,e⟩
 |.inr x,v,h=>by
  obtain⟨t,e⟩:=Value.isStrOf_shape h;exact .inr ⟨x,t,rfl,e⟩
def qel(i)(t):qb7 (.inl i) (.int i t)=true:=by simp[qb7,Value.isInt]
def qei(x)(t):qb7 (.inr x) (.str x t)=true:=by simp[qb7,Value.isStrOf]
def key_ll(a b):decide ((Sum.inl a:Key)=Sum.inl b)=(a==b):=by
 by_cases e:a=b
 ·subst e; simp
 ·have h:¬ (Sum.inl a:Key)=Sum.inl b:=λq=>e (Sum.inl.inj q);rw[Z7 h];exact(beq_eq_false_iff_ne.mpr e).symm
def key_rr(a b):decide ((Sum.inr a:Key)=Sum.inr b)=decide (a=b):=by
 by_cases e:a=b
 ·subst e; simp
 ·have h:¬ (Sum.inr a:Key)=Sum.inr b:=λq=>e (Sum.inr.inj q);rw[Z7 h,Z7 e]
def key_lr(a)(b):decide ((Sum.inl a:Key)=Sum.inr b)=false:=Z7 (λq=>nomatch q)
def key_rl(a)(b):decide ((Sum.inr a:Key)=Sum.inl b)=false:=Z7 (λq=>nomatch q)
abbrev mixKind(prog:Program)(w:Qj):PySem.KeyKind prog w Key where
 is:=qb7
 hash:=keyH w
 inj:=λv a b ha hb=>by
  rcases qze ha with⟨i,t,rfl,rfl⟩|⟨x,t,rfl,rfl⟩
  ·rcases qze hb with⟨j,u,rfl,e⟩|⟨y,u,rfl,e⟩
   ·injection e with e1 _; rw[e1]
   ·exact nomatch e
  ·rcases qze hb with⟨j,u,rfl,e⟩|⟨y,u,rfl,e⟩
   ·exact nomatch e
   ·injection e with e1 _; rw[e1]
 byValue:=λk v h=>by
  rcases qze h with⟨i,t,rfl,rfl⟩|⟨x,t,rfl,rfl⟩<;>rfl
 pyHash:=λhv h=>by
  rcases qze hv with⟨i,t,rfl,rfl⟩|⟨x,t,rfl,rfl⟩
  ·exact wpAny_pyHash_int h
  ·exact wpAny_pyHash_str h
 eqBool:=λhu hv h=>by
  rcases qze hu with⟨i,t,rfl,rfl⟩|⟨x,t,rfl,rfl⟩
  ·rcases qze hv with⟨j,u,rfl,rfl⟩|⟨y,u,rfl,rfl⟩
   ·rw[key_ll]at h; exact wpAny_eqBool_int h
   ·rw[key_lr]at h; exact SeqAt.EqAt.int_str i t y u _ _ _ _ h
  ·rcases qze hv with⟨j,u,rfl,rfl⟩|⟨y,u,rfl,rfl⟩
   ·rw[key_rl]at h; exact SeqAt.EqAt.str_int x t j u _ _ _ _ h
   ·rw[key_rr]at h; exact wpAny_eqBool_str h
 «strs»:=λk x t v h=>by
  rcases qze h with⟨i,u,rfl,e⟩|⟨y,u,rfl,e⟩
  ·exact nomatch e
  ·injection e with e1 _;subst e1;cases v<;>rfl
def qjs(prog)(w)(i)(t):(mixKind prog w).is (.inl i) (.int i t)=true:=qel i t
def qq3(prog)(w)(x)(t):(mixKind prog w).is (.inr x) (.str x t)=true:=qei x t
inductive V where
 |non|bl (b:Yb)|int (i:J)|str (x:Y4)|byt (b:Array UInt8)|flt (b:UInt64)|ref (a:Y5)|ty (n:String)
 deriving DecidableEq
abbrev RelV:V->Y7->Prop
 |.non,u=>u=Value.none
 |.bl b,u=>u=Value.bool b
 |.int i,u=>∃t,u=Value.int i t
 |.str x,u=>∃t,u=Value.str x t
 |.byt b,u=>∃t,u=Value.bytes b t
 |.flt b,u=>∃t,u=Value.float b t
 |.ref a,u=>u=Value.ref a
 |.ty n,u=>u=Value.type n
noncomputable abbrev Vals:Z V->Z Y7->Prop:=Paired RelV
theorem Vals.length(r:Vals xs us):xs.length=us.length:=Paired.length r
theorem Vals.get:∀{xs:Z V}{us:Z Y7}{i:Y0}{x:V},Vals xs us->xs[i]?=Y x->∃u,us[i]?=Y u/\RelV x u
 |_,_,_,_,.nil,e=>by simp at e
 |_,_,0,_,.cons r _,e=>by simp at e; subst e; exact⟨_,rfl,r⟩
 |_,_,i+1,x,.cons _ t,e=>by
  obtain⟨u,h1,h2⟩:=Vals.get t (by simpa using e);exact⟨u,by simpa using h1,h2⟩
theorem Vals.set(r:RelV x u):∀{xs:Z V}{us:Z Y7}(i:Y0),Vals xs us->Vals (xs.set i x) (us.set i u)
 |_,_,_,.nil=>.nil
 |_,_,0,.cons _ t=>.cons r t
 |_,_,i+1,.cons q t=>.cons q (Vals.set r i t)
theorem Vals.append:∀{xs ys}{us ws},Vals xs us->Vals ys ws->Vals (xs++ys) (us++ws)
 |_,_,_,_,.nil,s=>s
 |_,_,_,_,.cons r t,s=>.cons r (Vals.append t s)
theorem Vals.take:∀{xs:Z V}{us:Z Y7}(n:Y0),Vals xs us->Vals (xs.take n) (us.take n)
 |_,_,0,_=>.nil
 |_,_,_+1,.nil=>.nil
 |_,_,n+1,.cons r t=>.cons r (Vals.take n t)
theorem Vals.drop:∀{xs:Z V}{us:Z Y7}(n:Y0),Vals xs us->Vals (xs.drop n) (us.drop n)
 |_,_,0,r=>r
 |_,_,_+1,.nil=>.nil
 |_,_,n+1,.cons _ t=>Vals.drop n t
abbrev RelO:Y2 V->Y2 Y7->Prop
 |some v,Y u=>RelV v u
 |none,B=>True
 |_,_=>False
def KV{κ:Type}:Z (κ×V)->Z (κ×Y7)->Prop:=Paired λ(p:κ×V) (q:κ×Y7)=>p.1=q.1/\RelV p.2 q.2
abbrev kV:Key->V
 |.inl i=>.int i
 |.inr x=>.str x
inductive HO where
 /-- a list -/
 |lst (xs:Z V)
 /-- a tuple (never changes) -/
 |tup (xs:Z V)
 /-- a dict whose keys are ints and texts; one whose keys are tuples of ints and texts (the empty one is both) -/
 |dK (kvs:Z (Key×V))|dT (kvs:Z (Z Key×V))
 /-- a set of ints: its members,its size -/
 |set (S:J->Yb) (n:Y0)
 /-- an instance of the class at C,its dict at dx,its attributes -/
 |ins (C dx:Y5) (fs:Z (Y4×V))
 /-- the dict of the instance at x -/
 |own (x:Y5)
 /-- the dict of an exception -/
 |xd (fs:Z (Y4×V))
 /-- a bound method,f of x -/
 |met (f x:Y5)
 /-- a range object lo,lo+1,.. below hi -/
 |rng (lo hi:J)
 /-- a thing that is known to the object (the script; a dict while a loop walks it): read,never written while it is so -/
 |frz (o:Obj) (u:HO)
 /-- a code object's table -/
 |tbl (ps:Array Y7)
 /-- any other thing,by what is L of its one object (a def of one's own: SetO a S n:=HO.ext λh=>..) -/
 |ext (φ:Heap->Prop)
noncomputable abbrev Hp:=Y5->Y2 HO
abbrev upd(H:Hp)(a:Y5)(o:HO):Hp:=λb=>if b=a then Y o else H b
def qzw:upd H a o a=Y o:=by unfold upd; rw[Z9 rfl]
def qzq(h:b≠a):upd H a o b=H b:=by unfold upd; rw[Z8 h]
def qzs{H:Hp}(h:H a=Y o)(h':H b=Y u)(d:o≠u):a≠b:=by
 intro e; subst e; rw[h]at h'; exact d (Option.some.inj h')
def qzg{H:Hp}(h:H a=Y o)(h':H b=B):a≠b:=by
 intro e; subst e; rw[h]at h'; cases h'
section
variable (P:Program)(w:Qj)
abbrev ObjOk(H:Hp)(h:Heap)(a:Y5):HO->Prop
 |.lst xs=>xs.length<=sizeLine/\∃(its:Z Y7) (n:Y0),Vals xs its/\h.get? a=Y { cls:=.type "list",data:=.seq its.toArray n }
 |.tup xs=>xs.length<=sizeLine/\∃its:Z Y7,Vals xs its/\IsTup h a its.toArray
 |.dK kvs=>kvs.length<=sizeLine/\(a==Qo)=Y6/\∃vs,KV kvs vs/\h.DictOf ?q4 a vs
 |.dT kvs=>kvs.length<=sizeLine/\(a==Qo)=Y6/\∃xs:Z (Z Key×Y5×Y7),
   Paired (λ(p:Z Key×V) (q:Z Key×Y5×Y7)=>p.1=q.1/\H q.2.1=Y (.tup (p.1.map kV))/\RelV p.2 q.2.2) kvs xs/\
   ∃o es ep,h.get? a=Y o/\o.ExactDict/\o.data=.dict es ep/\es.toList=xs.map (entryOfKey (tupleKind ?q4))/\(xs.map (·.1)).Nodup
 |.set S n=>h.SetOf (intKind P w) a S n
 |.ins C dx fs=>H dx=Y (.own a)/\fs.length<=1000/\dx≠a/\h.get? a=Y (PySem.W.instObj C dx)/\
   ∃mA,h.Ns1 dx mA/\(∀f,RelO (fs.lookup f) (mA f))/\PySem.Within mA (fs.map (·.1))
 |.own _=>∃o,h.get? a=Y o
 |.xd fs=>∃mA,h.Ns1 a mA/\∀f,RelO (fs.lookup f) (mA f)
 |.rng lo hi=>∃t u v,h.get? a=Y { cls:=.type "range",data:=.fields #[.int lo t,.int hi u,.int 1 v] }
 |.frz o u=>h.get? a=Y o/\ObjOk H h a u
 |.tbl ps=>h.get? a=Y { cls:=.none,data:=.fields ps }
 |.met f x=>h.get? a=Y (PySem.W.methodObj (.ref f) (.ref x))
 |.ext φ=>φ h/\(∃o,h.get? a=Y o)/\∀h1 h2:Heap,φ h1->(∀o,h1.get? a=Y o->h2.get? a=Y o)->φ h2
def HOk(H:Hp)(h:Heap):Prop:=∀a o,H a=Y o->ObjOk P w H h a o
end
section
theorem ObjOk.lt(x:ObjOk P w H h a o):a<h.objs.size:=by
 cases o with
 |lst xs=>obtain⟨_,_,_,_,e⟩:=x; exact Qqf e
 |tup xs=>obtain⟨_,_,_,p⟩:=x; exact p.lt
 |dK kvs=>obtain⟨_,_,_,_,o,_,_,e,_⟩:=x; exact Qqf e
 |dT kvs=>obtain⟨_,_,_,_,o,_,_,e,_⟩:=x; exact Qqf e
 |set S n=>obtain⟨o,_,_,_,e,_⟩:=x; exact Qqf e
 |ins C dx fs=>obtain⟨_,_,_,e,_⟩:=x; exact Qqf e
 |own y=>obtain⟨_,e⟩:=x; exact Qqf e
 |xd fs=>obtain⟨_,⟨_,_,_,e,_⟩,_⟩:=x; exact Qqf e
 |rng lo hi=>obtain⟨_,_,_,e⟩:=x; exact Qqf e
 |frz ob u=>obtain⟨e,_⟩:=x; exact Qqf e
 |tbl ps=>exact Qqf (x)
 |met f y=>exact Qqf (x)
 |ext b=>obtain⟨_,⟨_,e⟩,_⟩:=x; exact Qqf e
theorem Paired.mapP:∀{l₁}{l₂},Paired F l₁ l₂->(∀a b,F a b->G a b)->Paired G l₁ l₂
 |_,_,.nil,_=>.nil
 |_,_,.cons r t,f=>.cons (f _ _ r) (Paired.mapP t f)
def ObjOk.stay(x:ObjOk P w H h a o)(k:∀b u,(b=a\/H b=Y (.own a))->h.get? b=Y u->h'.get? b=Y u)
  (s:∀b,H b=Y (.own a)->H' b=Y (.own a)) (m:∀b xs,H b=Y (.tup xs)->H' b=Y (.tup xs)):ObjOk P w H' h' a o:=by
 induction o with
 |lst xs=>obtain⟨z,i,n,r,e⟩:=x; exact⟨z,i,n,r,k _ _ ?qu e⟩
 |tup xs=>obtain⟨z,i,r,ob,e,c⟩:=x; exact⟨z,i,r,ob,k _ _ ?qu e,c⟩
 |dK kvs=>obtain⟨z,y,vs,r,ob,es,g,e,c⟩:=x; exact⟨z,y,vs,r,ob,es,g,k _ _ ?qu e,c⟩
 |dT kvs=>
  obtain⟨z,y,xs,r,ob,es,g,e,c⟩:=x;exact⟨z,y,xs,Paired.mapP r λp q z=>⟨z.1,m _ _ z.2.1,z.2.2⟩,ob,es,g,k _ _ ?qu e,c⟩
 |set S n=>obtain⟨ob,es,g,t,e,c⟩:=x; exact⟨ob,es,g,t,k _ _ ?qu e,c⟩
 |ins C dx fs=>
  obtain⟨d,z,ne,e,mA,⟨j,es,g,A,c⟩,r⟩:=x;exact⟨s _ d,z,ne,k _ _ ?qu e,mA,⟨j,es,g,k _ _ (.inr d) A,c⟩,r⟩
 |own y=>obtain⟨ob,e⟩:=x; exact⟨ob,k _ _ ?qu e⟩
 |xd fs=>obtain⟨mA,⟨j,es,g,e,c⟩,r⟩:=x; exact⟨mA,⟨j,es,g,k _ _ ?qu e,c⟩,r⟩
 |rng lo hi=>obtain⟨t,u,v,e⟩:=x; exact⟨t,u,v,k _ _ ?qu e⟩
 |frz ob u l=>obtain⟨e,q⟩:=x; exact⟨k _ _ ?qu e,l q⟩
 |tbl ps=>
  have e:=x;exact k a _ ?qu e
 |met f y=>
  have e:=x;exact k a _ ?qu e
 |ext D=>obtain⟨p,⟨o,e⟩,st⟩:=x; exact⟨st _ _ p λo q=>k _ _ ?qu q,⟨o,k _ _ ?qu e⟩,st⟩
theorem HOk.lt(x:HOk P w H h)(e:H a=Y o):a<h.objs.size:=(x a o e).lt
def HOk.fresh(x:HOk P w H h)(e:h.objs.size<=a):H a=none:=by
 cases q:H a with
 |none=>rfl
 |some u=>exact absurd (Qq0 (x.lt q) e) (Qxa _)
def HOk.kept(x:HOk P w H h)(k:∀b u,h.get? b=Y u->h'.get? b=Y u):HOk P w H h':=λa o e=>
 (x a o e).stay (λb u _ q=>k b u q) (λ_ q=>q) λ_ _ q=>q
def HOk.laid(x:HOk P w H h)(k:∀b u,h.get? b=Y u->h'.get? b=Y u)(d:h.objs.size<=a)(new:ObjOk P w (upd H a o) h' a o):HOk P w (upd H a o) h':=λb u e=>by
 have hn:=x.fresh d
 by_cases hb:b=a
 ·subst hb; rw[qzw]at e; cases e; exact new
 ·rw[qzq hb]at e;exact(x b u e).stay (λc v _ q=>k c v q) (λc q=>by rw[qzq (qzg q hn)]; exact q) λc xs q=>by rw[qzq (qzg q hn)]; exact q
end
def Rd(H:Hp)(a:Y5)(u:HO):Prop:=H a=Y u\/∃o,H a=Y (.frz o u)
def Rd.ok(r:Rd H a u)(x:HOk P w H h):ObjOk P w H h a u:=by
 rcases r with r|⟨o,r⟩
 ·exact x a u r
 ·obtain⟨_,q⟩:=x a _ r;exact q
abbrev Mut:Y2 HO->Prop
 |some (.lst _)=>True
 |some (.dK _)=>True
 |some (.dT _)=>True
 |some (.set _ _)=>True
 |some (.ins _ _ _)=>True
 |some (.ext _)=>True
 |_=>False
section
def HOk.write(ok:HOk P w H h)(g:Mut (H x))(l:e=x\/H e=Y (.own x))(k:∀b u,b≠e->h.get? b=Y u->h'.get? b=Y u)(i:∃u,h'.get? e=Y u)
  (new:ObjOk P w (upd H x o') h' x o'):HOk P w (upd H x o') h':=λb u q=>by
 have d:∀c y,H c=Y (.own y)->c≠x:=λc y r z=>by subst z; rw[r]at g; exact g
 have f:∀c xs,H c=Y (.tup xs)->c≠x:=λc xs r z=>by subst z; rw[r]at g; exact g
 by_cases hb:b=x
 ·subst hb; rw[qzw]at q; cases q; exact new
 ·rw[qzq hb]at q
  by_cases a:b=e
  ·have j:H b=Y (.own x):=by
    rcases l with z|z
    ·exact absurd (a.trans z) hb
    ·rw[a]; exact z
   rw[q]at j; cases j;obtain⟨v,hv⟩:=i;exact⟨v,by rw[a]; exact hv⟩
  ·refine(ok b u q).stay (λc v hc r=>k c v ?_ r) (λc r=>by rw[qzq (d c b r)]; exact r) λc xs r=>by rw[qzq (f c xs r)]; exact r
   rcases hc with rfl|hc
   ·exact a
   ·rintro rfl;rcases l with z|z
    ·exact d c b hc z
    ·rw[hc]at z; cases z; exact hb rfl
end
structure Un (fs ex:Z Y5) (H H':Hp) (h h':Heap):Prop where
 keep:∀b o,h.get? b=Y o->H b=B->b ∉ fs->b ∉ ex->h'.get? b=Y o
 slot:∀b o,h.get? b=Y o->H b=B->b∈fs->b ∉ ex->∃sl,h'.get? b=Y { o with slots:=sl }
 free:∀b o,h.get? b=Y o->H b=B->b ∉ ex->H' b=B
 there:∀b o,h.get? b=Y o->b ∉ ex->∃o',h'.get? b=Y o'
 tups:∀b xs,H b=Y (.tup xs)->H' b=Y (.tup xs)
 frzs:∀b o u,H b=Y (.frz o u)->H' b=Y (.frz o u)
 tbls:∀b ps,H b=Y (.tbl ps)->∃more,H' b=Y (.tbl (ps++more))
section
def Un.any(u:Un fs ex H H1 h h1)(q:h.get? b=Y ob)(n:H b=B)(c:b ∉ ex):∃sl,h1.get? b=Y { ob with slots:=sl }:=by
 by_cases hb:b∈fs
 ·exact u.slot b ob q n hb c
 ·exact⟨ob.slots,u.keep b ob q n hb c⟩
def Un.kept(k:∀b u,h.get? b=Y u->h'.get? b=Y u):Un fs ex H H h h':=
 ⟨λb ob q _ _ _=>k b ob q,λb ob q _ _ _=>⟨ob.slots,k b ob q⟩,λ_ _ _ n _=>n,λb ob q _=>⟨ob,k b ob q⟩,λ_ _ q=>q,λ_ _ _ q=>q,λ_ ps q=>⟨#[],by rw[q]; simp⟩⟩
def Un.refl:Un fs ex H H h h:=Un.kept λ_ _ q=>q
def Un.laid(k:∀b u,h.get? b=Y u->h'.get? b=Y u)(c:h.objs.size<=a)(hn:H a=B):Un fs ex H (upd H a o) h h' where
 keep:=λb u q _ _ _=>k b u q
 slot:=λb u q _ _ _=>⟨u.slots,k b u q⟩
 free:=λb u q n _=>by rw[qzq (Qq1 (Qq0 (Qqf q) c))]; exact n
 there:=λb u q _=>⟨u,k b u q⟩
 tups:=λb xs q=>by rw[qzq (qzg q hn)]; exact q
 frzs:=λb u xs q=>by rw[qzq (qzg q hn)]; exact q
 tbls:=λb ps q=>⟨#[],by rw[qzq (qzg q hn),q]; simp⟩
def Un.write(d:Mut (H x))(j:e=x\/H e=Y (.own x))(k:∀b u,b≠e->h.get? b=Y u->h'.get? b=Y u)(g:∃u,h'.get? e=Y u):Un fs ex H (upd H x o) h h':=by
 have i:∀b,H b=B->b≠x:=λb n z=>by subst z; rw[n]at d; exact d
 have hb:∀b,H b=B->b≠e:=λb n z=>by
  subst z;rcases j with r|r
  ·exact i b n r
  ·rw[n]at r; cases r
 have f:∀b u,H b=Y u->¬ Mut (Y u)->b≠x:=λb u q nm z=>by subst z; rw[q]at d; exact nm d
 refine⟨λb u q n _ _=>k b u (hb b n) q,λb u q n _ _=>⟨u.slots,k b u (hb b n) q⟩,λb u q n _=>by rw[qzq (i b n)]; exact n,λb u q _=>?_,
  λb xs q=>by rw[qzq (f b _ q λz=>z)]; exact q,λb u xs q=>by rw[qzq (f b _ q λz=>z)]; exact q,λb ps q=>⟨#[],by rw[qzq (f b _ q λz=>z),q]; simp⟩⟩
 by_cases c:b=e
 ·subst c; exact g
 ·exact⟨u,k b u c q⟩
end
abbrev trk(h:Heap)(H:Hp):Z Y5:=(List.range h.objs.size).filter λa=>(H a).isSome
abbrev hidT(h:Heap)(H:Hp):Heap:=PySem.W.hideAll h (trk h H)
def qe1(h)(H):(hidT h H).objs.size=h.objs.size:=PySem.W.hideAll_size _ _
def qiq(e:h.get? b=Y o)(n:H b=B):(hidT h H).get? b=Y o:=
 PySem.W.hideAll_get _ e λa=>by
  have q:=(Qqu.mp a).2;rw[n]at q; simp at q
def qow(e:(hidT h H).get? b=Y o):h.get? b=Y o/\H b=none:=by
 have a:=PySem.W.of_hideAll (trk h H) e;refine⟨a,?_⟩
 cases q:H b with
 |none=>rfl
 |some x=>
  have c:b∈trk h H:=Qqu.mpr ⟨Qz6.mpr (Qqf a),by simp[q]⟩;have z:(hidT h H).get? b=none:=PySem.W.hideAll_none (trk h H) c;rw[z]at e; cases e
structure Mod (K:Qqq) (mg:Y4->Y2 Y7) (base:Heap):Prop where
 kin:K.In base
 glob:base.Ns mainGlobals mg
 blt:∃mb,base.Ns builtinsNs mb/\∀x:Y4,x ≠ "__name__"->mb x=Qy x
 nolimit:base.NoLimit
structure Cx where
 prog:Program
 w:Qj
 K:Qqq
 mg:Y4->Y2 Y7
 base:Heap
 A:Qk
 N:Z Y4
 s₀:Qz
 H₀:Hp
 env:Env
 outer:Z Env
 stack:Z Env
 ex:Z Y5
 fn:Y4->Yb
 calm:Yb
 pn:Z (Y5×Obj)
 xe:Y7->Qz->Prop
abbrev frs(l:Z Env):Z Y5:=l.filterMap (·.frame)
noncomputable abbrev Cx.fs(X:Cx):Z Y5:=frs X.outer
def Vis(sc:Scope)(x:Y4):Prop:=sc.names.lookup x=Y .local\/sc.names.lookup x=Y .cell\/sc.names.lookup x=Y .free
def Loc(sc:Scope)(x:Y4):Prop:=sc.names.lookup x=Y .local\/sc.names.lookup x=Y .cell
def Look(env:Env)(h:Heap)(m:Y4->Y2 Y7)(x:Y4)(u:Y7):Prop:=
 (env.kindOf x=Y .local/\m x=Y u)\/((env.kindOf x=Y .cell\/env.kindOf x=Y .free)/\∃c,env.cells.lookup x=Y c/\h.IsCell c (Y u))
structure Cx.Ok (X:Cx):Prop where
 mod:Mod X.K X.mg X.base
 kind:X.env.scope.kind=.function
 glob:X.env.globals=mainGlobals
 blt:X.env.builtins=builtinsNs
 above:X.s₀.heap.objs.size<=X.env.locals
 inj:∀x y c,X.env.cells.lookup x=Y c->X.env.cells.lookup y=Y c->x=y
 has:∀x,(X.env.kindOf x=Y .cell\/X.env.kindOf x=Y .free)->∃c,X.env.cells.lookup x=Y c
 cab:∀x c,X.fn x=L->X.env.cells.lookup x=Y c->X.s₀.heap.objs.size<=c
 hd:X.calm=L->X.A.handled=B
 frames:X.A.frames=Y X.stack
 stk:X.stack=X.outer\/(X.stack=X.env::X.outer/\X.env.frame=Y X.env.locals)
 exf:∀b∈X.ex,b≠X.env.locals/\∀x c,X.env.cells.lookup x=Y c->c≠b
 bs:∀b o,X.base.get? b=Y o->X.s₀.heap.get? b=Y o/\X.H₀ b=B
 bsz:X.base.objs.size<=X.s₀.heap.objs.size
 noex:∀b o,X.base.get? b=Y o->b ∉ X.ex
 exfs:∀b∈X.ex,b ∉ X.fs
 funs:X.s₀.heap.FunFrames X.base X.outer
 frf:∀b∈X.fs,X.H₀ b=B
structure Inv (X:Cx) (pins:Z (Y5×Obj)) (σ:Z (Y2 V)) (H:Hp) (s:Qz):Prop where
 ok:X.Ok
 os:s.os=X.s₀.os
 bare:Zn s.gens
 base:Un X.fs X.ex X.H₀ H X.s₀.heap s.heap
 loc:∃m,s.heap.Ns X.env.locals m/\∀(i:Y0) (x:Y4) (v:V),X.N[i]?=Y x->σ[i]?=Y (Y v)->Vis X.env.scope x->∃u,RelV v u/\Look X.env s.heap m x u
 cell:∀x c,X.env.cells.lookup x=Y c->∃v,s.heap.IsCell c v
 free:H X.env.locals=B
 freeC:∀x c,X.env.cells.lookup x=Y c->H c=B
 pin:∀p∈X.pn++pins,s.heap.get? p.1=Y p.2/\H p.1=B/\p.1≠X.env.locals/\p.1 ∉ X.fs/\∀v,p.2.data≠.cell v
 hok:HOk X.prog X.w H s.heap
 len:σ.length=X.N.length
section
variable {X:Cx}
def Cx.Ok.nofr(ok:X.Ok)(e:X.base.get? b=Y o):b ∉ X.fs:=λhb=>by
 have:=(ok.funs.mem hb).1;rw[e]at this; cases this
theorem Inv.bs(I:Inv X pins σ H s):∀b o,X.base.get? b=Y o->s.heap.get? b=Y o/\H b=none:=λb o e=>
 ⟨I.base.keep b o (I.ok.bs b o e).1 (I.ok.bs b o e).2 (I.ok.nofr e) (I.ok.noex b o e),I.base.free b o (I.ok.bs b o e).1 (I.ok.bs b o e).2 (I.ok.noex b o e)⟩
def Inv.bk(I:Inv X pins σ H s):∀b o,X.base.get? b=Y o->s.heap.get? b=Y o:=λb o e=>(I.bs b o e).1
theorem Inv.mod(I:Inv X pins σ H s):Mod X.K X.mg X.base:=I.ok.mod
def Inv.kIn(I:Inv X pins σ H s):X.K.In s.heap:=I.ok.mod.kin.keeps I.bk
theorem Inv.lt(I:Inv X pins σ H s):X.env.locals<s.heap.objs.size:=let ⟨_,hn,_⟩:=I.loc; hn.lt
def Inv.sz(I:Inv X pins σ H s):X.s₀.heap.objs.size<=s.heap.objs.size:=Qzn I.ok.above (Qjj I.lt)
def Inv.nofs(I:Inv X pins σ H s)(h:s.heap.objs.size<=a):a ∉ X.fs:=λhb=>by
 obtain⟨_,o,b,_⟩:=I.ok.funs.mem hb;exact absurd (Qq0 (Qqf b) (Qzn I.sz h)) (Qxa _)
def Inv.cne(I:Inv X pins σ H s):∀x c,X.env.cells.lookup x=Y c->c≠X.env.locals:=λx c e z=>by
 obtain⟨v,o,d,hd⟩:=I.cell x c e;obtain⟨m,⟨o',es,f,a,b,_⟩,_⟩:=I.loc;rw[z,a]at d; cases d; rw[b]at hd; cases hd
theorem Inv.funs(I:Inv X pins σ H s):s.heap.FunFrames X.base X.outer:=by
 have all:∀(l:Z Env),(∀b∈frs l,b∈X.fs)->X.s₀.heap.FunFrames X.base l->s.heap.FunFrames X.base l:=by
  intro l
  induction l with
  |nil=>intro _ _; trivial
  |cons env r a=>
   intro hs hl;obtain⟨hk,⟨Lq,o,hf,hn,c,hd⟩,hr⟩:=hl;have hL:=hs Lq (by unfold frs; rw[Qq5,hf]; exact Qzk);obtain⟨sl,e⟩:=I.base.slot Lq o c (I.ok.frf Lq hL) hL λz=>I.ok.exfs Lq z hL;exact⟨hk,⟨Lq,_,hf,hn,e,hd⟩,a (λb hb=>hs b (by unfold frs; rw[Qq5,hf]; exact Qq6 _ hb)) hr⟩
 exact all X.outer (λ_ hb=>hb) I.ok.funs
theorem Inv.stack(I:Inv X pins σ H s):s.heap.FunFrames X.base X.stack:=by
 rcases I.ok.stk with e|⟨e,hf⟩
 ·rw[e]; exact I.funs
 ·rw[e];obtain⟨m,hn,_⟩:=I.loc;refine .cons (by rw[I.ok.kind]; decide) hf hn ?_ I.funs;exact Heap.get?_none_of_le (Qzn I.ok.bsz I.ok.above)
def Inv.stkSub(I:Inv X pins σ H s):∀b∈frs X.stack,b∈X.env.locals::X.fs:=λb hb=>by
 rcases I.ok.stk with e|⟨e,hf⟩
 ·rw[e]at hb; exact Qq6 _ hb
 ·rw[e]at hb;unfold frs at hb;rw[Qq5,hf]at hb;exact hb
def Inv.stkFree(I:Inv X pins σ H s):∀b∈frs X.stack,H b=none:=λb hb=>by
 rcases Qqc.mp (I.stkSub b hb) with e|hb
 ·rw[e]; exact I.free
 ·obtain⟨_,o,a,_⟩:=I.ok.funs.mem hb;exact I.base.free b o a (I.ok.frf b hb) λz=>I.ok.exfs b z hb
def Inv.step{ch:Z Y5}(I:Inv X pins σ H s)(g:∀b∈ch,(b∈X.ex\/X.s₀.heap.objs.size<=b)/\b≠X.env.locals/\(∀x c,X.env.cells.lookup x=Y c->c≠b)/\∀p∈X.pn++pins,p.1≠b)(keep:∀b o,b≠X.env.locals->b ∉ X.fs->b ∉ ch->s.heap.get? b=Y o->H b=B->h'.get? b=Y o)(slot:∀b o,b≠X.env.locals->b∈X.fs->b ∉ ch->s.heap.get? b=Y o->H b=B->∃sl,h'.get? b=Y { o with slots:=sl })(free:∀b o,b ∉ ch->s.heap.get? b=Y o->H b=B->H' b=B)(there:∀b o,b ∉ ch->s.heap.get? b=Y o->∃o',h'.get? b=Y o')(tups:∀b xs,H b=Y (.tup xs)->H' b=Y (.tup xs))(frzs:∀b o u,H b=Y (.frz o u)->H' b=Y (.frz o u))(tbls:∀b ps,H b=Y (.tbl ps)->∃more,H' b=Y (.tbl (ps++more)))(ns:∀m,s.heap.Ns X.env.locals m->h'.Ns X.env.locals m)(hok:HOk X.prog X.w H' h')(E:Zn g'):
  Inv X pins σ H' { s with heap:=h',gens:=g',drawn:=d',toks:=t' }:=by
 have y:∀b o,X.s₀.heap.get? b=Y o->b≠X.env.locals:=λb o e=>Qq1 (Qq0 (Qqf e) I.ok.above);have j:∀b o,X.s₀.heap.get? b=Y o->b ∉ X.ex->b ∉ ch:=λb o e a hb=>by
  rcases (g b hb).1 with z|z
  ·exact a z
  ·exact absurd (Qq0 (Qqf e) z) (Qxa _)
 have h:∀x c,X.env.cells.lookup x=Y c->∀v,s.heap.IsCell c v->h'.IsCell c v:=λx c e v ⟨o,w,hd⟩=>by
  have f:=λz=>(g c z).2.2.1 x c e rfl
  by_cases hc:c∈X.fs
  ·obtain⟨sl,q⟩:=slot c o (I.cne x c e) hc f w (I.freeC x c e);exact⟨_,q,hd⟩
  ·exact⟨o,keep c o (I.cne x c e) hc f w (I.freeC x c e),hd⟩
 refine⟨I.ok,I.os,E,⟨λb o e n hb a=>?_,λb o e n hb a=>?_,λb o e n a=>?_,λb o e a=>?_,λb xs e=>tups b xs (I.base.tups b xs e),λb o xs e=>frzs b o xs (I.base.frzs b o xs e),λb ps e=>?_⟩,?_,λx c e=>?_,?_,λx c e=>?_,λp D=>?_,hok,I.len⟩
 ·exact keep b o (y b o e) hb (j b o e a) (I.base.keep b o e n hb a) (I.base.free b o e n a)
 ·obtain⟨sl,t⟩:=I.base.slot b o e n hb a;obtain⟨C,A⟩:=slot b _ (y b o e) hb (j b o e a) t (I.base.free b o e n a);exact⟨C,A⟩
 ·obtain⟨o',t⟩:=I.base.there b o e a;exact free b o' (j b o e a) t (I.base.free b o e n a)
 ·obtain⟨o',t⟩:=I.base.there b o e a;exact there b o' (j b o e a) t
 ·obtain⟨m1,t⟩:=I.base.tbls b ps e;obtain⟨m2,A⟩:=tbls b _ t;exact⟨m1++m2,by rw[A,Array.append_assoc]⟩
 ·obtain⟨m,hn,hl⟩:=I.loc;refine⟨m,ns m hn,λi x v t A F=>?_⟩;obtain⟨u,r,l⟩:=hl i x v t A F;refine⟨u,r,?_⟩;rcases l with l|⟨k,c,e,z⟩
  ·exact .inl l
  ·exact .inr ⟨k,c,e,h x c e _ z⟩
 ·obtain⟨v,z⟩:=I.cell x c e;exact⟨v,h x c e v z⟩
 ·obtain⟨m,⟨o,_,_,w,_⟩,_⟩:=I.loc;exact free _ o (λz=>(g _ z).2.1 rfl) w I.free
 ·obtain⟨v,o,w,hd⟩:=I.cell x c e;exact free c o (λz=>(g c z).2.2.1 x c e rfl) w (I.freeC x c e)
 ·obtain⟨e,n,ne,nf,d⟩:=I.pin p D;have f:=λz=>(g p.1 z).2.2.2 p D rfl;exact⟨keep p.1 p.2 ne nf f e n,free p.1 p.2 f e n,ne,nf,d⟩
def Inv.un(I:Inv X pins σ H s)(u:Un X.fs [] H H' s.heap h')(hok:HOk X.prog X.w H' h'):Inv X pins σ H' { s with heap:=h',toks:=t' }:=by
 obtain⟨m,⟨o,es,h,f,r⟩,_⟩:=id I.loc;obtain⟨sl,hL⟩:=u.any f I.free ?g
 exact I.step (ch:=[]) (λ_ z=>nomatch z) (λb o _ hb _ e n=>u.keep b o e n hb ?g) (λb o _ hb _ e n=>u.slot b o e n hb ?g) (λb o _ e n=>u.free b o e n ?g) (λb o _ e=>u.there b o e ?g) u.tups u.frzs u.tbls (λm' g=>by
  obtain⟨o',c,d,a,r'⟩:=g;rw[f]at a; cases a
  exact⟨_,c,d,hL,r'⟩) hok I.bare
def Inv.call(I:Inv X pins σ H s)(u:Un (frs X.stack) ch H H' s.heap h')(hok:HOk X.prog X.w H' h')(j:Zn g')(d:∀b∈ch,(b∈X.ex\/X.s₀.heap.objs.size<=b)/\b≠X.env.locals/\(∀x c,X.env.cells.lookup x=Y c->c≠b)/\∀p∈X.pn++pins,p.1≠b):
  Inv X pins σ H' { s with heap:=h',gens:=g',drawn:=d',toks:=t' }:=by
 obtain⟨m,⟨o,es,k,h,r⟩,_⟩:=id I.loc;obtain⟨sl,hL⟩:=u.any h I.free λz=>(d _ z).2.1 rfl
 exact I.step d (λb o hL hb hc e n=>u.keep b o e n (λz=>(Qqc.mp (I.stkSub b z)).elim hL hb) hc) (λb o _ _ hc e n=>u.any e n hc) (λb o hc e n=>u.free b o e n hc) (λb o hc e=>u.there b o e hc) u.tups u.frzs u.tbls (λm' i=>by
  obtain⟨o',f,g,a,r'⟩:=i;rw[h]at a; cases a
  exact⟨_,f,g,hL,r'⟩) hok j
def Inv.turned(I:Inv X pins σ H s)(k:∀b o,b≠it->s.heap.get? b=Y o->h'.get? b=Y o)(hn:H it=B)(hL:it≠X.env.locals)(i:it∈X.ex\/X.s₀.heap.objs.size<=it)(h:∀x c,X.env.cells.lookup x=Y c->c≠it)(g:∀p∈X.pn++pins,p.1≠it):Inv X pins σ H { s with heap:=h',toks:=t' }:=by
 have a:∀b u,H b=Y u->b≠it:=λb u e z=>by rw[z,hn]at e; cases e
 refine I.step (ch:=[it]) (λb hb=>?_) (λb o _ _ hc e _=>k b o (λz=>hc (by simp[z])) e) (λb o _ _ hc e _=>⟨o.slots,k b o (λz=>hc (by simp[z])) e⟩) (λ_ _ _ _ n=>n)
  (λb o hc e=>⟨o,k b o (λz=>hc (by simp[z])) e⟩) (λ_ _ e=>e) (λ_ _ _ e=>e) (λb ps e=>⟨#[],by rw[e]; simp⟩) (λm f=>?_) (λb u e=>?_) I.bare
 ·have e:b=it:=by simpa using hb
  subst e;exact⟨i,hL,h,g⟩
 ·obtain⟨o,es,j,d,r⟩:=f;exact⟨o,es,j,k _ o (Ne.symm hL) d,r⟩
 ·refine(I.hok b u e).stay (λc v hc q=>k c v ?_ q) (λ_ q=>q) λ_ _ q=>q;rcases hc with z|z
  ·rw[z]; exact a b u e
  ·exact a c _ z
def Inv.tok(I:Inv X pins σ H s)(t):Inv X pins σ H { s with toks:=t }:=I.un Un.refl I.hok
theorem Inv.kept(I:Inv X pins σ H s)(k:∀b u,s.heap.get? b=Y u->h'.get? b=Y u):Inv X pins σ H { s with heap:=h',toks:=t' }:=I.un (Un.kept k) (I.hok.kept k)
theorem Inv.laid(I:Inv X pins σ H s)(k:∀b u,s.heap.get? b=Y u->h'.get? b=Y u)(c:s.heap.objs.size<=a)(new:ObjOk X.prog X.w (upd H a o) h' a o):
  Inv X pins σ (upd H a o) { s with heap:=h',toks:=t' }:=I.un (Un.laid k c (I.hok.fresh c)) (I.hok.laid k c new)
theorem Inv.write(I:Inv X pins σ H s)(c:Mut (H x))(d:e=x\/H e=Y (.own x))(k:∀b u,b≠e->s.heap.get? b=Y u->h'.get? b=Y u)(a:∃u,h'.get? e=Y u)(new:ObjOk X.prog X.w (upd H x o) h' x o):Inv X pins σ (upd H x o) { s with heap:=h',toks:=t' }:=I.un (Un.write c d k a) (I.hok.write c d k a new)
def Inv.pins_of(I:Inv X pins σ H s)(h:∀p∈a,s.heap.get? p.1=Y p.2/\H p.1=B/\p.1≠X.env.locals/\p.1 ∉ X.fs/\∀v,p.2.data≠.cell v):Inv X a σ H s:=
 ⟨I.ok,I.os,I.bare,I.base,I.loc,I.cell,I.free,I.freeC,λp b=>(Qqi.mp b).elim (λz=>I.pin p (Qzq _ z)) (h p),I.hok,I.len⟩
def qac{N:Z Y4}(c:N.Nodup){i:Y0}(a:N[i]?=Y x)(b:N[j]?=Y x):i=j:=by
 obtain⟨h1,e⟩:=Qqk.mp a;obtain⟨h2,d⟩:=Qqk.mp b;exact(List.getElem_inj c).mp (e.trans d.symm)
def qvn(I:Inv X pins σ H s)(hN:X.N.Nodup)(G:X.N[i]?=Y x)(g:Loc X.env.scope x)(r:RelV v u)(h:∀s',Inv X pins (σ.set i (Y v)) H s'->(∃a,Heap.SameBut a s.heap s'.heap/\(a=X.env.locals\/X.env.cells.lookup x=Y a))->Q () s')(hf:X.fn x=L\/X.env.scope.names.lookup x=Y .local):wpAny M A (storeName X.env x u) Q E s:=by
 obtain⟨m,hn,hl⟩:=id I.loc;have K:(X.env.scope.kind==.class||(X.env.scope.kind==.module&&X.env.locals != X.env.globals))=false:=by rw[I.ok.kind]; rfl
 have w:i<σ.length:=by rw[I.len]; exact(Qqk.mp G).1
 have cne:=I.cne;have tracked:∀{a:Y5}{h':Heap},(∃o,s.heap.get? a=Y o/\H a=B)->Heap.SameBut a s.heap h'->HOk X.prog X.w H h':=λ{a h'} ha hs b ob e=>by
  obtain⟨_,_,l⟩:=ha;refine(I.hok b ob e).stay (λc R hc q=>(hs.2 c ?_).trans q) (λ_ q=>q) λ_ _ q=>q;rintro rfl;rcases hc with rfl|hc
  ·rw[l]at e; cases e
  ·rw[l]at hc; cases hc
 rcases g with hk|hk
 ·refine wpAny_storeName_local hk hn (λh' a1 hs=>?_) K;obtain⟨oL,_,_,a0,_⟩:=id hn;refine h _ ⟨I.ok,I.os,I.bare,⟨λb o e n hb g=>?_,λb o e n hb g=>?_,I.base.free,λb o e g=>?_,I.base.tups,I.base.frzs,I.base.tbls⟩,⟨_,a1,λj y T f t e3=>?_⟩,λy c e=>?_,I.free,I.freeC,λp W=>?_,tracked ⟨oL,a0,I.free⟩ hs,by simpa using I.len⟩ ⟨_,hs,.inl rfl⟩
  ·exact(hs.2 b (Qq1 (Qq0 (Qqf e) I.ok.above))).trans (I.base.keep b o e n hb g)
  ·obtain⟨sl,f⟩:=I.base.slot b o e n hb g;exact⟨sl,(hs.2 b (Qq1 (Qq0 (Qqf e) I.ok.above))).trans f⟩
  ·obtain⟨o',f⟩:=I.base.there b o e g;exact⟨o',(hs.2 b (Qq1 (Qq0 (Qqf e) I.ok.above))).trans f⟩
  ·by_cases hj:j=i
   ·subst hj;rw[G]at f; cases f;rw[Qza w]at t;cases t;exact⟨u,r,.inl ⟨hk,?g⟩⟩
   ·rw[Qq7 (Ne.symm hj)]at t;obtain⟨U,r',q⟩:=hl j y T f t e3;refine⟨U,r',?_⟩;rcases q with⟨k,e⟩|⟨k,c,e,z⟩
    ·refine .inl ⟨k,?_⟩;have:y≠x:=λe=>hj (qac hN f (e▸G));simp[this,e]
    ·exact .inr ⟨k,c,e,z.sameBut hs (cne y c e)⟩
  ·obtain⟨R,z⟩:=I.cell y c e;exact⟨R,z.sameBut hs (cne y c e)⟩
  ·obtain⟨e,n,ne,nf,d⟩:=I.pin p W;exact⟨(hs.2 p.1 ne).trans e,n,ne,nf,d⟩
 ·have C:X.fn x=true:=by
   rcases hf with z|z
   ·exact z
   ·rw[z]at hk; cases hk
  obtain⟨c,hc⟩:=I.ok.has x (.inl hk);obtain⟨R,z⟩:=I.cell x c hc;refine wpAny_storeName_cell I.ok.kind hk hc z (λh' P hs=>?_);obtain⟨oc,F,D⟩:=id z;refine h { s with heap:=h' } ⟨I.ok,I.os,I.bare,⟨λb o e n hb g=>?_,λb o e n hb g=>?_,I.base.free,λb o e g=>?_,I.base.tups,I.base.frzs,I.base.tbls⟩,⟨m,hn.sameBut hs (Ne.symm (cne x c hc)),λj y T f t e3=>?_⟩,λy S e=>?_,I.free,I.freeC,λp W=>?_,tracked ⟨oc,F,I.freeC x c hc⟩ hs,by simpa using I.len⟩ ⟨c,hs,.inr hc⟩
  ·exact(hs.2 b (Qq1 (Qq0 (Qqf e) (I.ok.cab x c C hc)))).trans (I.base.keep b o e n hb g)
  ·obtain⟨sl,f⟩:=I.base.slot b o e n hb g;exact⟨sl,(hs.2 b (Qq1 (Qq0 (Qqf e) (I.ok.cab x c C hc)))).trans f⟩
  ·obtain⟨o',f⟩:=I.base.there b o e g;exact⟨o',(hs.2 b (Qq1 (Qq0 (Qqf e) (I.ok.cab x c C hc)))).trans f⟩
  ·by_cases hj:j=i
   ·subst hj;rw[G]at f; cases f;rw[Qza w]at t;cases t;exact⟨u,r,.inr ⟨.inl hk,c,hc,P⟩⟩
   ·rw[Qq7 (Ne.symm hj)]at t;obtain⟨U,r',q⟩:=hl j y T f t e3;refine⟨U,r',?_⟩;rcases q with q|⟨k,S,e,z'⟩
    ·exact .inl q
    ·refine .inr ⟨k,S,e,z'.sameBut hs ?_⟩;rintro rfl;exact hj (qac hN f (I.ok.inj _ _ _ e hc▸G))
  ·by_cases N:S=c
   ·subst N; exact⟨_,P⟩
   ·obtain⟨w2,z2⟩:=I.cell y S e;exact⟨w2,z2.sameBut hs N⟩
  ·obtain⟨e,n,ne,nf,d⟩:=I.pin p W;refine⟨(hs.2 p.1 ?_).trans e,n,ne,nf,d⟩;intro q;rw[q,F]at e;have q':=Option.some.inj e;exact d R (by rw[<- q']; exact D)
def qy4(I:Inv X pins σ H s)(c:X.N.Nodup)(b:X.N[i]?=Y x)(a:Loc X.env.scope x)(r:RelV v u)(h:∀s',Inv X pins (σ.set i (Y v)) H s'->Q () s')(hf:X.fn x=L\/X.env.scope.names.lookup x=Y .local):wpAny M A (storeName X.env x u) Q E s:=
 qvn I c b a r (λs' d _=>h s' d) hf
def Inv.call'(I:Inv X pins σ H s)(f:s'.os=s.os)(u:Un (frs X.stack) ch H H' s.heap s'.heap)(hok:HOk X.prog X.w H' s'.heap)(g:Zn s'.gens)(a:∀b∈ch,(b∈X.ex\/X.s₀.heap.objs.size<=b)/\b≠X.env.locals/\(∀x c,X.env.cells.lookup x=Y c->c≠b)/\∀p∈X.pn++pins,p.1≠b):Inv X pins σ H' s':=by
 obtain⟨h',h,i,d,o'⟩:=s';have e:=f;subst e;exact I.call u hok g a
end
noncomputable abbrev XK:=Y7->Y2 Y5->Hp->Prop
noncomputable abbrev St:=Z (Y2 V)
noncomputable abbrev VK:=V->Hp->Prop
noncomputable abbrev TE:=St->Hp->VK->Prop
noncomputable abbrev TT:=St->Hp->(Yb->Hp->Prop)->Prop
noncomputable abbrev TA:=St->Hp->(Z V->Hp->Prop)->Prop
structure Ends where
 nx:St->Hp->Prop
 rt:VK
 bk:St->Hp->Prop:=λ_ _=>False
 ct:St->Hp->Prop:=λ_ _=>False
noncomputable abbrev TS:=Ends->St->Hp->Prop
def EP(X:Cx)(pins:Z ?qi)(σ:St)(Q:VK)(u:Y7)(s':Qz):Prop:=∃v H',Inv X pins σ H' s'/\RelV v u/\Q v H'
def TP(X:Cx)(pins:Z ?qi)(σ:St)(Q:Yb->Hp->Prop)(b:Yb)(s':Qz):Prop:=∃H',Inv X pins σ H' s'/\Q b H'
def AP(X:Cx)(pins:Z ?qi)(σ:St)(Q:Z V->Hp->Prop)(us:Z Y7)(s':Qz):Prop:=∃vs H',Inv X pins σ H' s'/\Vals vs us/\Q vs H'
def SP(X:Cx)(pins:Z ?qi)(D:Ends)(f:Flow)(s':Qz):Prop:=
 match f with
 |.next=>∃σ' H',Inv X pins σ' H' s'/\D.nx σ' H'
 |.brk=>∃σ' H',Inv X pins σ' H' s'/\D.bk σ' H'
 |.cont=>∃σ' H',Inv X pins σ' H' s'/\D.ct σ' H'
 |.ret u=>∃v σ' H',Inv X pins σ' H' s'/\RelV v u/\D.rt v H'
def PE(X:Cx)(e:Expr)(t:TE):Prop:=
 ∀(pins:Z ?qi) (s:Qz) (σ:St) (H:Hp) (Q:VK),Inv X pins σ H s->t σ H Q->wpAny ?v X.A (Qa e X.env) (EP X pins σ Q) X.xe s
def PT(X:Cx)(e:Expr)(t:TT):Prop:=
 ∀(pins:Z ?qi) (s:Qz) (σ:St) (H:Hp) (Q:Yb->Hp->Prop),Inv X pins σ H s->t σ H Q->wpAny ?v X.A (isTrue e X.env (Qa e X.env)) (TP X pins σ Q) X.xe s
def PW(X:Cx)(e:Expr)(t:TT):Prop:=
 ∀(whole:Sem Y7) (pins:Z ?qi) (s:Qz) (σ:St) (H:Hp) (Q:Yb->Hp->Prop),Inv X pins σ H s->t σ H Q->wpAny ?v X.A (isTrue e X.env whole) (TP X pins σ Q) X.xe s
def PW.pt(h:PW X e t):PT X e t:=h _
def PA(X:Cx)(es:Z Expr)(t:TA):Prop:=
 ∀(pos:Pos) (pins:Z ?qi) (s:Qz) (σ:St) (H:Hp) (Q:Z V->Hp->Prop),Inv X pins σ H s->t σ H Q->wpAny ?v X.A (spliced ?q5) (AP X pins σ Q) X.xe s
def PS(X:Cx)(st:Stmt)(t:TS):Prop:=
 ∀(pins:Z ?qi) (s:Qz) (σ:St) (H:Hp) (D:Ends),Inv X pins σ H s->t D σ H->wpAny ?v X.A (exec st X.env) (SP X pins D) X.xe s
def PSs(X:Cx)(st:Z Stmt)(t:TS):Prop:=
 ∀(pins:Z ?qi) (s:Qz) (σ:St) (H:Hp) (D:Ends),Inv X pins σ H s->t D σ H->wpAny ?v X.A (execs st X.env) (SP X pins D) X.xe s
def thn{t:Sem α}{Q b:α->Qz->Prop}(h:wpAny M A t Q E s)(c:∀a s,Q a s->b a s):wpAny M A t b E s:=Qh h c λ_ _ x=>x
section
def bin(ha:PE X a j)(hb:PE X b tb){R:V->V->Hp->Prop}(I:Inv X c d H s)(h:j d H λx H1=>tb d H1 λy H2=>R x y H2){Q:α->Qz->Prop}{f:Y7->Y7->Sem α}(hf:∀v u i x y H2,Inv X c d H2 i->RelV x v->RelV y u->R x y H2->wpAny ?v X.A (f v u) Q X.xe i):
  wpAny ?v X.A (Qa a X.env) (λv g=>wpAny ?v X.A (Qa b X.env) (λu e=>wpAny ?v X.A (f v u) Q X.xe e) X.xe g) X.xe s:=by
 refine thn (ha c s d H _ I h) λv k ⟨x,H1,q,m,o⟩=>?_;refine thn (hb c k d H1 _ q o) λu i ⟨y,H2,p,l,n⟩=>?_;exact hf v u i x y H2 p m l n
abbrev tVar(i:Y0):TE:=λσ H Q=>∃v,σ[i]?=Y (Y v)/\Q v H
abbrev tC(v:V):TE:=λ_ H Q=>Q v H
def pe_var(g:X.N[i]?=Y x)(hv:Vis X.env.scope x)(hd:?Y=false:=by decide)(d:(x==("__classdict__" : Y4))=false:=by decide):PE X (.Name x pos) (tVar i):=by
 intro pins s σ H Q I h;obtain⟨v,e,h⟩:=h;obtain⟨m,hn,hl⟩:=I.loc;obtain⟨u,r,l⟩:=hl i x v g e hv;have b:EP X pins σ Q u s:=⟨v,H,I,r,h⟩
 rcases l with⟨hk,f⟩|⟨hk,c,hc,a⟩
 ·exact wpAny_Name (wpAny_loadName_local I.ok.kind hk hn f b) hd
 ·rcases hk with hk|hk
  ·exact wpAny_Name (wpAny_loadName_cell I.ok.kind hk hc a b) hd
  ·exact wpAny_Name (wpAny_loadName_free I.ok.kind hk hc a b d) hd
def pe_int{i j pos}:PE X (.Constant (.int i) j pos) (tC (.int i)):=λ_ _ _ H _ I h=>wpAny_Constant_int ⟨.int i,H,I.tok _,⟨_,rfl⟩,h⟩
def pe_bl{b j pos}:PE X (.Constant (.bool b) j pos) (tC (.bl b)):=λ_ _ _ H _ I h=>Constant_bool ⟨.bl b,H,I,rfl,h⟩
def pe_non{j pos}:PE X (.Constant .none j pos) (tC .non):=λ_ _ _ H _ I h=>Constant_none ⟨.non,H,I,rfl,h⟩
def pe_str{x j pos}:PE X (.Constant (.str x) j pos) (tC (.str x)):=λ_ _ _ H _ I h=>Calls.Constant_str ⟨.str x,H,I.tok _,⟨_,rfl⟩,h⟩
def Gl(X:Cx)(x:Y4):Prop:=X.env.kindOf x=Y .globalImplicit
def qyb(I:Inv X a b H s)(d:Gl X x)(c:X.mg x=Y u)(h:Q u s)(hd:?Y=false:=by decide):wpAny ?v X.A (Qa (.Name x pos) X.env) Q E s:=
 Calls.Name_function_global I.ok.kind d (Calls.loadGlobal_global (by rw[I.ok.glob]; exact I.mod.glob.keeps I.bk) c h) hd
def qx5(I:Inv X a b H s)(d:Gl X x)(c:X.mg x=B)(hv:Qy x=Y u)(h:Q u s)(hn:x ≠ "__name__":=by decide)(hd:?Y=false:=by decide):wpAny ?v X.A (Qa (.Name x pos) X.env) Q E s:=by
 obtain⟨e,h1,h2⟩:=I.mod.blt;exact Calls.Name_function_global I.ok.kind d (Calls.loadGlobal_builtin (by rw[I.ok.glob]; exact I.mod.glob.keeps I.bk) c (by rw[I.ok.blt]; exact h1.keeps I.bk) ((h2 x hn).trans hv) h) hd
def qyx(b:Gl X x)(a:X.mg x=Y u)(r:RelV v u)(hd:?Y=false:=by decide):PE X (.Name x pos) (tC v):=
 λ_ _ _ H _ I h=>qyb I b a ⟨v,H,I,r,h⟩ hd
def qjp(b:Gl X x)(a:X.mg x=B)(hv:Qy x=Y u)(r:RelV v u)(hn:x ≠ "__name__":=by decide)(hd:?Y=false:=by decide):PE X (.Name x pos) (tC v):=
 λ_ _ _ H _ I h=>qx5 I b a hv ⟨v,H,I,r,h⟩ hn hd
def PC(X:Cx)(op:CmpOp)(a b:Expr)(t:TE):Prop:=
 ∀(pins:Z ?qi) (s:Qz) (σ:St) (H:Hp) (Q:VK),Inv X pins σ H s->t σ H Q->
  wpAny ?v X.A (Qa a X.env) (λv s₁=>wpAny ?v X.A (Qa b X.env) (λu s₂=>wpAny ?v X.A (Qg op v u) (EP X pins σ Q) X.xe s₂) X.xe s₁) X.xe s
abbrev tB(t:TE):TT:=λσ H Q=>t σ H λx H1=>∃c,x=.bl c/\Q c H1
def qlb(h:PC X c a b t)(e:Zh c b=Y6):PE X (.Compare a [c] [b] pos) t:=λpins s σ H Q I d=>wpAny_Compare1 (h pins s σ H Q I d) e
def qlk(h:PC X e a b t)(f:Zh e b=Y6):PT X (.Compare a [e] [b] pos) (tB t):=by
 intro pins s σ H Q I j;refine wpAny_isTrue_Compare1 (thn (h pins s σ H _ I j) λv n f=>thn f λu m h2=>thn h2 λc l ⟨x,H1,k,g,i⟩=>?_) f;obtain⟨d,rfl,q⟩:=i;cases g;exact Qe ⟨H1,k,q⟩
abbrev tAnd(t u:TT):TT:=λσ H Q=>t σ H λc H1=>if c=L then u σ H1 Q else Q Y6 H1
abbrev tOr(t u:TT):TT:=λσ H Q=>t σ H λc H1=>if c=L then Q L H1 else u σ H1 Q
abbrev tNot(t:TT):TT:=λσ H Q=>t σ H λc H1=>Q (!c) H1
def qnb(ha:PT X a tA):PW X (.BoolOp .And [a] pos) tA:=by
 intro d pins s σ H Q I h;refine isTrue_and (thn (ha pins s σ H Q I h) λc f e=>?_)
 cases c with
 |true=>exact isTrue_and_nil e
 |false=>exact e
def pw_or1(ha:PT X a tA):PW X (.BoolOp .Or [a] pos) tA:=by
 intro d pins s σ H Q I h;refine isTrue_or (thn (ha pins s σ H Q I h) λc f e=>?_)
 cases c with
 |false=>exact isTrue_or_nil e
 |true=>exact e
def pw_and(ha:PT X a tA)(hb:PW X (.BoolOp .And (b::rest) pos) tB'):PW X (.BoolOp .And (a::b::rest) pos) (tAnd tA tB'):=by
 intro f pins s σ H Q I h;refine isTrue_and (thn (ha pins s σ H _ I h) λc g ⟨H1,e,d⟩=>?_)
 cases c with
 |true=>exact hb f pins g σ H1 Q e d
 |false=>exact⟨H1,e,d⟩
def pw_or(ha:PT X a tA)(hb:PW X (.BoolOp .Or (b::rest) pos) tB'):PW X (.BoolOp .Or (a::b::rest) pos) (tOr tA tB'):=by
 intro f pins s σ H Q I h;refine isTrue_or (thn (ha pins s σ H _ I h) λc g ⟨H1,e,d⟩=>?_)
 cases c with
 |true=>exact⟨H1,e,d⟩
 |false=>exact hb f pins g σ H1 Q e d
def pt_not(ha:PT X a tA):PT X (.UnaryOp .Not a pos) (tNot tA):=by
 intro pins s σ H Q I h;exact isTrue_not (ha pins s σ H (λc H1=>Q (!c) H1) I h)
abbrev tAndV(ta tb:TE):TE:=λσ H Q=>ta σ H λx H1=>∃c,x=.bl c/\if c=L then tb σ H1 Q else Q (.bl Y6) H1
abbrev tOrV(ta tb:TE):TE:=λσ H Q=>ta σ H λx H1=>∃c,x=.bl c/\if c=L then Q (.bl L) H1 else tb σ H1 Q
abbrev tNotV(ta:TE):TE:=λσ H Q=>ta σ H λx H1=>∃c,x=.bl c/\Q (.bl (!c)) H1
def qla{op}(h:PE X a t):PE X (.BoolOp op [a] pos) t:=λpins s σ H Q I c=>BoolOp_one (h pins s σ H Q I c)
def pe_and(ha:PE X a ta)(hb:PE X (.BoolOp .And (b::rest) pos) tb):PE X (.BoolOp .And (a::b::rest) pos) (tAndV ta tb):=by
 intro pins s σ H Q I h;refine BoolOp_and (thn (ha pins s σ H _ I h) λv f ⟨x,H1,e,g,d⟩=>?_);obtain⟨c,rfl,d⟩:=d;cases g;refine Qe ?_
 cases c with
 |true=>exact hb pins f σ H1 Q e d
 |false=>exact⟨.bl Y6,H1,e,rfl,d⟩
def pe_or(ha:PE X a ta)(hb:PE X (.BoolOp .Or (b::rest) pos) tb):PE X (.BoolOp .Or (a::b::rest) pos) (tOrV ta tb):=by
 intro pins s σ H Q I h;refine BoolOp_or (thn (ha pins s σ H _ I h) λv f ⟨x,H1,e,g,d⟩=>?_);obtain⟨c,rfl,d⟩:=d;cases g;refine Qe ?_
 cases c with
 |false=>exact hb pins f σ H1 Q e d
 |true=>exact⟨.bl L,H1,e,rfl,d⟩
def pe_not(ha:PE X a ta):PE X (.UnaryOp .Not a pos) (tNotV ta):=by
 intro pins s σ H Q I h;refine UnaryOp_ (thn (ha pins s σ H _ I h) λv g ⟨x,H1,f,e,d⟩=>?_);obtain⟨c,rfl,d⟩:=d;cases e;exact not_of (Qe ⟨.bl (!c),H1,f,rfl,d⟩)
abbrev tIf(t:TT)(ta tb:TE):TE:=λσ H Q=>t σ H λc H1=>if c=L then ta σ H1 Q else tb σ H1 Q
def qhm(hc:PT X c tA)(ha:PE X a ta)(hb:PE X b tb):PE X (.IfExp c a b pos) (tIf tA ta tb):=by
 intro pins s σ H Q I h;refine wpAny_IfExp (thn (hc pins s σ H _ I h) λd e ⟨H1,g,f⟩=>?_)
 cases d with
 |true=>exact ha pins e σ H1 Q g f
 |false=>exact hb pins e σ H1 Q g f
end
def SqL(K:Qqq)(H:Hp)(a:Y5)(xs:Z V):Prop:=
 Rd H a (.lst xs)\/
  ∃(o:Obj) (its:Array Y7) (n:Y0),K.lookup a=Y o/\o.cls=.type "list"/\o.dict=B/\o.data=.seq its n/\its.size<=sizeLine/\Vals xs its.toList
def SqT(K:Qqq)(H:Hp)(a:Y5)(xs:Z V):Prop:=
 Rd H a (.tup xs)\/
  ∃(o:Obj) (its:Array Y7) (n:Y0),K.lookup a=Y o/\o.cls=.type "tuple"/\o.data=.seq its n/\its.size<=sizeLine/\Vals xs its.toList
abbrev absV:Y7->Y2 V
 |.none=>Y .non
 |.bool b=>Y (.bl b)
 |.int i _=>Y (.int i)
 |.str x _=>Y (.str x)
 |.bytes b _=>Y (.byt b)
 |.float b _=>Y (.flt b)
 |.ref a=>Y (.ref a)
 |.type n=>Y (.ty n)
 |_=>B
def RelV.abs(r:RelV x u):absV u=Y x:=by
 cases x with
 |non=>cases r; rfl
 |bl _=>cases r; rfl
 |int _=>obtain⟨t,rfl⟩:=r; rfl
 |str _=>obtain⟨t,rfl⟩:=r; rfl
 |byt _=>obtain⟨t,rfl⟩:=r; rfl
 |flt _=>obtain⟨t,rfl⟩:=r; rfl
 |ref _=>cases r; rfl
 |ty _=>cases r; rfl
theorem RelV.inj(r:RelV x u)(q:RelV y u):x=y:=Option.some.inj (r.abs.symm.trans q.abs)
theorem Vals.inj:∀{xs ys}{us},Vals xs us->Vals ys us->xs=ys
 |_,_,_,.nil,.nil=>rfl
 |_,_,_,.cons r t,.cons r' t'=>by rw[r.inj r',Vals.inj t t']
section
def SqL.of{K:Qqq}(h:H a=Y (.lst xs)):SqL K H a xs:=.inl (.inl h)
def SqT.of{K:Qqq}(h:H a=Y (.tup xs)):SqT K H a xs:=.inl (.inl h)
def Inv.list(I:Inv X pins σ H s)(h:SqL X.K H a xs):∃b:Z Y7,Vals xs b/\PlainL s.heap a b.toArray/\xs.length<=sizeLine:=by
 rcases h with h|⟨o,b,n,hk,hc,hd,hs,c,r⟩
 ·obtain⟨z,b,n,r,e⟩:=h.ok I.hok;exact⟨b,r,⟨_,n,e,rfl,rfl,rfl⟩,z⟩
 ·refine⟨b.toList,r,⟨o,n,I.kIn a o hk,hc,hd,by simpa using hs⟩,?_⟩;have e:=r.length;simp only[Qzu]at e;omega
def Inv.tuple(I:Inv X pins σ H s)(h:SqT X.K H a xs):∃b:Z Y7,Vals xs b/\IsTup s.heap a b.toArray/\xs.length<=sizeLine:=by
 rcases h with h|⟨o,b,n,hk,hc,hs,c,r⟩
 ·obtain⟨z,b,r,p⟩:=h.ok I.hok;exact⟨b,r,p,z⟩
 ·refine⟨b.toList,r,⟨o,I.kIn a o hk,hc,n,by simpa using hs⟩,?_⟩;have e:=r.length;simp only[Qzu]at e;omega
def Inv.list_inj(I:Inv X pins σ H s)(h:SqL X.K H a xs)(h':SqL X.K H a ys):xs=ys:=by
 obtain⟨b,r,⟨o,n,e,_,_,d⟩,_⟩:=I.list h;obtain⟨its',r',⟨o',g,c,_,_,f⟩,_⟩:=I.list h';rw[e]at c; cases c;rw[d]at f;injection f with d1 _;have:b=its':=by simpa using congrArg Array.toList d1
 subst this;exact r.inj r'
def Inv.tuple_inj(I:Inv X pins σ H s)(h:SqT X.K H a xs)(h':SqT X.K H a ys):xs=ys:=by
 obtain⟨b,r,⟨o,e,_,n,d⟩,_⟩:=I.tuple h;obtain⟨its',r',⟨o',c,_,g,f⟩,_⟩:=I.tuple h';rw[e]at c; cases c;rw[d]at f;injection f with d1 _;have:b=its':=by simpa using congrArg Array.toList d1
 subst this;exact r.inj r'
end
noncomputable abbrev Cx.wish(X:Cx)(E:Y7->Qz->Prop):Cx:={ X with xe:=E }
noncomputable abbrev Cx.nox(X:Cx):Cx:=X.wish λ_ _=>False
theorem Cx.Ok.wish{X:Cx}(ok:X.Ok)(E:Y7->Qz->Prop):(X.wish E).Ok:=
 ⟨ok.mod,ok.kind,ok.glob,ok.blt,ok.above,ok.inj,ok.has,ok.cab,ok.hd,ok.frames,ok.stk,ok.exf,ok.bs,ok.bsz,ok.noex,ok.exfs,ok.funs,ok.frf⟩
def Cx.Ok.unwish{X:Cx}(ok:(X.wish E).Ok):X.Ok:=
 ⟨ok.mod,ok.kind,ok.glob,ok.blt,ok.above,ok.inj,ok.has,ok.cab,ok.hd,ok.frames,ok.stk,ok.exf,ok.bs,ok.bsz,ok.noex,ok.exfs,ok.funs,ok.frf⟩
section
theorem Inv.wish(I:Inv X pins σ H s)(E:Y7->Qz->Prop):Inv (X.wish E) pins σ H s:=⟨I.ok.wish E,I.os,I.bare,I.base,I.loc,I.cell,I.free,I.freeC,I.pin,I.hok,I.len⟩
theorem Inv.unwish(I:Inv (X.wish E) pins σ H s):Inv X pins σ H s:=⟨I.ok.unwish,I.os,I.bare,I.base,I.loc,I.cell,I.free,I.freeC,I.pin,I.hok,I.len⟩
theorem SP.unwish(h:SP (X.wish E) pins D f s'):SP X pins D f s':=by
 cases f with
 |next=>obtain⟨a,H',I,q⟩:=h; exact⟨a,H',I.unwish,q⟩
 |brk=>obtain⟨a,H',I,q⟩:=h; exact⟨a,H',I.unwish,q⟩
 |cont=>obtain⟨a,H',I,q⟩:=h; exact⟨a,H',I.unwish,q⟩
 |ret u=>obtain⟨v,a,H',I,r,q⟩:=h; exact⟨v,a,H',I.unwish,r,q⟩
theorem PSs.nox{st:Z Stmt}(h:PSs X.nox st t):PSs X st t:=λpins s σ H D I a=>
 Qh (h pins s σ H D (I.wish _) a) (λ_ _ q=>q.unwish) λ_ _ z=>False.elim z
end
section
variable {X:Cx}{st:Stmt}{rest:Z Stmt}{t u:TS}
abbrev tNext:TS:=λD σ H=>D.nx σ H
abbrev tSeq(t u:TS):TS:=λD σ H=>t { D with nx:=u D } σ H
def pss_nil:PSs X [] tNext:=λ_ _ σ H _ I h=>wpAny_execs_nil ⟨σ,H,I,h⟩
def qaj(d:PS X st t)(c:PSs X rest u):PSs X (st::rest) (tSeq t u):=by
 intro pins s σ H D I h;refine wpAny_execs_cons (thn (d pins s σ H { D with nx:=u D } I h) λf b q=>?_)
 cases f with
 |next=>
  obtain⟨a,H',g,q⟩:=q;exact c pins b a H' D g q
 |ret v=>exact q
 |brk=>exact q
 |cont=>exact q
abbrev tBreak:TS:=λD σ H=>D.bk σ H
def ps_break:PS X (.Break pos) tBreak:=λ_ _ σ H _ I h=>wpAny_Break ⟨σ,H,I,h⟩
def Inv.quiet(I:Inv X a b H s):interactive X.env=false:=by simp[interactive,I.ok.kind]
def ps_doc{x j pos pos'}:PS X (.Expr (.Constant (.str x) j pos) pos') tNext:=λ_ s σ H _ I h=>wpAny_Expr (Calls.Constant_str (show SP X _ _ .next { s with toks:=s.toks+1 } from⟨σ,H,I.tok _,h⟩)) I.quiet
abbrev tDrop(te:TE):TS:=λD σ H=>te σ H λ_ H1=>D.nx σ H1
def qne(b:PE X e te)(hs:swapsWith e B pos.line X.env=pure Y6):PS X (.Expr e pos) (tDrop te):=by
 intro pins s σ H D I h;exact wpAny_Expr_any (thn (b pins s σ H _ I h) λv d ⟨x,H1,c,f,a⟩=>⟨σ,H1,c,a⟩) I.quiet hs
abbrev tRet(te:TE):TS:=λD σ H=>te σ H D.rt
def ps_ret(c:PE X e te):PS X (.Return (Y e) pos) (tRet te):=by
 intro pins s σ H D I h;exact wpAny_Return_some (thn (c pins s σ H _ I h) λv f ⟨x,H1,d,a,b⟩=>⟨x,σ,H1,d,a,b⟩)
abbrev tIfS(c:TT)(t u:TS):TS:=λD σ H=>c σ H λb H1=>if b=L then t D σ H1 else u D σ H1
def ps_if(hc:PT X c f)(ha:PSs X a t)(hb:PSs X b u):PS X (.If c a b pos) (tIfS f t u):=by
 intro pins s σ H D I h;refine wpAny_If (thn (hc pins s σ H _ I h) λd g ⟨H1,j,i⟩=>?_)
 cases d with
 |true=>exact ha pins g σ H1 D j i
 |false=>exact hb pins g σ H1 D j i
end
noncomputable abbrev TG:=V->St->Hp->(St->Hp->Prop)->Prop
noncomputable abbrev TGs:=Z V->St->Hp->(St->Hp->Prop)->Prop
def PG(X:Cx)(target:Expr)(t:TG):Prop:=
 ∀(pins:Z ?qi) (s:Qz) (σ:St) (H:Hp) (v:V) (u:Y7) (Q:St->Hp->Prop),Inv X pins σ H s->RelV v u->t v σ H Q->
  wpAny ?v X.A (assign target X.env u) (λ_ s'=>∃σ' H',Inv X pins σ' H' s'/\Q σ' H') X.xe s
def PGs(X:Cx)(ts:Z Expr)(t:TGs):Prop:=
 ∀(pins:Z ?qi) (s:Qz) (σ:St) (H:Hp) (vs:Z V) (us:Z Y7) (Q:St->Hp->Prop),Inv X pins σ H s->Vals vs us->t vs σ H Q->
  wpAny ?v X.A (assignInOrder ((Q0 ts X.env).map (·.2)) us) (λ_ s'=>∃σ' H',Inv X pins σ' H' s'/\Q σ' H') X.xe s
section
abbrev qyh(i:Y0):TG:=λv σ H Q=>Q (σ.set i (Y v)) H
def qdp(c:X.N.Nodup)(b:X.N[i]?=Y x)(a:Loc X.env.scope x)(hf:X.fn x=L\/X.env.scope.names.lookup x=Y .local):PG X (.Name x pos) (qyh i):=by
 intro pins s σ H v u Q I r h;exact wpAny_assign_Name (qy4 I c b a r (λs' d=>⟨_,H,d,h⟩) hf)
abbrev gNil:TGs:=λvs σ H Q=>vs=[]/\Q σ H
abbrev gCons(t:TG)(u:TGs):TGs:=λvs σ H Q=>∃v r,vs=v::r/\t v σ H λσ' H'=>u r σ' H' Q
def qno:PGs X [] gNil:=by
 intro pins s σ H vs a Q I r h;obtain⟨e,h⟩:=h;subst e;cases r;exact assignInOrder_nil ⟨σ,H,I,h⟩
def qhh(g:PG X e t)(f:PGs X es u)(hs:(Q0 (e::es) X.env).map (·.2)=assign e X.env::(Q0 es X.env).map (·.2):=by rfl):PGs X (e::es) (gCons t u):=by
 intro pins s σ H vs l Q I r h;obtain⟨v,k,i,h⟩:=h;subst i
 cases r with
 |cons r c=>
  rw[hs];refine assignInOrder_cons (thn (g pins s σ H _ _ _ I r h) λ_ b ⟨a,H1,j,d⟩=>?_);exact f pins b a H1 _ _ Q j c d
abbrev gTup(K:Qqq)(n:Y0)(t:TGs):TG:=λv σ H Q=>∃a xs,v=.ref a/\SqT K H a xs/\xs.length=n/\t xs σ H Q
def pg_tup(hc:X.calm=L)(h:PGs X es t)(hn:(Q0 es X.env).length=n:=by rfl)(hst:(Q0 es X.env).findIdx? (·.1)=none:=by rfl):PG X (.Tuple es k pos) (gTup X.K n t):=by
 intro pins s σ H v u Q I r c;obtain⟨a,xs,l,j,hl,c⟩:=c;subst l;cases r;obtain⟨f,d,i,p⟩:=I.tuple j;refine assign_Tuple_tuple (I.ok.hd hc) i (by simp[hn,<- hl,d.length]) hst λh' g=>?_;have m:=I.kept (t':=s.toks) λb o e=>g b o (Qq1 (Qqf e)) e;exact h pins _ σ H xs _ Q m (by simpa using d) c
abbrev tAsg(te:TE)(g:TG):TS:=λD σ H=>te σ H λx H1=>g x σ H1 D.nx
def ps_asg(j:PE X e a)(i:PG X tg g)(hs:swapsWithSole [tg] e pos.line X.env=pure false:=by rfl)(f:swappedStores [tg] e X.env=pure none:=by rfl)(k:(Q0 [tg] X.env).map (·.2)=[assign tg X.env]:=by rfl):PS X (.Assign [tg] e pos) (tAsg a g):=by
 intro pins s σ H D I h;refine wpAny_Assign_stores (thn (j pins s σ H _ I h) λv b ⟨x,H1,l,c,d⟩=>?_) hs f;rw[k];exact thn (i pins b σ H1 x v _ l c d) λ_ m q=>q
def qlv(k:X.N.Nodup)(g:X.N[i]?=Y x)(f:Loc X.env.scope x)(j:PE X e b)(hs:swapsWith e (Y (.Name x a)) pos.line X.env=pure false:=by rfl)(hf:X.fn x=L\/X.env.scope.names.lookup x=Y .local):
  PS X (.Assign [.Name x a] e pos) (tAsg b (qyh i)):=by
 intro pins s σ H D I h;refine wpAny_Assign_Name (thn (j pins s σ H _ I h) λv o ⟨y,H1,m,c,d⟩=>?_) hs;exact qy4 m k g f c (λn l=>⟨_,H1,l,d⟩) hf
end
section
end
structure It where
 go:Y0->Hp->Prop
 yld:Y0->Hp->V->Hp->Prop
 stop:Y0->Hp->Prop
def FpOk(X:Cx)(pins:Z ?qi)(H:Hp)(b:Y5):Prop:=
 H b=B/\b≠X.env.locals/\b ∉ X.fs/\(b∈X.ex\/X.s₀.heap.objs.size<=b)/\(∀x c,X.env.cells.lookup x=Y c->c≠b)/\∀p∈X.pn++pins,p.1≠b
def Inv.fpOk(I:Inv X a d H s)(hb:s.heap.objs.size<=b)(hn:H' b=B):FpOk X a H' b:=by
 refine⟨hn,Qxr (Qq0 I.lt hb),I.nofs hb,.inr (Qzn I.sz hb),λx c e z=>?_,λp f z=>?_⟩
 ·obtain⟨v,q⟩:=I.cell x c e;exact absurd (Qq0 q.lt (by rw[z]; exact hb)) (Qxa _)
 ·exact absurd (Qq0 (Qqf (I.pin p f).1) (by rw[z]; exact hb)) (Qxa _)
structure Turn (P:Program) (w:Qj) (K:Qqq) (tg:Expr) (Jq:It) (fp:Z Y5) (it:Y5) (tn:Y0->Heap->Prop):Prop where
 mem:it∈fp
 obj:∀i h,tn i h->∀b∈fp,∃o,h.get? b=Y o/\∀v,o.data≠.cell v
 keep:∀i h h',tn i h->(∀b∈fp,∀o,h.get? b=Y o->h'.get? b=Y o)->tn i h'
 item:∀(X:Cx),X.prog=P->X.w=w->X.K=K->X.calm=L->∀(i:Y0) (pins:Z (Y5×Obj)) (s:Qz) (σ:St) (H:Hp) (E:Y7->Qz->Prop),Inv X pins σ H s->(∀b∈fp,FpOk X pins H b)->tn i s.heap->Jq.go i H->
  wpAny (model P w) X.A (pyNext (.ref it)) (λr s1=>∃u,r=Y u/\
   wpAny (model P w) X.A (Zp tg (.ref it) u) (λ_ s2=>∃x H',Inv X pins σ H' s2/\RelV x u/\Jq.yld i H x H'/\tn (i+1) s2.heap/\∀b∈fp,H' b=B) E s1) E s
 done:∀(X:Cx),X.prog=P->X.w=w->X.K=K->X.calm=L->∀(i:Y0) (pins:Z (Y5×Obj)) (s:Qz) (σ:St) (H:Hp) (E:Y7->Qz->Prop),Inv X pins σ H s->(∀b∈fp,FpOk X pins H b)->tn i s.heap->Jq.stop i H->
  wpAny (model P w) X.A (pyNext (.ref it)) (λr s1=>r=B/\Inv X pins σ H s1) E s
 self:∀(A:Qk) (i:Y0) (s:Qz) (Q:Y7->Qz->Prop) (E:Y7->Qz->Prop),tn i s.heap->Q (.ref it) s->wpAny (model P w) A (pyIter (.ref it)) Q E s
noncomputable abbrev TI:=St->Hp->(It->Hp->Prop)->Prop
def PIE(X:Cx)(pins:Z ?qi)(σ:St)(tg:Expr)(R:It->Hp->Prop)(itv:Y7)(s2:Qz):Prop:=
 ∃(it:Y5) (fp:Z Y5) (tn:Y0->Heap->Prop) (Jq:It) (H':Hp),itv=.ref it/\Inv X pins σ H' s2/\Turn X.prog X.w X.K tg Jq fp it tn/\tn 0 s2.heap/\(∀b∈fp,FpOk X pins H' b)/\R Jq H'
def PI(X:Cx)(tg iter:Expr)(wi:TI):Prop:=
 ∀(pins:Z ?qi) (s:Qz) (σ:St) (H:Hp) (R:It->Hp->Prop),Inv X pins σ H s->wi σ H R->
  wpAny ?v X.A (Qa iter X.env) (λv s1=>wpAny ?v X.A (pyIter v) (PIE X pins σ tg R) X.xe s1) X.xe s
def qe6(b:s.heap.get? it=Y o)(hc:o.cls=.type n)(hd:o.data=.fields vs)(hn:["enumerate","zip","dict_itemiterator","dict_reverseitemiterator","odict_iterator","itertools.zip_longest","itertools.pairwise"].contains n=Y6)(a:Q () s):wpAny M A (Zp tg (.ref it) u) Q E s:=by
 unfold Zp
 cases tg<;>first
  |exact Qx a
  |(cases u<;>first
    |exact Qx a
    |(refine Qq (wpAny_load b ?_)
      rw[hc,hd];show wpAny M A (if (["enumerate","zip","dict_itemiterator","dict_reverseitemiterator","odict_iterator","itertools.zip_longest","itertools.pairwise"].contains n&&vs[0]?==Y (rawInt _))=L then _ else _) Q E s;rw[Z8 (by intro h; rw[hn,Bool.false_and]at h; cases h)]
      exact Qx a))
abbrev Itl(K:Qqq)(a:Y5):It:=
 ⟨λi H=>∃xs x,SqL K H a xs/\xs[i]?=Y x,λi H x H'=>H'=H/\∀xs,SqL K H a xs->xs[i]?=Y x,λi H=>∃xs,SqL K H a xs/\xs.length<=i⟩
abbrev Itt(K:Qqq)(a:Y5):It:=
 ⟨λi H=>∃xs x,SqT K H a xs/\xs[i]?=Y x,λi H x H'=>H'=H/\∀xs,SqT K H a xs->xs[i]?=Y x,λi H=>∃xs,SqT K H a xs/\xs.length<=i⟩
abbrev Itr(lo:J)(n:Y0):It:=⟨λi _=>i<n,λi H x H'=>H'=H/\x=.int (lo+i),λi _=>n<=i⟩
def qcl{K:Qqq}(a it):Turn P w K tg (Itl K a) [it] it (λi h=>h.IsListIter it a i) where
 mem:=by simp
 obj:=λi h st b hb=>by
  have e:b=it:=by simpa using hb
  subst e;obtain⟨o,e,c,d⟩:=st;exact⟨o,e,λv z=>by rw[d]at z; cases z⟩
 keep:=λi h h' st k=>st.at λo e=>k it ?g o e
 item:=by
  intro X q m r hc i pins s σ H E I hf st n;subst q m r;obtain⟨xs,x,f,l⟩:=n;obtain⟨j,g,p,N⟩:=I.list f;obtain⟨u,R,G⟩:=g.get l;obtain⟨D,C,S,A,y,t⟩:=hf it ?g;refine wpAny_pyNext_list_item st p.isList (x:=u) (by simpa using R) λh' st' F=>?_;have U:=I.turned (t':=s.toks) (λb o hb e=>(F.2 b hb).trans e) D C A y t;obtain⟨o,e,c,d⟩:=id st';exact⟨u,rfl,qe6 e c d ?c ⟨x,H,U,G,⟨rfl,λys Q=>by rw[I.list_inj Q f]; exact l⟩,st',λb hb=>(hf b hb).1⟩⟩
 done:=by
  intro X q m r hc i pins s σ H E I hf st n;subst q m r;obtain⟨xs,f,l⟩:=n;obtain⟨j,g,p,N⟩:=I.list f;obtain⟨D,C,S,A,y,t⟩:=hf it ?g;have hl:=g.length;exact wpAny_pyNext_list_end (I.ok.hd hc) st p.isList (by simp; omega) λh' T=>⟨rfl,I.turned (λb o hb e=>T b o hb e) D C A y t⟩
 self:=λ_ _ _ _ _ st h=>wpAny_pyIter_listiter st h
def qbd{K:Qqq}(a it):Turn P w K tg (Itt K a) [it] it (λi h=>h.IsTupleIter it a i) where
 mem:=by simp
 obj:=λi h st b hb=>by
  have e:b=it:=by simpa using hb
  subst e;obtain⟨o,e,c,d⟩:=st;exact⟨o,e,λv z=>by rw[d]at z; cases z⟩
 keep:=λi h h' st k=>st.at λo e=>k it ?g o e
 item:=by
  intro X q m r hc i pins s σ H E I hf st n;subst q m r;obtain⟨xs,x,g,l⟩:=n;obtain⟨f,j,p,N⟩:=I.tuple g;obtain⟨u,R,G⟩:=j.get l;obtain⟨D,C,S,A,y,t⟩:=hf it ?g;refine wpAny_pyNext_tuple_item st (p) (x:=u) (by simpa using R) λh' st' F=>?_;have U:=I.turned (t':=s.toks) (λb o hb e=>(F.2 b hb).trans e) D C A y t;obtain⟨o,e,c,d⟩:=id st';exact⟨u,rfl,qe6 (s:={ s with heap:=h' }) e c d ?c ⟨x,H,U,G,⟨rfl,λys Q=>by rw[I.tuple_inj Q g]; exact l⟩,st',λb hb=>(hf b hb).1⟩⟩
 done:=by
  intro X q m r hc i pins s σ H E I hf st n;subst q m r;obtain⟨xs,g,l⟩:=n;obtain⟨f,j,p,N⟩:=I.tuple g;obtain⟨D,C,S,A,y,t⟩:=hf it ?g;have hl:=j.length;exact wpAny_pyNext_tuple_end (I.ok.hd hc) st (p) (by simp; omega) λh' T=>⟨rfl,I.turned (λb o hb e=>T b o hb e) D C A y t⟩
 self:=λ_ _ _ _ _ st h=>wpAny_pyIter_tupleiter st h
def qbe{K:Qqq}(it)(a)(n):Turn P w K tg (Itr a n) [it] it (λi h=>IsRangeIter h it (a+(i:Y0)*1) ((n:J) - (i:Y0)) 1) where
 mem:=by simp
 obj:=λi h st b hb=>by
  have e:b=it:=by simpa using hb
  subst e
  exact⟨_,st,λv z=>by
   have r:=z
   cases r⟩
 keep:=λi h h' st k=>k it ?g _ st
 item:=by
  intro X f c g hc i pins s σ H E I hf st d;subst f c g;obtain⟨q,p,x,m,l,j⟩:=hf it ?g;have W:=Walks.range (prog:=X.prog) (w:=X.w) (I.ok.hd hc) it a 1 n;refine W.item i s _ _ d st λv h' tk hv st' u=>?_;obtain⟨t,rfl⟩:=hv;have A:Inv X pins σ H { s with heap:=h',toks:=tk }:=I.turned (λb o hb e=>u b o (by simpa using hb) e) q p m l j;refine⟨_,rfl,qe6 st' rfl rfl ?c ⟨.int (a+i),H,A,⟨t,?_⟩,⟨rfl,rfl⟩,st',λb hb=>(hf b hb).1⟩⟩;rw[Int.mul_one]
 done:=by
  intro X f c g hc i pins s σ H E I hf st d;subst f c g;obtain⟨q,p,x,m,l,j⟩:=hf it ?g;exact wpAny_pyNext_range_end (I.ok.hd hc) st (by have:n<=i:=d; omega) λh' y=>⟨rfl,I.turned (λb o hb e=>y b o hb e) q p m l j⟩
 self:=λ_ _ _ _ _ st h=>wpAny_pyIter_rangeiter st h
section
def qax{lo:J}(I:Inv X c d H s)(j:-(2 ^ 62)<=lo)(i:lo<2 ^ 62)(h:-(2 ^ 62)<=a)(g:a<2 ^ 62)(q:R (Itr lo (a - lo).toNat) H):wpAny ?v X.A (pyIter ?Z) (PIE X c d tg R) E { s with heap:=s.heap.push { cls:=.type "range",data:=.fields #[.int lo t,.int a u,.int 1 v] },toks:=tk }:=by
 refine wpAny_pyIter_range (IsRange.new ..) (small_one j i h g) ?_;have f:Inv X c d H { s with heap:=s.heap.push { cls:=.type "range",data:=.fields #[.int lo t,.int a u,.int 1 v] },toks:=tk }:=I.kept λb o e=>Qqx _ e
 refine⟨(s.heap.push { cls:=.type "range",data:=.fields #[.int lo t,.int a u,.int 1 v] }).objs.size,[(s.heap.push { cls:=.type "range",data:=.fields #[.int lo t,.int a u,.int 1 v] }).objs.size],_,_,H,rfl,
  f.kept λb o e=>Qqx _ e,qbe _ lo (a - lo).toNat,?_,λb hb=>?_,q⟩
 ·have l:lo+((0:Y0):J)*1=lo:=by simp
  have k:(((a - lo).toNat:Y0):J) - ((0:Y0):J)=Builtin.Range.rangeSize lo a 1:=by rw[rangeSize_one]; split<;>omega
  rw[l,k];exact Qqh _ rfl
 ·have e:b=(s.heap.push { cls:=.type "range",data:=.fields #[.int lo t,.int a u,.int 1 v] }).objs.size:=by simpa using hb
  subst e;exact f.fpOk (Qqw _) (f.hok.fresh (Qqw _))
abbrev iRng1(ta:TA):TI:=λσ H R=>ta σ H λvs H1=>∃j:J,vs=[.int j]/\-(2 ^ 62)<=j/\j<2 ^ 62/\R (Itr 0 j.toNat) H1
abbrev iRng2(ta:TA):TI:=λσ H R=>ta σ H λvs H1=>∃i j:J,vs=[.int i,.int j]/\(-(2 ^ 62)<=i/\i<2 ^ 62/\-(2 ^ 62)<=j/\j<2 ^ 62)/\R (Itr i (j - i).toNat) H1
def qdo(k:Gl X "range")(i:X.mg "range" = B)(ha:PA X [a] c)(hs:starEach [a] X.env=[(Y6,Qa a X.env)]:=by rfl):PI X tg (.Call (.Name "range" p) [a] [] pos) (iRng1 c):=by
 intro pins s σ H R I h;refine Call_ (qx5 I k i boot_range (PyProof.Rows.callWith_type1 (thn (ha pos pins s σ H _ I h) λm n ⟨vs,H1,l,f,b⟩=>?_) hs rfl));obtain⟨j,e,b,g,q⟩:=b;subst e
 cases f with
 |cons r d=>
  cases d;obtain⟨t,rfl⟩:=r;exact call_range_1 (qax l ?q ?q b g (by simpa using q))
def qdn(u:Gl X "range")(o:X.mg "range" = B)(ha:PA X [a,b] g)(hs:starEach [a,b] X.env=[(Y6,Qa a X.env),(Y6,Qa b X.env)]:=by rfl)(c:starEach [b] X.env=[(Y6,Qa b X.env)]:=by rfl):
  PI X tg (.Call (.Name "range" p) [a,b] [] pos) (iRng2 g):=by
 intro pins s σ H R I h;refine Call_ (qx5 I u o boot_range (PyProof.Rows.callWith_type1 (thn (ha pos pins s σ H _ I h) λw y ⟨vs,H1,v,k,f⟩=>?_) (by rw[hs,c]) (by rw[c]; rfl)));obtain⟨i,j,e,⟨f,n,m,l⟩,q⟩:=f;subst e
 cases k with
 |cons r d=>
  cases d with
  |cons r' d=>
   cases d;obtain⟨t,rfl⟩:=r;obtain⟨x,rfl⟩:=r';exact call_range_2 (qax v f n m l q)
abbrev tFor(wi:TI)(g:TG)(tb:TS):TS:=λD σ H=>wi σ H λJq H1=>∃W:Y0->Y0->St->Hp->Prop,(∃m,W 0 m σ H1)/\∀i m σ H,W i m σ H->
 (Jq.stop i H/\D.nx σ H)\/(Jq.go i H/\∃N:St->Hp->Prop,(∀σ' H',N σ' H'->∃m',m'<m/\W (i+1) m' σ' H')/\∀x H',Jq.yld i H x H'->g x σ H' λσ2 H2=>tb { D with nx:=N,ct:=N,bk:=D.nx } σ2 H2)
abbrev qv1(fp:Z Y5)(h:Heap):Z ?qi:=fp.filterMap λb=>(h.get? b).map λo=>(b,o)
def qqr(hb:b∈fp)(e:h.get? b=Y o):(b,o)∈qv1 fp h:=Qxq.mpr ⟨b,hb,by rw[e]; rfl⟩
def qd6(a:p∈qv1 fp h):p.1∈fp/\h.get? p.1=Y p.2:=by
 obtain⟨b,hb,e⟩:=Qxq.mp a
 cases q:h.get? b with
 |none=>rw[q]at e; cases e
 |some o=>
  rw[q]at e;have c:=Option.some.inj e;subst c;exact⟨hb,q⟩
def Inv.pinned(I:Inv X a c H s)(hf:∀b∈fp,FpOk X a H b)(h:∀b∈fp,∃o,s.heap.get? b=Y o/\∀v,o.data≠.cell v):Inv X (a++qv1 fp s.heap) c H s:=
 I.pins_of λp g=>(Qqi.mp g).elim (λz=>I.pin p (Qql _ z)) λz=>by
  obtain⟨hb,e⟩:=qd6 z;obtain⟨k,j,i,_⟩:=hf p.1 hb;obtain⟨o,f,d⟩:=h p.1 hb;rw[e]at f; cases f;exact⟨e,k,j,i,d⟩
def Inv.unpinned(I:Inv X (a++pl) b H s):Inv X a b H s:=I.pins_of λp c=>I.pin p (Qql _ (Qzq _ c))
def qlw(E:PassesOwn ?v X.A X.env X.xe)(hc:X.calm=L)(hi:PI X tg l U)(hg:PG X tg g)(hb:PSs X body tb)(hs:∀x,foldedSetIterable l X.env x=pure x):PS X (.For tg l body [] pos) (tFor U g tb):=by
 intro pins s σ H D I h;refine wpAny_For (thn (hi pins s σ H _ I h) λv s1 h1=>thn h1 λa0 s2 h2=>?_) hs;obtain⟨it,fp,V,Jq,H2,e,I2,T,P,f2,W,⟨m0,w0⟩,z⟩:=h2;subst e;have k:∀{H':Hp},(∀b∈fp,H' b=B)->∀b∈fp,FpOk X pins H' b:=λhn b hb=>⟨hn b hb,(f2 b hb).2⟩
 refine codeAny_forLoop_any (λn s'=>∃i j H',Inv X pins j H' s'/\V i s'.heap/\(∀b∈fp,H' b=B)/\W i n j H') ?_ m0 ⟨0,σ,H2,I2,P,λb hb=>(f2 b hb).1,w0⟩;rintro n s3 ⟨i,c,G,I3,A,F,w3⟩;rcases z i n c G w3 with⟨stop,qn⟩|⟨go,N,hN,step⟩
 ·refine Za E (thn (T.done X rfl rfl rfl hc i pins s3 c G X.xe I3 (k F) A stop) λr s4 ⟨hr,I4⟩=>?_);subst hr;exact wpAny_execs_nil ⟨c,G,I4,qn⟩
 ·refine Za E (thn (T.item X rfl rfl rfl hc i pins s3 c G X.xe I3 (k F) A go) λr s4 ⟨u,hr,h4⟩=>?_);subst hr;refine Za E (thn h4 λ_ s5 ⟨x,H5,I5,r5,y5,y,R⟩=>?_);have S:=I5.pinned (k R) (T.obj _ _ y);refine Za E (thn (hg _ s5 c H5 x u _ S r5 (step x H5 y5)) λ_ s6 ⟨K,H6,I6,q6⟩=>?_);refine Za E (thn (hb _ s6 K H6 _ I6 q6) λf Q w=>?_);have p:∀{a:St}{t:Hp},Inv X (pins++qv1 fp s5.heap) a t Q->N a t->∃m,m<n/\∃i j H',Inv X pins j H' Q/\V i Q.heap/\(∀b∈fp,H' b=B)/\W i m j H':=λ{a t} q C=>by
   obtain⟨m',hm,w7⟩:=hN a t C;refine⟨m',hm,i+1,a,t,q.unpinned,T.keep _ _ _ y λb hb o e=>(q.pin (b,o) (Qql _ (Qql _ (qqr hb e)))).1,λb hb=>?_,w7⟩;obtain⟨o,e,d⟩:=T.obj _ _ y b hb;exact(q.pin (b,o) (Qql _ (Qql _ (qqr hb e)))).2.1
  cases f with
  |next=>obtain⟨a,t,q,C⟩:=w; exact p q C
  |cont=>obtain⟨a,t,q,C⟩:=w; exact p q C
  |brk=>obtain⟨a,t,q,w⟩:=w; exact⟨a,t,q.unpinned,w⟩
  |ret v=>obtain⟨x7,a,t,q,r7,w⟩:=w; exact⟨x7,a,t,q.unpinned,r7,w⟩
end
noncomputable abbrev R2:=V->V->Hp->VK->Prop
def OpR(X:Cx)(f:Y7->Y7->Sem Y7)(r:R2):Prop:=
 ∀(pins:Z ?qi) (s:Qz) (σ:St) (H:Hp) (x y:V) (v u:Y7) (Q:VK),Inv X pins σ H s->RelV x v->RelV y u->r x y H Q->
  wpAny ?v X.A (f v u) (EP X pins σ Q) X.xe s
def UnR(X:Cx)(f:Y7->Sem Y7)(r:V->Hp->VK->Prop):Prop:=
 ∀(pins:Z ?qi) (s:Qz) (σ:St) (H:Hp) (x:V) (v:Y7) (Q:VK),Inv X pins σ H s->RelV x v->r x H Q->
  wpAny ?v X.A (f v) (EP X pins σ Q) X.xe s
def qqv(X:Cx)(f:Y7)(r:Z V->Hp->VK->Prop):Prop:=
 ∀(pins:Z ?qi) (s:Qz) (σ:St) (H:Hp) (xs:Z V) (us:Z Y7) (Q:VK),Inv X pins σ H s->Vals xs us->r xs H Q->
  wpAny ?v X.A (call f us) (EP X pins σ Q) X.xe s
def TruR(X:Cx)(r:V->Hp->(Yb->Hp->Prop)->Prop):Prop:=
 ∀(pins:Z ?qi) (s:Qz) (σ:St) (H:Hp) (x:V) (v:Y7) (Q:Yb->Hp->Prop),Inv X pins σ H s->RelV x v->r x H Q->
  wpAny ?v X.A (truthy v) (TP X pins σ Q) X.xe s
abbrev tOp(r:R2)(ta tb:TE):TE:=λσ H Q=>ta σ H λx H1=>tb σ H1 λy H2=>r x y H2 Q
abbrev tUn(r:V->Hp->VK->Prop)(ta:TE):TE:=λσ H Q=>ta σ H λx H1=>r x H1 Q
abbrev rI(C:J->J->Prop)(g:J->J->V):R2:=λx y H Q=>∃i j,x=.int i/\y=.int j/\C i j/\Q (g i j) H
abbrev rI0(g:J->J->V):R2:=λx y H Q=>∃i j,x=.int i/\y=.int j/\Q (g i j) H
def rU(g:J->V):V->Hp->VK->Prop:=λx H Q=>∃i,x=.int i/\Q (g i) H
section
def binT(ha:PE X a ta)(hb:PE X b tb){R:V->V->Hp->Prop}(I:Inv X d e H s)(h:ta e H λx H1=>tb e H1 λy H2=>R x y H2){f:Y7->Y7->Sem Y7}(hf:∀v u j x y H2,Inv X d e H2 j->RelV x v->RelV y u->R x y H2->wpAny ?v X.A (f v u) Q X.xe j):
  wpAny ?v X.A (Qa a X.env) (λv i=>wpAny ?v X.A (Qa b X.env) (λu g=>wpAny ?v X.A (f v u) Q X.xe g) X.xe i) X.xe s:=by
 refine thn (ha d s e H _ I h) λv k ⟨x,H1,q,m,o⟩=>?_;refine thn (hb d k e H1 _ q o) λu j ⟨y,H2,p,l,n⟩=>?_;exact hf v u j x y H2 p m l n
def pe_op(i:OpR X (Q4 d) r)(ha:PE X a ta)(hb:PE X b tb):PE X (.BinOp a d b pos) (tOp r ta tb):=by
 intro pins s σ H Q I h;exact wpAny_BinOp (binT ha hb I h λv u e x y H2 j g f q=>i pins e σ H2 x y v u Q j g f q)
def pe_un(i:UnR X (unaryOp d) r)(ha:PE X a ta):PE X (.UnaryOp d a pos) (tUn r ta):=by
 intro pins s σ H Q I h;exact UnaryOp_ (thn (ha pins s σ H _ I h) λv e ⟨x,H1,j,f,g⟩=>i pins e σ H1 x v Q j f g)
def opI{g:J->J->J}(d:∀(i j:J) (t u:Tok) (s:Qz) (Q:Y7->Qz->Prop) (E:Y7->Qz->Prop),C i j->Q (.int (g i j) s.toks) { s with toks:=s.toks+1 }->wpAny ?v X.A (f (.int i t) (.int j u)) Q E s):
  OpR X f (rI C λi j=>.int (g i j)):=by
 intro pins s σ H x y v u Q I l k h;obtain⟨i,j,rfl,rfl,hc,q⟩:=h;obtain⟨t,rfl⟩:=l;obtain⟨e,rfl⟩:=k;exact d i j t e s _ _ hc ⟨.int (g i j),H,I.tok _,⟨_,rfl⟩,q⟩
def opI0{g:J->J->J}(d:∀(i j:J) (t u:Tok) (s:Qz) (Q:Y7->Qz->Prop) (E:Y7->Qz->Prop),Q (.int (g i j) s.toks) { s with toks:=s.toks+1 }->wpAny ?v X.A (f (.int i t) (.int j u)) Q E s):
  OpR X f (rI0 λi j=>.int (g i j)):=by
 intro pins s σ H x y v u Q I l k h;obtain⟨i,j,rfl,rfl,q⟩:=h;obtain⟨t,rfl⟩:=l;obtain⟨e,rfl⟩:=k;exact d i j t e s _ _ ⟨.int (g i j),H,I.tok _,⟨_,rfl⟩,q⟩
def opB0{g:J->J->Yb}(d:∀(i j:J) (t u:Tok) (s:Qz) (Q:Y7->Qz->Prop) (E:Y7->Qz->Prop),Q (.bool (g i j)) s->wpAny ?v X.A (f (.int i t) (.int j u)) Q E s):
  OpR X f (rI0 λi j=>.bl (g i j)):=by
 intro pins s σ H x y v u Q I l k h;obtain⟨i,j,rfl,rfl,q⟩:=h;obtain⟨t,rfl⟩:=l;obtain⟨e,rfl⟩:=k;exact d i j t e s _ _ ⟨.bl (g i j),H,I,rfl,q⟩
def CPow(i j:J):Prop:=0<=j/\j<=1000000/\i.natAbs<2 ^ 64
def CMul(i j:J):Prop:=(-(2 ^ 64)<i/\i<2 ^ 64)\/(-(2 ^ 64)<j/\j<2 ^ 64)
def CMul.ok(h:CMul i j):IntMulOk i j:=by
 rcases h with⟨h1,h2⟩|⟨h1,h2⟩
 ·exact .of_left (intBits_le_64 h1 h2)
 ·exact .of_right (intBits_le_64 h1 h2)
def op_add:OpR X (Q4 .Add) (rI0 λi j=>.int (i+j)):=opI0 λ_ _ _ _ _ _ _ q=>add_int q
def op_sub:OpR X (Q4 .Sub) (rI0 λi j=>.int (i - j)):=opI0 λ_ _ _ _ _ _ _ q=>sub_int q
def op_mul:OpR X (Q4 .Mult) (rI CMul λi j=>.int (i*j)):=opI λ_ _ _ _ _ _ _ hc q=>mul_int q hc.ok
def op_mod:OpR X (Q4 .Mod) (rI (λ_ j=>0<j) λi j=>.int (i % j)):=opI λi j _ _ _ _ _ hc q=>by
 have h1:=hc;exact mod_int' ?q (by rw[Int.fmod_eq_emod_of_nonneg i ?q]; exact q)
def op_pow:OpR X (Q4 .Pow) (rI CPow λi j=>.int (i ^ j.toNat)):=opI λ_ _ _ _ _ _ _ hc q=>pow_int_small hc.1 hc.2.1 hc.2.2 q
def unI{g:J->J}(d:∀(i:J) (t:Tok) (s:Qz) (Q:Y7->Qz->Prop) (E:Y7->Qz->Prop),Q (.int (g i) s.toks) { s with toks:=s.toks+1 }->wpAny ?v X.A (f (.int i t)) Q E s):
  UnR X f (rU λi=>.int (g i)):=by
 intro pins s σ H x v Q I e h;obtain⟨i,rfl,q⟩:=h;obtain⟨t,rfl⟩:=e;exact d i t s _ _ ⟨.int (g i),H,I.tok _,⟨_,rfl⟩,q⟩
def un_neg:UnR X (unaryOp .USub) (rU λi=>.int (-i)):=unI λ_ _ _ _ _ q=>neg_int q
end
section
def ql4(I:Inv X d f H s)(q:Q (.bl k) H)(e:k=g):EP X d f Q (.bool g) s:=by
 subst e;exact⟨.bl k,H,I,rfl,q⟩
def op_lt:OpR X (Qg .Lt) (rI0 λi j=>.bl (decide (i<j))):=opB0 λ_ _ _ _ _ _ _ q=>lt_int q
def op_le:OpR X (Qg .LtE) (rI0 λi j=>.bl (decide (i<=j))):=opB0 λ_ _ _ _ _ _ _ q=>le_int q
def op_gt:OpR X (Qg .Gt) (rI0 λi j=>.bl (decide (j<i))):=opB0 λ_ _ _ _ _ _ _ q=>gt_int q
def op_ge:OpR X (Qg .GtE) (rI0 λi j=>.bl (decide (j<=i))):=opB0 λ_ _ _ _ _ _ _ q=>ge_int q
def op_isN:OpR X (Qg .Is) (λx y H Q=>y=.non/\Q (.bl (decide (x=.non))) H):=by
 intro pins s σ H x y v u Q I d e h;obtain⟨rfl,q⟩:=h;cases e;refine is_none_gen (ql4 I q ?_)
 cases x<;>first
  |(cases d; rfl)
  |(obtain⟨t,rfl⟩:=d; rfl)
def qoq:OpR X (Qg .IsNot) (λx y H Q=>y=.non/\Q (.bl (!decide (x=.non))) H):=by
 intro pins s σ H x y v u Q I d e h;obtain⟨rfl,q⟩:=h;cases e;refine isnot_none_gen (ql4 I q ?_)
 cases x<;>first
  |(cases d; rfl)
  |(obtain⟨t,rfl⟩:=d; rfl)
def qn3(i:OpR X (Qg d) r)(ha:PE X a ta)(hb:PE X b tb)(j:Zh d b=Y6):PE X (.Compare a [d] [b] pos) (tOp r ta tb):=by
 intro pins s σ H Q I h;exact wpAny_Compare1 (binT ha hb I h λv u e x y H2 k g f q=>i pins e σ H2 x y v u Q k g f q) j
abbrev tTest(t:TE):TT:=λσ H Q=>t σ H λx H'=>∃k,x=.bl k/\Q k H'
def qnc(p:OpR X (Qg d) r)(ha:PE X a ta)(hb:PE X b tb)(q:Zh d b=Y6):PT X (.Compare a [d] [b] pos) (tTest (tOp r ta tb)):=by
 intro pins s σ H Q I h
 refine wpAny_isTrue_Compare1 (thn (ha pins s σ H _ I h) λv g ⟨x,H1,A,l,o⟩=>thn (hb pins g σ H1 _ A o) λu f ⟨y,H2,w,j,n⟩=>
  thn (p pins f σ H2 x y v u _ w l j n) λc D ⟨z,C,t,i,k,e,m⟩=>?_) q
 subst e;cases i;exact Qe ⟨C,t,m⟩
abbrev qi7(r r':R2)(ta tb tc:TE):TE:=λσ H Q=>ta σ H λx H1=>tb σ H1 λy H2=>r x y H2 λz H3=>∃k,z=.bl k/\
 (if k=L then tc σ H3 λw' H4=>r' y w' H4 Q else Q (.bl Y6) H3)
def qhr(P:OpR X (Qg g) r)(i:OpR X (Qg f) l)(ha:PE X a ta)(hb:PE X b tb)(hc:PE X c tc)(R:lastMarks [g,f] [b,c]=Y6):PE X (.Compare a [g,f] [b,c] pos) (qi7 r l ta tb tc):=by
 intro pins s σ H Q I h
 refine Compare_chain (thn (ha pins s σ H _ I h) λv C ⟨x,H1,U,F,N⟩=>chain_link (thn (hb pins C σ H1 _ U N) λu A ⟨y,H2,T,j,K⟩=>
  thn (P pins A σ H2 x y v u _ T F j K) λd w ⟨z,o,n,E,k,e,m⟩=>?_)) R
 subst e;cases E;refine Qe ?_
 cases k with
 |false=>exact ite_ff ⟨.bl Y6,o,n,rfl,m⟩
 |true=>exact ite_tt (chain_last (thn (hc pins w σ o _ n m) λq t ⟨p,V,S,D,G⟩=>i pins t σ V y p u q Q S j D G))
def qhb(T:OpR X (Qg g) r)(i:OpR X (Qg f) l)(ha:PE X a ta)(hb:PE X b tb)(hc:PE X c tc)(U:lastMarks [g,f] [b,c]=Y6):PT X (.Compare a [g,f] [b,c] pos) (tTest (qi7 r l ta tb tc)):=by
 intro pins s σ H Q I h
 refine isTrue_chain (thn (ha pins s σ H _ I h) λv C ⟨x,H1,I1,G,R⟩=>test_link (thn (hb pins C σ H1 _ I1 R) λu A ⟨y,H2,I2,j,P⟩=>
  thn (T pins A σ H2 x y v u _ I2 G j P) λd w ⟨z,o,n,F,k,e,m⟩=>?_)) U
 subst e;cases F;refine Qe ?_
 cases k with
 |false=>
  obtain⟨k',W,S⟩:=m;cases W;exact ite_ff ⟨o,n,S⟩
 |true=>
  refine ite_tt (test_last (thn (hc pins w σ o _ n m) λq t ⟨p,H4,I4,E,N⟩=>thn (i pins t σ H4 y p u q _ I4 j E N) λd' s5 ⟨z2,H5,I5,D,k2,V,K⟩=>?_));subst V;cases D;exact Qe ⟨H5,I5,K⟩
def TruV(K:Qqq)(x:V)(H:Hp)(k:Yb):Prop:=
 match x with
 |.non=>k=Y6
 |.bl b=>k=b
 |.int i=>k=(i != 0)
 |.str y=>y.length<=sizeLine/\k=((y.length:J) != 0)
 |.byt y=>y.size<=sizeLine/\k=((y.size:J) != 0)
 |.ref p=>(∃xs,SqL K H p xs/\k = !xs.isEmpty)\/(∃xs,SqT K H p xs/\k = !xs.isEmpty)\/∃kvs,H p=Y (.dK kvs)/\k = !kvs.isEmpty
 |_=>False
def qb8{kvs:Z (d×V)}{vs:Z (d×Y7)}(r:KV kvs vs):(!vs.isEmpty) = !kvs.isEmpty:=by
 cases r<;>rfl
def qko(r:Vals xs d):(!d.toArray.isEmpty) = !xs.isEmpty:=by
 cases r<;>simp
def qan:(sizeLine:Y0)<2 ^ 63:=by rw[Q2]; decide
def tru_ok:TruR X (λx H Q=>∃k,TruV X.K x H k/\Q k H):=by
 intro pins s σ H x v Q I g h;obtain⟨k,e,q⟩:=h;have hl:=qan;have hs:=Q2
 cases x with
 |non=>
  cases g;have d:=e;subst d;exact truthy_none ⟨H,I,q⟩
 |bl b=>
  cases g;have d:=e;subst d;exact Qe ⟨H,I,q⟩
 |int i=>
  obtain⟨t,rfl⟩:=g;have d:=e;subst d;exact PySem.P.truthy_int ⟨H,I,q⟩
 |str y=>
  obtain⟨t,rfl⟩:=g;obtain⟨o,d⟩:y.length<=sizeLine/\k=((y.length:J) != 0):=e;subst d;exact PySem.P.truthy_str ?q ⟨H,I.tok _,q⟩
 |byt y=>
  obtain⟨t,rfl⟩:=g;obtain⟨o,d⟩:y.size<=sizeLine/\k=((y.size:J) != 0):=e;subst d;exact PySem.W.truthy_bytes ?q ⟨H,I.tok _,q⟩
 |ref p=>
  cases g;have d:=e;rcases d with⟨xs,j,d⟩|⟨xs,j,d⟩|⟨kvs,j,d⟩
  ·subst d;obtain⟨l,r,pl,n⟩:=I.list j;have f:=r.length;exact wpAny_truthy_list pl.isList (by simp only[Qqe]; omega) ⟨H,I.tok _,by rw[qko r]; exact q⟩
  ·subst d;obtain⟨l,r,pl,n⟩:=I.tuple j;have f:=r.length;exact truthy_tuple pl (by simp only[Qqe]; omega) ⟨H,I.tok _,by rw[qko r]; exact q⟩
  ·subst d;obtain⟨n,hS,vs,r,m⟩:kvs.length<=sizeLine/\(p==Qo)=Y6/\∃vs,KV kvs vs/\s.heap.DictOf (mixKind X.prog X.w) p vs:=I.hok p _ j;have f:=Paired.length r;exact wpAny_truthy_dict hS m ?q ⟨H,I.tok _,by rw[qb8 r]; exact q⟩
 |_=>exact(e).elim
def qha(ha:PE X a ta)(i:∀d,isTrue a X.env d=(do let v <- d; standAt a.pos; Zo [v] (truthy v))):
  PT X a (λσ H Q=>ta σ H λx H'=>∃k,TruV X.K x H' k/\Q k H'):=by
 intro pins s σ H Q I h;exact isTrue_plain (thn (ha pins s σ H _ I h) λv e ⟨x,H1,j,f,g⟩=>tru_ok pins e σ H1 x v Q j f g) (i _)
def vals1(r:Vals [x] us):∃u,us=[u]/\RelV x u:=by
 cases r with
 |cons e d=>cases d; exact⟨_,rfl,e⟩
def vals2(r:Vals [x,y] us):∃u w',us=[u,w']/\RelV x u/\RelV y w':=by
 cases r with
 |cons g f=>
  cases f with
  |cons e d=>cases d; exact⟨_,_,rfl,g,e⟩
def qf0(hc:X.calm=L):qqv X (.builtin "max") (λxs H Q=>∃i j,xs=[.int i,.int j]/\Q (.int (if j > i then j else i)) H):=by
 intro pins s σ H xs e Q I r h;obtain⟨i,j,rfl,q⟩:=h;obtain⟨u,d,rfl,⟨t,rfl⟩,⟨f,rfl⟩⟩:=vals2 r;refine max_two_ints (I.ok.hd hc) λh' tk k=>⟨_,H,I.kept k,?_,q⟩
 by_cases hj:j > i
 ·rw[Z9 hj,Z9 hj]; exact⟨_,rfl⟩
 ·rw[Z8 hj,Z8 hj]; exact⟨_,rfl⟩
def qft(hc:X.calm=L):qqv X (.builtin "min") (λxs H Q=>∃i j,xs=[.int i,.int j]/\Q (.int (if j<i then j else i)) H):=by
 intro pins s σ H xs e Q I r h;obtain⟨i,j,rfl,q⟩:=h;obtain⟨u,d,rfl,⟨t,rfl⟩,⟨f,rfl⟩⟩:=vals2 r;refine min_two_ints (I.ok.hd hc) λh' tk k=>⟨_,H,I.kept k,?_,q⟩
 by_cases hj:j<i
 ·rw[Z9 hj,Z9 hj]; exact⟨_,rfl⟩
 ·rw[Z8 hj,Z8 hj]; exact⟨_,rfl⟩
end
structure ObjM (h:Heap) (x dx C:Y5) (mA:Y4->Y2 Y7):Prop where
 obj:h.get? x=Y (PySem.W.instObj C dx)
 ns:h.Ns1 dx mA
 ne:dx≠x
def qey{h:Heap}(n:h.Ns1 f d):∃c,h.get? f=Y c/\∀name,PySem.W.lookIn name c=Y (d name):=by
 obtain⟨o,es,l,i,hd,hk,_,j⟩:=n;refine⟨o,i,λname=>?_⟩;have e:=j name;unfold nsFind findBy at e;rw[<- Array.find?_toList]at e;unfold PySem.W.lookIn;rw[hd];dsimp only
 split
 ·rename_i y q;rw[q]at e;exact congrArg Y e
 ·rename_i q;rw[q]at e;have a:es.toList.any (·.refKey)=false:=by
   rw[Qkz];intro y g;obtain⟨z,t,b⟩:=hk y (Array.mem_toList_iff.mp g);simp[DictEntry.refKey,b]
  have k:¬ es.toList.any (·.refKey)=true:=by rw[a]; exact Qzx
  rw[Z8 k];exact congrArg Y e
def ObjM.look(I:ObjM h x c C b):∃a,PySem.W.InstAt h x (PySem.W.instObj C c) C (Y a)/\∀name,PySem.W.lookIn name a=Y (b name):=
 let ⟨a,d,hl⟩:=qey I.ns
 ⟨a,⟨I.obj,rfl,rfl,d⟩,hl⟩
section
variable {prog:Program}{w:Qj}{A:Qk}{E:Y7->Qz->Prop}{s:Qz}{K:Qqq}{x dx C f:Y5}{mA:Y4->Y2 Y7}{name:Y4}{v:Y7}
def qpx(X:K.In s.heap)(I:ObjM s.heap x dx C mA)(c:PySem.W.plainGet K C name=L)(b:PySem.W.hasDictIn K C=L)(ha:PySem.W.findIn K (.ref C) name=Y B)(hv:mA name=Y v)(a:PySem.W.handedIn v=L)(h:Q v { s with toks:=s.toks+1 }):
  wpAny ?A A (getAttr (.ref x) name expr) Q E s:=by
 obtain⟨e,d,hl⟩:=I.look;exact PySem.W.get_value X d (Qj6 c).1 (PySem.W.findObj_own b ha rfl (by rw[hl,hv])) a h
def qij(X:K.In s.heap)(I:ObjM s.heap x dx C mA)(a:PySem.W.plainGet K C name=L)(hf:PySem.W.findIn K (.ref C) name=Y (Y (.ref f)))(c:PySem.W.isFn K (.ref f)=L)(hv:mA name=B)(h:Q (.ref f,[.ref x]) s):
  wpAny ?A A (Z2 (.ref x) name pl) Q E s:=by
 obtain⟨b,d,hl⟩:=I.look;exact PySem.W.method_fn X d (Qj6 a).1 (Qj6 a).2 hf (beq_iff_eq.mp c) (by show(PySem.W.lookIn name b).map (·.isSome)=Y Y6; rw[hl,hv]; rfl) h
def qm7(X:K.In s.heap)(I:ObjM s.heap x dx C mA)(hs:PySem.W.findIn K (.ref C) "__setattr__" = Y (Y (.builtin "object.__setattr__")))(o:PySem.W.plainOver K C=L)(n:PySem.W.takerIn K C name=Y B)(p:PySem.W.hasDictIn K C=L)(m:PySem.Within mA ns)(hsz:ns.length<=sizeLine)(h:∀h',ObjM h' x dx C (λy=>if y=name then Y v else mA y)->Heap.SameBut dx s.heap h'->Q () { s with heap:=h',toks:=s.toks+2 }):
  wpAny ?A A (setAttr (.ref x) name v) Q E s:=by
 obtain⟨u,k,hl⟩:=I.look;refine PySem.W.set_plain X k hs (PySem.W.osa_open X k o n λb=>?_);obtain⟨z,hc,i⟩:=PySem.W.any_some p;have l:=I.obj;refine Qq (Qx (Qq (Qq (wpAny_loadPart l (Qq (PySem.W.Looks.here (PySem.W.looks_clsIn X hc) ?_))))));rw[i];refine Qx (Qq (Qx (Qq ?_)));refine wpAny_nsSet1 I.ns λh' d c=>?_;obtain⟨oD,q,t,e,g,j⟩:=d.count (PySem.Within.cons name v m);refine Qq (wpAny_lookBehind e (by rw[g]; exact pastItsLine_dict (Qzn j (by rw[Qqm]; omega))) ?_);exact Qx (h _ ⟨(c.2 _ (Ne.symm I.ne)).trans I.obj,d,I.ne⟩ c)
def qh4(X:K.In s.heap)(b:PySem.W.makesIn K C=L)(c:PySem.W.findIn K (.ref C) "__init__" = Y (Y (.ref f)))(hf:PySem.W.typeIn K (.ref f)=Y (.type "function"))(h:Zk ?A (A.under (.builtin "type.__call__" ⟨.ref C::vs,a⟩)) (.call (.ref f) ⟨.ref ?O::vs,a⟩) (PySem.W.InitBack ?O R)
   { s with heap:=(s.heap.push PySem.W.emptyDict).push (PySem.W.instObj C s.heap.objs.size) }):
  Zk ?A A (.call (.ref C) ⟨vs,a⟩) R s:=by
 obtain⟨e,g,d,t,os⟩:=s;exact PySem.W.make_core (PySem.W.makes_of X b) (PySem.W.looks_findIn X c) (λself=>PySem.W.bind_fn X self hf) ?qu h
end
abbrev putF(f:Y4)(v:V):Z (Y4×V)->Z (Y4×V)
 |[]=>[(f,v)]
 |(g,x)::r=>if g=f then(g,v)::r else(g,x)::putF f v r
theorem qju(f g)(v):∀fs:Z (Y4×V),(putF f v fs).lookup g=if g=f then Y v else fs.lookup g
 |[]=>by
  show List.lookup g [(f,v)]=_
  by_cases h:g=f
  ·have hb:=beq_iff_eq.mpr h;simp only[List.lookup,hb,Z9 h]
  ·have hb:=beq_eq_false_iff_ne.mpr h;simp only[List.lookup,hb,Z8 h]
 |(k,x)::r=>by
  have a:=qju f g v r;rw[show putF f v ((k,x)::r)=(if k=f then(k,v)::r else(k,x)::putF f v r) from rfl]
  by_cases hk:k=f
  ·rw[Z9 hk]
   by_cases h:g=k
   ·have hb:=beq_iff_eq.mpr h;simp only[List.lookup,hb,Z9 (h.trans hk)]
   ·have hb:=beq_eq_false_iff_ne.mpr h;simp only[List.lookup,hb,Z8 (λe:g=f=>h (e.trans hk.symm))]
  ·rw[Z8 hk]
   by_cases h:g=k
   ·have hb:=beq_iff_eq.mpr h;simp only[List.lookup,hb,Z8 (λe:g=f=>hk (h.symm.trans e))]
   ·have hb:=beq_eq_false_iff_ne.mpr h;simp only[List.lookup,hb];exact a
theorem qj2(f)(v):∀fs:Z (Y4×V),f∈(putF f v fs).map (·.1)/\∀g,g∈fs.map (·.1)->g∈(putF f v fs).map (·.1)
 |[]=>⟨by simp[putF],λg h=>by simp at h⟩
 |(k,x)::r=>by
  obtain⟨i1,i2⟩:=qj2 f v r;rw[show putF f v ((k,x)::r)=(if k=f then(k,v)::r else(k,x)::putF f v r) from rfl]
  by_cases hk:k=f
  ·rw[Z9 hk];subst hk;exact⟨?g,λg h=>by simpa using h⟩
  ·rw[Z8 hk];refine⟨?_,λg h=>?_⟩
   ·rw[Qqd];exact Qq6 _ i1
   ·rw[Qqd]at h ⊢;rcases Qqc.mp h with e|e
    ·exact Qqc.mpr (.inl e)
    ·exact Qq6 _ (i2 g e)
theorem qj0(f)(v):∀fs:Z (Y4×V),(putF f v fs).length<=fs.length+1
 |[]=>by simp[putF]
 |(k,x)::r=>by
  have a:=qj0 f v r;rw[show putF f v ((k,x)::r)=(if k=f then(k,v)::r else(k,x)::putF f v r) from rfl]
  by_cases hk:k=f
  ·rw[Z9 hk,Qqm,Qqm]; omega
  ·rw[Z8 hk,Qqm,Qqm]; omega
def RelO.some_of(r:RelO (Y v) o):∃u,o=Y u/\RelV v u:=by
 cases o with
 |none=>exact(r).elim
 |some u=>exact⟨u,rfl,r⟩
def RelO.none_of(r:RelO B o):o=none:=by
 cases o with
 |none=>rfl
 |some u=>exact(r).elim
def qe2(r:RelV v u):PySem.W.handedIn u=true:=by
 cases v with
 |non=>cases (r); rfl
 |bl b=>cases (r); rfl
 |int i=>obtain⟨t,e⟩:=(r); cases e; rfl
 |str x=>obtain⟨t,e⟩:=(r); cases e; rfl
 |byt b=>obtain⟨t,e⟩:=(r); cases e; rfl
 |flt b=>obtain⟨t,e⟩:=(r); cases e; rfl
 |ref a=>cases (r); rfl
 |ty n=>cases (r); rfl
section
def qxo(hok:HOk P w H h)(e:H a=Y (.ins C dx fs)):∃mA,ObjM h a dx C mA/\(∀f,RelO (fs.lookup f) (mA f))/\PySem.Within mA (fs.map (·.1))/\fs.length<=1000/\H dx=Y (.own a):=by
 obtain⟨d,z,ne,ob,mA,n,r,q⟩:=(hok a _ e)
 exact⟨mA,⟨ob,n,ne⟩,r,q,z,d⟩
end
structure Cls (K:Qqq) (C:Y5):Prop where
 pg:PySem.W.plainGet K C Str.empty=L
 hd:PySem.W.hasDictIn K C=L
 po:PySem.W.plainOver K C=L
 sa:PySem.W.findIn K (.ref C) "__setattr__" = Y (Y (.builtin "object.__setattr__"))
def Cls.get{K:Qqq}(c:Cls K C)(f):PySem.W.plainGet K C f=true:=c.pg
def NoAttr(K:Qqq)(C:Y5)(f:Y4):Prop:=PySem.W.findIn K (.ref C) f=Y B
def NoAttr.taker{K:Qqq}(n:NoAttr K C f):PySem.W.takerIn K C f=Y none:=by
 unfold PySem.W.takerIn;rw[show PySem.W.findIn K (.ref C) f=Y B from n]
 rfl
structure Meth (K:Qqq) (C:Y5) (m:Y4) (f:Y5):Prop where
 at_:PySem.W.findIn K (.ref C) m=Y (Y (.ref f))
 fn:PySem.W.isFn K (.ref f)=L
 kp:Qz7 K (.ref f)=L
section
def qb9(I:Inv X pins σ H s)(e:H a=Y (.ins C dx fs))(c:Cls X.K C)(n:NoAttr X.K C f)(l:fs.lookup f=Y v)(h:∀u s',Inv X pins σ H s'->RelV v u->Q u s'):wpAny ?v A (getAttr (.ref a) f b) Q E s:=by
 obtain⟨mA,i,r,_,_,_⟩:=qxo I.hok e;obtain⟨u,g,d⟩:=RelO.some_of (by rw[<- l]; exact r f);exact qpx I.kIn i (c.get f) c.hd n g (qe2 d) (h u _ (I.tok _) d)
def qxp(I:Inv X pins σ H s)(e:H a=Y (.ins C dx fs))(c:Cls X.K C)(k:Meth X.K C m g)(l:fs.lookup m=B)(h:Q (.ref g,[.ref a]) s):wpAny ?v A (Z2 (.ref a) m pl) Q E s:=by
 obtain⟨mA,b,r,_,_,_⟩:=qxo I.hok e;have hn:=RelO.none_of (by rw[<- l]; exact r m);exact qij I.kIn b (c.get m) k.at_ k.fn hn h
def qbp(I:Inv X pins σ H s)(e:H a=Y (.ins C dx fs))(c:Cls X.K C)(n:NoAttr X.K C f)(hl:fs.length<1000)(m:RelV y u)(h:∀s',Inv X pins σ (upd H a (.ins C dx (putF f y fs))) s'->Q () s'):wpAny ?v A (setAttr (.ref a) f u) Q E s:=by
 obtain⟨mA,d,r,j,_,k⟩:=qxo I.hok e;have p:(fs.map (·.1)).length<=sizeLine:=by rw[Qqz,Q2]; omega
 refine qm7 I.kIn d c.sa c.po n.taker c.hd j p λh' i l=>h _ ?_;have hd:∃o,h'.get? dx=Y o:=let ⟨o,_,_,w,_⟩:=i.ns; ⟨o,w⟩;refine I.write (by rw[e]; exact True.intro) (.inr k) (λb q hb z=>(l.2 b hb).trans z) hd ?_;refine⟨by rw[qzq d.ne]; exact k,?_,d.ne,i.obj,_,i.ns,λg=>?_,λg t=>?_⟩
 ·have:=qj0 f y fs; omega
 ·rw[qju]
  by_cases q:g=f
  ·rw[Z9 q,Z9 q]; exact m
  ·rw[Z8 q,Z8 q]; exact r g
 ·by_cases q:g=f
  ·rw[q]; exact(qj2 f y fs).1
  ·refine(qj2 f y fs).2 g (j g λz=>t ?_);show(if g=f then Y u else mA g)=B;rw[Z8 q]; exact z
def Inv.made(I:Inv X pins σ H s):Inv X pins σ (upd (upd H s.heap.objs.size (.own ?O)) ?O (.ins C s.heap.objs.size []))
  { s with heap:=(s.heap.push PySem.W.emptyDict).push (PySem.W.instObj C s.heap.objs.size) }:=by
 have c:(s.heap.push PySem.W.emptyDict).get? s.heap.objs.size=Y PySem.W.emptyDict:=Qqh s.heap rfl;have i:((s.heap.push PySem.W.emptyDict).push (PySem.W.instObj C s.heap.objs.size)).get? ?O=Y (PySem.W.instObj C s.heap.objs.size):=by
  have:=Qqh (s.heap.push PySem.W.emptyDict) (o:=PySem.W.instObj C s.heap.objs.size) rfl;rwa [Qxc]at this
 have h:(s.heap.push PySem.W.emptyDict).Ns s.heap.objs.size (λ_=>B):=⟨PySem.W.emptyDict,#[],_,c,rfl,(λe g=>absurd g ?g),λ_=>rfl⟩
 have j:=I.laid (o:=.own ?O) (t':=s.toks) (λb u q=>Qqx _ q) (Qqw _) ⟨_,c⟩;refine j.laid (λb u q=>Qqx _ q) (Qky (Qxc _ _)) ?_;have ne:s.heap.objs.size≠s.heap.objs.size+1:=Qq1 (Qzp _);refine⟨by rw[qzq ne,qzw],Qzg _,ne,i,λ_=>B,(Heap.Ns1.of_empty h).at λo q=>Qqx _ q,λ_=>True.intro,λy d=>absurd rfl d⟩
def qpu(hb:Zj e f env (Qa e env)=Qa e env)(h:wpAny ?A A (Qa e env) (λo b=>wpAny ?A A (getAttr o f L) Q E b) E s):wpAny ?A A (Qa (.Attribute e f pos) env) Q E s:=
 Attribute_any_ h (by rw[arm_eval_Attribute,hb])
end
abbrev tFld(K:Qqq)(ta:TE)(f:Y4):TE:=λσ H Q=>ta σ H λx H1=>∃a C dx fs v,x=.ref a/\H1 a=Y (.ins C dx fs)/\Cls K C/\NoAttr K C f/\fs.lookup f=Y v/\Q v H1
abbrev sFld(K:Qqq)(ta tv:TE)(f:Y4):TS:=λD σ H=>tv σ H λy H1=>ta σ H1 λx H2=>∃a C dx fs,x=.ref a/\H2 a=Y (.ins C dx fs)/\Cls K C/\NoAttr K C f/\fs.length<1000/\
 D.nx σ (upd H2 a (.ins C dx (putF f y fs)))
section
def pe_fld(g:PE X e ta)(hb:Zj e f X.env (Qa e X.env)=Qa e X.env):PE X (.Attribute e f pos) (tFld X.K ta f):=by
 intro pins s σ H Q I h;refine qpu hb (thn (g pins s σ H _ I h) λu r ⟨x,H1,k,b,a,C,dx,fs,v,ex,i,c,n,l,q⟩=>?_);subst ex;obtain rfl:u=Value.ref a:=b;exact qb9 k i c n l λm p j d=>⟨v,H1,j,d,q⟩
def ps_fld(ha:PE X o ta)(hv:PE X value tv)(hs:swapsWith value (Y (.Attribute o f pos')) pos.line X.env=pure Y6):PS X (.Assign [.Attribute o f pos'] value pos) (sFld X.K ta tv f):=by
 intro pins s σ H D I h;refine plainObj_wpAny_Assign_Attribute (thn (hv pins s σ H _ I h) λu b ⟨y,H1,r,d,q⟩=>thn (ha pins b σ H1 _ r q) λj v ⟨x,H2,p,g,a,C,dx,fs,ex,k,c,n,l,i⟩=>?_) hs;subst ex;obtain rfl:j=Value.ref a:=g;exact qbp p k c n l d λt m=>⟨σ,_,m,i⟩
def qof(y:PE X e p)(I:Inv X d j H s)(h:p j H λx H1=>∃a C dx fs g,x=.ref a/\H1 a=Y (.ins C dx fs)/\Cls X.K C/\Meth X.K C m g/\fs.lookup m=B/\
   ∀n,Inv X d j H1 n->wpAny ?v X.A (callWith pos (.ref g) [.ref a] (backTo pos (starEach b X.env)) (backToKw pos (keywordEach [] X.env))) Q X.xe n)(w:Qa (.Call (.Attribute e m i) b [] pos) X.env=(do
   let r <- Qa e X.env
   standAt i.atName
   let (f,first) <- Zo [r] (Z2 r m pl)
   callWith pos f first (backTo pos (starEach b X.env)) (backToKw pos (keywordEach [] X.env)))):
  wpAny ?v X.A (Qa (.Call (.Attribute e m i) b [] pos) X.env) Q X.xe s:=by
 refine Qjo (thn (y d s j H _ I h) λu n ⟨x,H1,t,v,a,C,dx,fs,g,ex,z,c,k,l,q⟩=>?_) w;subst ex;obtain rfl:u=Value.ref a:=v;exact qxp t z c k l (q n t)
end
section
end
structure Room (k:Y0) (A:Qk):Prop where
 hd:A.handled=B
 dp:A.depth+3*k+5<recursionLimit
 un:A.units+16*k+200<cLine
def Room.mono(r:Room k A)(h:j<=k):Room j A:=⟨r.hd,by have:=r.dp; omega,by have:=r.un; omega⟩
theorem Room.deeper(r:Room (k+1) A)(env):Room k (A.deeper env):=
 ⟨r.hd,by have:=r.dp; show A.depth+1+3*k+5<_; omega,by have:=r.un; show A.units+3+16*k+200<_; omega⟩
def qb6{A:Qk}:(?qt).depth=A.depth+1:=by
 first|rfl|simp[Around.under,Code.weight,Code.isCreation,Code.isGuard,Code.isCaller,Code.frames,Code.isFrame,guardIds]
def qb5{A:Qk}:(?qt).units=A.units+1:=by
 first|rfl|simp[Around.under,Code.cUnits,Code.frames,Code.isFrame]
def Room.make(r:Room (k+1) A)(C)(us)(a):Room k ?qt:=
 ⟨r.hd,by have:=r.dp; rw[qb6]; omega,by have:=r.un; rw[qb5]; omega⟩
theorem Room.depth(r:Room k A):A.depth<recursionLimit:=by have:=r.dp; omega
theorem Room.units(r:Room k A):A.units+64<cLine:=by have:=r.un; omega
abbrev tNil:TA:=λ_ H Q=>Q [] H
abbrev qmo(ta:TE)(tr:TA):TA:=λσ H Q=>ta σ H λx H1=>tr σ H1 λxs H2=>Q (x::xs) H2
section
def pa_nil:PA X [] tNil:=λ_ _ _ _ H Q I h=>Calls.spliced_nil ⟨[],H,I,.nil,h⟩
def qql(ha:PE X e te)(hr:PA X es t)(hs:starEach (e::es) X.env=(Y6,Qa e X.env)::starEach es X.env:=by rfl):PA X (e::es) (qmo te t):=by
 intro pos pins s σ H Q I h;rw[hs];refine Calls.spliced_cons (thn (ha pins s σ H _ I h) λu a ⟨x,H1,i,c,f⟩=>?_);exact thn (hr pos pins a σ H1 _ i f) λj k ⟨xs,H2,g,b,d⟩=>⟨x::xs,H2,g,.cons c b,d⟩
abbrev tTup(t:TA):TE:=λσ H Q=>t σ H λxs H1=>xs.length<=sizeLine/\∀p,H1 p=B->Q (.ref p) (upd H1 p (.tup xs))
abbrev tLst(t:TA):TE:=λσ H Q=>t σ H λxs H1=>xs.length<=sizeLine/\∀p,H1 p=B->Q (.ref p) (upd H1 p (.lst xs))
def qly{d}(h:PA X es t):PE X (.Tuple es d pos) (tTup t):=by
 intro pins s σ H Q I g;refine wpAny_Tuple_spliced (thn (h pos pins s σ H _ I g) λf a ⟨xs,H1,c,r,z,q⟩=>⟨by rw[<- r.length]; exact z,?_⟩);have hf:=c.hok.fresh (Qqw _);refine⟨.ref a.heap.objs.size,upd H1 a.heap.objs.size (.tup xs),c.laid (λb u e=>Qqx _ e) (Qqw _) ?_,rfl,q _ hf⟩;exact⟨z,f,r,⟨_,Qqh _ rfl,rfl,_,rfl⟩⟩
def pe_lst(h:PA X es t):PE X (.List es pos) (tLst t):=by
 intro pins s σ H Q I f;refine wpAny_List_spliced (thn (h pos pins s σ H _ I f) λd a ⟨xs,H1,c,r,z,q⟩=>⟨by rw[<- r.length]; exact z,?_⟩);have hf:=c.hok.fresh (Qqw _);refine⟨.ref a.heap.objs.size,upd H1 a.heap.objs.size (.lst xs),c.laid (λb u e=>Qqx _ e) (Qqw _) ?_,rfl,q _ hf⟩;exact⟨z,d,0,r,Qqh _ rfl⟩
end
noncomputable abbrev Sp:=Z V->Hp->VK->XK->Prop
noncomputable abbrev CXT:=Z Env->Hp->Qz->XK->Y7->Qz->Prop
structure Env0 (P:Program) (w:Qj) (K:Qqq) (mg:Y4->Y2 Y7) (base:Heap) (A:Qk) (outer:Z Env) (s:Qz) (H:Hp):Prop where
 frames:A.frames=Y outer
 mod:Mod K mg base
 bs:∀b o,base.get? b=Y o->s.heap.get? b=Y o/\H b=B
 bsz:base.objs.size<=s.heap.objs.size
 funs:s.heap.FunFrames base outer
 frf:∀b∈frs outer,H b=B
 hok:HOk P w H s.heap
 bare:Zn s.gens
def CE(outer:Z Env)(P:Program)(w:Qj)(H:Hp)(s:Qz)(Q:VK)(u:Y7)(s':Qz):Prop:=
 ∃v H',s'.os=s.os/\Zn s'.gens/\Un (frs outer) [] H H' s.heap s'.heap/\HOk P w H' s'.heap/\RelV v u/\Q v H'
def CR(CX:CXT)(outer:Z Env)(P:Program)(w:Qj)(H:Hp)(s:Qz)(Q:VK)(E:XK)(r:Result)(s':Qz):Prop:=
 match r with
 |.ok (.ret u)=>CE outer P w H s Q u s'
 |.ok _=>False
 |.error e=>CX outer H s E e s'
structure FnOk (P:Program) (w:Qj) (K:Qqq) (mg:Y4->Y2 Y7) (base:Heap) (CX:CXT) (k:Y0) (f:Y5) (fd:Qn) (ps:Z Y4) (sp:Sp):Prop where
 len:∀vs H Q E,sp vs H Q E->vs.length=ps.length
 run:∀(A:Qk) (outer:Z Env) (s:Qz) (H:Hp) (args:Args) (us:Z Y7) (vs:Z V) (Q:VK) (E:XK),Room k A->Env0 P w K mg base A outer s H->BindsTo s fd args (ps.zip us)->Vals vs us->sp vs H Q E->
  Zk (model P w) A (.call (.ref f) args) (CR CX outer P w H s Q E) s
def FnOk.imp{K:Qqq}(F:FnOk P w K mg base d k f c ps b)(h:∀vs H Q E,sp' vs H Q E->b vs H Q E):FnOk P w K mg base d k f c ps sp':=
 ⟨λvs H Q E q=>F.len vs H Q E (h _ _ _ _ q),λA outer s H a e vs Q E hr g hb hv hs=>F.run A outer s H a e vs Q E hr g hb hv (h _ _ _ _ hs)⟩
def Env0.make{K:Qqq}(e:Env0 P w K mg base A outer s H)(C)(us)(a):
  Env0 P w K mg base ?qt outer s H:=⟨by first|exact e.frames|(simpa[Around.under,Code.envs,Code.isFrame,pushEnvs] using e.frames),e.mod,e.bs,e.bsz,e.funs,e.frf,e.hok,e.bare⟩
section
def Inv.env0(I:Inv X pins σ H s):Env0 X.prog X.w X.K X.mg X.base X.A X.stack s H:=
 ⟨I.ok.frames,I.ok.mod,I.bs,Qzn I.ok.bsz I.sz,I.stack,I.stkFree,I.hok,I.bare⟩
def Inv.after(I:Inv X pins σ H s)(h:CE X.stack X.prog X.w H s Q u s'):EP X pins σ Q u s':=by
 obtain⟨v,H',os,bare,un,hok,r,q⟩:=h;obtain⟨c,g,d,t,a⟩:=s';obtain rfl:a=s.os:=os;exact⟨v,H',I.call un hok bare (λb z=>absurd z ?g),r,q⟩
end
abbrev tCall(sp:Sp)(dvs:Z V)(E:XK)(t:TA):TE:=λσ H Q=>t σ H λvs H1=>sp (vs++dvs) H1 Q E
abbrev qmm(C:Y5)(m:Y4)(sp:Sp)(dvs:Z V)(E:XK)(ta:TE)(t:TA):TE:=λσ H Q=>ta σ H λx H1=>∃a dx fs,x=.ref a/\H1 a=Y (.ins C dx fs)/\fs.lookup m=B/\
 t σ H1 λvs H2=>sp (x::(vs++dvs)) H2 Q E
abbrev tMake(C:Y5)(sp:Sp)(dvs:Z V)(E:XK)(t:TA):TE:=λσ H Q=>t σ H λvs H1=>∀x dx,H1 x=B->H1 dx=B->dx≠x->
 sp (.ref x::(vs++dvs)) (upd (upd H1 dx (.own x)) x (.ins C dx [])) (λv H2=>v=.non/\Q (.ref x) H2) E
def Binds(K:Qqq)(fd:Qn)(ps:Z Y4)(ds:Z Y7):Prop:=
 ∀(s:Qz) (us:Z Y7),K.In s.heap->(us++ds).length=ps.length->BindsTo s fd ⟨us,[]⟩ (ps.zip (us++ds))
def Binds.all{K:Qqq}(h:∀a:Z Y7,a.length=ps.length->bindArgs b ⟨a,[]⟩=pure (ps.zip a)):Binds K b ps []:=λs a _ hl=>by
 rw[Qqs]at hl ⊢;exact .of_eq (h a hl)
def qkj(CX:CXT)(X:Cx)(E:XK):Prop:=∀(pins:Z ?qi) (σ:St) (H:Hp) (s:Qz) (e:Y7) (s':Qz),Inv X pins σ H s->CX X.stack H s E e s'->X.xe e s'
section
def qdg(F:FnOk X.prog X.w X.K X.mg X.base CX k f fd ps sp)(hr:Room k X.A)(hb:Binds X.K fd ps ds)(hd:Vals dvs ds)(g:qkj CX X E)(I:Inv X a c H s)(r:Vals vs us)(h:sp (vs++dvs) H Q E):wpAny ?v X.A (call (.ref f) us) (EP X a c Q) X.xe s:=by
 have d:=r.append hd;have hl:(us++ds).length=ps.length:=by rw[<- d.length]; exact F.len _ _ _ _ h
 refine wpAny_call (Q5 (F.run X.A X.stack s H ⟨us,[]⟩ (us++ds) (vs++dvs) Q E hr I.env0 (hb s us I.kIn hl) d h) λr s' b=>?_)
 cases r with
 |error e=>exact g a c H s e s' I b
 |ok i=>
  cases i with
  |ret u=>exact I.after b
  |next=>exact False.elim b
  |brk=>exact False.elim b
  |cont=>exact False.elim b
def qn4(F:FnOk X.prog X.w X.K X.mg X.base CX k f fd ps sp)(hr:Room k X.A)(i:Gl X x)(g:X.mg x=Y (.ref f))(hk:Qz7 X.K (.ref f)=L)(hb:Binds X.K fd ps ds)(hd:Vals dvs ds)(d:qkj CX X E)
  (ha:PA X (e::es) t) (b:?Y=false:=by decide) (j:starEach (e::es) X.env=(Y6,Qa e X.env)::starEach es X.env:=by rfl) (a:(?q5).any (·.1)=false:=by rfl) :
  PE X (.Call (.Name x p) (e::es) [] pos) (tCall sp dvs E t):=by
 intro pins s σ H Q I h;refine Zd (qyb I i g ?_ b);refine Qj7 I.ok.mod.kin hk (thn (ha pos pins s σ H _ I h) λl n ⟨vs,H1,c,r,q⟩=>⟨c.kIn,?_⟩) j a;exact qdg F hr hb hd d c r q
def qnr(D:PE X o ta)(c:Cls X.K C)(g:Meth X.K C m f)(F:FnOk X.prog X.w X.K X.mg X.base CX k f fd ps sp)(hr:Room k X.A)(hb:Binds X.K fd ps ds)(hd:Vals dvs ds)(z:qkj CX X E)(ha:PA X (e::es) t)(hst:starEach (e::es) X.env=(Y6,Qa e X.env)::starEach es X.env:=by rfl)(b:(?q5).any (·.1)=false:=by rfl)(A:Qa (.Call (.Attribute o m apos) (e::es) [] pos) X.env=(do
   let d <- Qa o X.env
   standAt apos.atName
   let (f,first) <- Zo [d] (Z2 d m pl)
   callWith pos f first (backTo pos (starEach (e::es) X.env)) (backToKw pos (keywordEach [] X.env))):=by rfl):
  PE X (.Call (.Attribute o m apos) (e::es) [] pos) (qmm C m sp dvs E ta t):=by
 intro pins s σ H Q I h;refine Qjo (thn (D pins s σ H _ I h) λu v ⟨x,H1,j,w,a,dx,fs,ex,G,l,q⟩=>?_) A;subst ex;obtain rfl:u=Value.ref a:=w;refine qxp j G c g l ?_;refine Qj7 I.ok.mod.kin g.kp (thn (ha pos pins v σ H1 _ j q) λn K ⟨vs,H2,i,r,y⟩=>⟨i.kIn,?_⟩) hst b;exact qdg (vs:=.ref a::vs) F hr hb hd z i (.cons rfl r) y
def qhl(r:PE X o ta)(c:Cls X.K C)(g:Meth X.K C m f)(F:FnOk X.prog X.w X.K X.mg X.base CX k f fd ps sp)(hr:Room k X.A)(hb:Binds X.K fd ps ds)(hd:Vals dvs ds)(j:qkj CX X E)(n:Qa (.Call (.Attribute o m apos) [] [] pos) X.env=(do
   let d <- Qa o X.env
   standAt apos.atName
   let (f,first) <- Zo [d] (Z2 d m pl)
   callWith pos f first (backTo pos (starEach [] X.env)) (backToKw pos (keywordEach [] X.env))):=by rfl):
  PE X (.Call (.Attribute o m apos) [] [] pos) (qmm C m sp dvs E ta tNil):=by
 intro pins s σ H Q I h;refine Qjo (thn (r pins s σ H _ I h) λu w ⟨x,H1,b,i,a,dx,fs,ex,v,l,q⟩=>?_) n;subst ex;obtain rfl:u=Value.ref a:=i;refine qxp b v c g l ?_;exact PySem.W.callWith_K0 b.kIn g.kp (qdg (vs:=[.ref a]) F hr hb hd j b (.cons rfl .nil) q)
structure Mk (K:Qqq) (C f:Y5):Prop where
 makes:PySem.W.makesIn K C=L
 init:PySem.W.findIn K (.ref C) "__init__" = Y (Y (.ref f))
 fn:PySem.W.isFn K (.ref f)=L
 kp:Qz7 K (.ref C)=L
def qhq(M:Mk X.K C f)(F:FnOk X.prog X.w X.K X.mg X.base CX k f fd ps sp)(hr:Room (k+1) X.A)(hb:Binds X.K fd ps ds)(hd:Vals dvs ds)(n:qkj CX X E)(I:Inv X a d H s)(r:Vals vs us)(h:∀x dx,H x=B->H dx=B->dx≠x->sp (.ref x::(vs++dvs)) (upd (upd H dx (.own x)) x (.ins C dx [])) (λv H2=>v=.non/\Q (.ref x) H2) E):
  wpAny ?v X.A (call (.ref C) us) (EP X a d Q) X.xe s:=by
 have i:=h ?O s.heap.objs.size (I.hok.fresh (Qxo _)) (I.hok.fresh (Qqw _)) (Qq1 (Qzp _));have c:=Inv.made (C:=C) I;have g:Vals (V.ref ?O::(vs++dvs)) (Value.ref ?O::(us++ds)):=.cons rfl (r.append hd);have hl:(Value.ref ?O::us++ds).length=ps.length:=by
  have e:=g.length;rw[F.len _ _ _ _ i]at e;exact e.symm
 refine wpAny_call (qh4 I.kIn M.makes M.init (beq_iff_eq.mp M.fn) (Q5 (F.run _ X.stack _ _ ⟨Value.ref ?O::us,[]⟩ (Value.ref ?O::(us++ds)) _ _ E (hr.make C us [])
  (c.env0.make C us []) (hb _ (Value.ref ?O::us) c.kIn hl) g i) λr s' b=>?_))
 cases r with
 |error e=>exact n a d _ _ e s' c b
 |ok q=>
  cases q with
  |ret u=>
   obtain⟨v,H',w,j,ev,l⟩:=c.after b;subst ev;exact⟨j,⟨V.ref ?O,H',w,rfl,l⟩⟩
  |next=>exact False.elim b
  |brk=>exact False.elim b
  |cont=>exact False.elim b
def qns(M:Mk X.K C f)(F:FnOk X.prog X.w X.K X.mg X.base CX k f fd ps sp)(hr:Room (k+1) X.A)(i:Gl X x)(g:X.mg x=Y (.ref C))(hb:Binds X.K fd ps ds)(hd:Vals dvs ds)(d:qkj CX X E)
  (ha:PA X (e::es) t) (b:?Y=false:=by decide) (j:starEach (e::es) X.env=(Y6,Qa e X.env)::starEach es X.env:=by rfl) (a:(?q5).any (·.1)=false:=by rfl) :
  PE X (.Call (.Name x p) (e::es) [] pos) (tMake C sp dvs E t):=by
 intro pins s σ H Q I h;refine Zd (qyb I i g ?_ b);refine Qj7 I.ok.mod.kin M.kp (thn (ha pos pins s σ H _ I h) λl n ⟨vs,H1,c,r,q⟩=>⟨c.kIn,?_⟩) j a;exact qhq M F hr hb hd d c r q
end
section
end
structure FnScope (N P:Z Y4) (sc:Scope):Prop where
 kind:sc.kind=.function
 co:sc.isCoroutine=Y6
 gen:sc.isGenerator=Y6
 nd:N.Nodup
 pre:N.take P.length=P
 par:∀x∈P,sc.names.lookup x=Y .local\/sc.names.lookup x=Y .cell
 nofree:∀y∈sc.names,y.2≠.free
theorem qwt:∀{binds}{m},(∀v,(x,v) ∉ binds)->bindL a binds m x=m x
 |[],_,_=>rfl
 |(n,v)::r,m,h=>by
  unfold bindL;rw[qwt λw b=>h w (Qq6 _ b)]
  split
  ·have:x≠n:=by rintro rfl; exact h v Qzk
   simp[this]
  ·rfl
theorem qw0:∀{binds}{m},(∀v,(x,v) ∉ binds)->bindC a binds m x=m x
 |[],_,_=>rfl
 |(n,v)::r,m,h=>by
  unfold bindC;rw[qw0 λw b=>h w (Qq6 _ b)]
  split
  ·rfl
  ·have:x≠n:=by rintro rfl; exact h v Qzk
   simp[this]
theorem qwu:∀{P:Z Y4}{vs:Z Y7}{i:Y0}{m:Y4->Y2 Y7},P.Nodup->P[i]?=Y x->vs[i]?=Y v->a x=Y .local->
  bindL a (P.zip vs) m x=Y v
 |[],_,_,_,_,h,_,_=>by simp at h
 |_::_,[],_,_,_,_,h,_=>by simp at h
 |p::P,w::vs,0,m,nd,h1,h2,hk=>by
  simp at h1 h2; subst h1; subst h2;show bindL a ((p,w)::P.zip vs) m p=_;unfold bindL;rw[qwt λv hv=>(Qzj.mp nd).1 (Qkh hv).1,Z9 hk];simp
 |p::P,w::vs,i+1,m,nd,h1,h2,hk=>by
  unfold bindL;exact qwu (Qzj.mp nd).2 (by simpa using h1) (by simpa using h2) hk
theorem qw1:∀{P:Z Y4}{vs:Z Y7}{i:Y0}{m:Y4->Y2 Y7},P.Nodup->P[i]?=Y x->vs[i]?=Y v->a x≠Y .local->
  bindC a (P.zip vs) m x=Y v
 |[],_,_,_,_,h,_,_=>by simp at h
 |_::_,[],_,_,_,_,h,_=>by simp at h
 |p::P,w::vs,0,m,nd,h1,h2,hk=>by
  simp at h1 h2; subst h1; subst h2;show bindC a ((p,w)::P.zip vs) m p=_;unfold bindC;rw[qw0 λv hv=>(Qzj.mp nd).1 (Qkh hv).1,Z8 hk];simp
 |p::P,w::vs,i+1,m,nd,h1,h2,hk=>by
  unfold bindC;exact qw1 (Qzj.mp nd).2 (by simpa using h1) (by simpa using h2) hk
abbrev start(N:Z Y4)(vs:Z V):St:=vs.map Y++List.replicate (N.length - vs.length) B
abbrev cxOf(CX:CXT)(P:Program)(w:Qj)(K:Qqq)(mg:Y4->Y2 Y7)(base:Heap)(N:Z Y4)(qual:Y4)(scope:Scope)(f:Y5)(cd:Y7)(A:Qk)(outer:Z Env)(s:Qz)(H:Hp)(E:XK):Cx where
 prog:=P
 w:=w
 K:=K
 mg:=mg
 base:=base
 A:=A.deeper (envOfC qual scope s.heap.objs.size f cd)
 N:=N
 s₀:=s
 H₀:=H
 env:=envOfC qual scope s.heap.objs.size f cd
 outer:=outer
 stack:=envOfC qual scope s.heap.objs.size f cd::outer
 ex:=[]
 calm:=L
 fn:=λ_=>L
 pn:=[]
 xe:=λe s'=>wpAny (model P w) (A.deeper (envOfC qual scope s.heap.objs.size f cd)) (leaving (envOfC qual scope s.heap.objs.size f cd) e) (λ_ s''=>CX outer H s E e s'') (λe' s''=>CX outer H s E e' s'') s'
def qbb{sc:Scope}(h:sc.names.lookup x=Y .cell):∃c,(cellsFrom n sc.names []).lookup x=Y c:=by
 have q:=Qkn sc.names n [] (.inl h);exact Qxz.mp q
def qep{K:Qqq}(S:FnScope N ps d)(hd:A.handled=B)(j:Env0 P w K mg base A outer s H)(hl:vs.length=ps.length)(r:Vals vs us)(x:InCallC s s.heap.objs.size (bindL (envOfC g d s.heap.objs.size f C).kindOf (ps.zip us) λ_=>B) (cellsFrom ?O d.names []) (bindC (envOfC g d s.heap.objs.size f C).kindOf (ps.zip us) λ_=>B) s1):
  Inv (cxOf F P w K mg base N g d f C A outer s H E) [] (start N vs) H s1:=by
 have I:ps.length<=N.length:=by have:=congrArg List.length S.pre; rw[Qzy]at this; omega
 obtain⟨h1,tk,rfl,hk⟩:=x.done;have l:∀b:Y5,b ∉ (cxOf F P w K mg base N g d f C A outer s H E).ex:=λb z=>absurd (show b∈([]:Z Y5) from z) ?g
 refine⟨⟨j.mod,S.kind,rfl,rfl,Qqw _,λy z c h1 h2=>?_,λy m=>?_,λy c _ h=>?_,λ_=>hd,Around.frames_deeper j.frames,.inr ⟨rfl,rfl⟩,λb z=>absurd z (l b),j.bs,j.bsz,λb _ _=>l b,λb z=>absurd z (l b),j.funs,j.frf⟩,
  rfl,j.bare,Un.kept hk,⟨_,x.toInCall.ns,λi y v h1 h2 Q=>?_⟩,λy c h=>⟨_,x.cell y c h⟩,j.hok.fresh (Qqw _),λy c h=>?_,λp t=>absurd (show p∈([]:Z ?qi) from t) ?g,j.hok.kept hk,?_⟩
 ·exact name_of_addr x.apart (PySem.mem_of_lookup h1) (PySem.mem_of_lookup h2)
 ·have m:=m;rcases m with m|m
  ·exact qbb m
  ·exact absurd rfl (S.nofree _ (PySem.mem_of_lookup m))
 ·exact Qjj (x.above y c (PySem.mem_of_lookup h))
 ·have hi:i<vs.length:=by
   unfold start at h2
   by_cases hi:i<vs.length
   ·exact hi
   ·rw[Qzf (by simpa using hi)]at h2;rw[Qkf]at h2
    split at h2<;>cases h2
  have ha:vs[i]?=Y v:=by
   unfold start at h2;rw[Qq9 (by simpa using hi),Qqv]at h2
   cases e:vs[i]? with
   |none=>rw[e]at h2; cases h2
   |some a=>rw[e]at h2; cases h2; rfl
  obtain⟨u,D,G⟩:=r.get ha;have t:ps[i]?=Y y:=by
   rw[<- S.pre,Qka ?q]; exact h1
  have o:ps.Nodup:=by rw[<- S.pre]; exact S.nd.sublist (Qxu _ _)
  refine⟨u,G,?_⟩;rcases S.par y (Qqn t) with k|k
  ·exact .inl ⟨k,qwu o t D k⟩
  ·obtain⟨c,e⟩:=qbb k;refine .inr ⟨.inl k,c,e,?_⟩;have q:=x.cell y c e;rw[qw1 o t D (by show d.names.lookup y≠_; rw[k]; decide)]at q;exact q
 ·exact j.hok.fresh (Qjj (x.above y c (PySem.mem_of_lookup h)))
 ·unfold start;show _=N.length;rw[Qqr,Qqz,Qjp];omega
def fn_of{K:Qqq}{kV:Y7}(lk:K.lookup f=Y ⟨oc,od,.func (PySem.W.fnOf name c g body a T kV doc R an d ct),F⟩)(G:PySem.W.codeIn K d c=L)(S:FnScope N ps a)(len:∀vs H Q E,sp vs H Q E->vs.length=ps.length)(l:∀(A:Qk) (outer:Z Env) (s:Qz) (H:Hp) (vs:Z V) (Q:VK) (E:XK),Room k (A.deeper (envOfC c a s.heap.objs.size f d))->sp vs H Q E->
   ∃t,PSs (cxOf C P w K mg base N c a f d A outer s H E) body t/\t { nx:=λ_ H'=>Q .non H',rt:=Q } (start N vs) H):
  FnOk P w K mg base C (k+1) f (PySem.W.fnOf name c g body a T kV doc R an d ct) ps sp:=by
 refine⟨len,λA outer s H U X vs Q E hr z hb r m=>?_⟩;have hl:=len _ _ _ _ m;have W:=z.mod.kin.keeps λb o e=>(z.bs b o e).1;have lim:=z.mod.nolimit.keeps λb o e=>(z.bs b o e).1;have j:∀y∈ps.zip X,a.names.lookup y.1=Y .local\/(a.names.lookup y.1=Y .cell/\((cellsFrom ?O a.names []).lookup y.1).isSome=L):=λ⟨n,v⟩ hy=>by
  rcases S.par n (Qkh hy).1 with q|q
  ·exact .inl q
  ·exact .inr ⟨q,Qkn _ _ _ (.inl q)⟩
 refine codeAny_call_function hr.depth (W _ _ lk) rfl S.co S.gen rfl (PySem.W.codeRec_of W G) (hb _ _ _ _ ?_);refine wpAny_newFunctionEnv_cells S.kind j λenv he s1 x=>?_;subst he;refine⟨lim.keeps x.toInCall.keep,codeAny_func ?_⟩;obtain⟨t,ht,hq⟩:=l A outer s H vs Q E (hr.deeper _) m;have I:Inv (cxOf C P w K mg base N c a f d A outer s H E) [] (start N vs) H s1:=qep S hr.hd z hl r x;refine Qh (ht [] s1 (start N vs) H _ I hq) (λfl s' hs=>?_) λe s' hs=>hs;have p:∀{h:St}{H':Hp}{v:V}{u:Y7},Inv (cxOf C P w K mg base N c a f d A outer s H E) [] h H' s'->RelV v u->Q v H'->CE outer P w H s Q u s':=
  λ{h H' v u} i D q=>⟨v,H',i.os,i.bare,i.base,i.hok,D,q⟩
 cases fl with
 |ret u=>
  obtain⟨v,h,H',i,D,q⟩:=hs;exact p i D q
 |next=>
  obtain⟨h,H',i,q⟩:=hs;exact p (v:=V.non) i rfl q
 |brk=>
  obtain⟨_,_,_,q⟩:=hs;exact False.elim q
 |cont=>
  obtain⟨_,_,_,q⟩:=hs;exact False.elim q
section
variable {X:Cx}{x:Y4}{p pos:Pos}{e:Expr}{es:Z Expr}{t:TA}{id:String}{r:Z V->Hp->VK->Prop}
abbrev tCB(r:Z V->Hp->VK->Prop)(t:TA):TE:=λσ H Q=>t σ H λvs H1=>r vs H1 Q
def qz2(hc:qqv X (.builtin id) r)(j:Gl X x)(i:X.mg x=B)(hv:Qy x=Y (.builtin id))(ha:PA X (e::es) t)(hn:x ≠ "__name__":=by decide)(b:?Y=false:=by decide)
  (k:starEach (e::es) X.env=(Y6,Qa e X.env)::starEach es X.env:=by rfl) (a:(?q5).any (·.1)=false:=by rfl):PE X (.Call (.Name x p) (e::es) [] pos) (tCB r t):=by
 intro pins s σ H Q I h;refine Zd (qx5 I j i hv ?_ hn b);exact PyProof.Rows.callWith_builtin1 (thn (ha pos pins s σ H _ I h) λc d ⟨vs,H1,l,f,g⟩=>hc pins d σ H1 vs c Q l f g) k a
def qxq(hc:qqv X (.type T) r)(j:Gl X x)(i:X.mg x=B)(hv:Qy x=Y (.type T))(ha:PA X (e::es) t)(hn:x ≠ "__name__":=by decide)(b:?Y=false:=by decide)
  (k:starEach (e::es) X.env=(Y6,Qa e X.env)::starEach es X.env:=by rfl) (a:(?q5).any (·.1)=false:=by rfl):PE X (.Call (.Name x p) (e::es) [] pos) (tCB r t):=by
 intro pins s σ H Q I h;refine Zd (qx5 I j i hv ?_ hn b);exact PyProof.Rows.callWith_type1 (thn (ha pos pins s σ H _ I h) λc d ⟨vs,H1,l,f,g⟩=>hc pins d σ H1 vs c Q l f g) k a
end
end L2
namespace HT
open PySem PyProof.Rows
section
open PySem.SeqAt
open PySem.AutoSeq1 (wpAny_loadPart')
open PySem.MeetsSeq PySem.MeetsSeq2 PySem.MeetsSeq3
end
section
def cat_tup(o:IsTup s.heap t vs.toArray)(hb:IsTup s.heap b ws.toArray)(hv:vs≠[])(q:ws=[]->Q (.ref t) s)(p:ws≠[]->Q ?Z { s with heap:=s.heap.push { cls:=.type "tuple",data:=.seq (vs++ws).toArray } })(hsz:vs.length+ws.length<=sizeLine):wpAny ?A A (Q4 .Add (.ref t) (.ref b)) Q E s:=by
 obtain⟨⟨cls,l,data,sl⟩,i,hc,n,hd⟩:=id o;obtain⟨⟨m,g,j,c⟩,a,f,k,d⟩:=id hb;simp only at hc hd f d;subst hc hd f d;have e:vs.toArray++ws.toArray=(vs++ws).toArray:=by simp
 by_cases h:ws=[]
 ·exact concat_meets ⟨_,i,rfl⟩ ⟨_,a,rfl⟩ noFill_tuple_add seq_tuple_add PySem.F.slot_tuple_add PySem.F.entry_tuple_add (PySem.F.args_tuple_add_2 _ _)
   (tuple_addW1 t b vs.toArray ws.toArray n k l g sl c (by simpa using hv) (by simp[h])) ⟨i,a,q h⟩
 ·refine concat_meets ⟨_,i,rfl⟩ ⟨_,a,rfl⟩ noFill_tuple_add seq_tuple_add PySem.F.slot_tuple_add PySem.F.entry_tuple_add (PySem.F.args_tuple_add_2 _ _)
   (tuple_addW2 t b vs.toArray ws.toArray n k l g sl c (by simpa using hv) (by simpa using h) (by rw[Qqe,Qqe]; exact hsz)) ⟨i,a,?_⟩
  rw[e];exact p h
abbrev sIx(n d:Y0):Y2 J->Y0
 |none=>d
 |some v=>if v<0 then(v+(n:J)).toNat else min v.toNat n
def sIx_le(n d)(hd:d<=n)(o):sIx n d o<=n:=by
 cases o with
 |none=>exact hd
 |some v=>
  show(if v<0 then(v+(n:J)).toNat else min v.toNat n)<=n
  by_cases hv:v<0
  ·rw[Z9 hv]; omega
  ·rw[Z8 hv]; exact Nat.min_le_right _ _
def qfm(v)(n d:Y0):(if v<0 then max (v+(n:J)) 0 else min v (n:J))=((sIx n d (Y v):Y0):J):=by
 show(if v<0 then max (v+(n:J)) 0 else min v (n:J))=(((if v<0 then(v+(n:J)).toNat else min v.toNat n):Y0):J)
 by_cases hv:v<0
 ·simp only[Z9 hv]; omega
 ·simp only[Z8 hv]; omega
def qcd(a b)(n:Y0):Builtin.Slice.sliceAdjust a b 1 (n:J)=(((sIx n 0 a:Y0):J),((sIx n n b:Y0):J)):=by
 have h1:¬ ((1:J)<0):=by omega
 unfold Builtin.Slice.sliceAdjust;simp only[h1,if_false];refine Prod.ext ?_ ?_
 ·cases a with
  |none=>rfl
  |some v=>exact qfm v n 0
 ·cases b with
  |none=>rfl
  |some v=>exact qfm v n n
def qb0(i j:Y0):Builtin.Slice.slicePlaces (i:J) (j:J) 1=j - i:=by
 unfold Builtin.Slice.slicePlaces;have h1:(1:J) > 0:=by omega
 simp only[h1,if_true,Int.ediv_one]
 split<;>omega
def qki(p:IsPart v o)(h:Q o s):wpAny ?A A (Builtin.Slice.slicePartIndex v) Q E s:=by
 cases p with
 |none=>exact slicePart_none h
 |int i t=>exact slicePart_int h
def sliceApplied_gen{Q:J×J×Y0->Qz->Prop}(hs:s.heap.IsSliceOf sl vl e .none)(pl:IsPart vl a)(pu:IsPart e c)(h:Q (((sIx n 0 a:Y0):J),1,sIx n n c - sIx n 0 a) s):wpAny ?A A (Builtin.Slice.sliceApplied (.ref sl) (pure (n:J))) Q E s:=by
 obtain⟨os,b,f,d⟩:=id hs;unfold Builtin.Slice.sliceApplied Builtin.Slice.sliceFields;refine Qq (Qq (Qv b d rfl (Qq (Qv b d rfl (Qq (Qv b d rfl (Qx ?_)))))));refine Qq (slicePart_none ?_);rw[Z8 ?c];refine Qq (qki pl (Qq (qki pu (Qq (Qx ?_)))));show wpAny _ _ (match Builtin.Slice.sliceAdjust a c 1 (n:J) with|(a,c)=>pure (a,(1:J),Builtin.Slice.slicePlaces a c 1)) _ _ s;rw[qcd a c n];show wpAny _ _ (pure (((sIx n 0 a:Y0):J),(1:J),Builtin.Slice.slicePlaces ((sIx n 0 a:Y0):J) ((sIx n n c:Y0):J) 1)) _ _ s;rw[qb0];exact Qx h
def qhg(xs:Array Y7)(i k:Y0):((List.range k).filterMap λ(m:Y0)=>xs[((i:J)+(m:J)*1).toNat]?).toArray=((xs.toList.drop i).take k).toArray:=by
 have e:(λ(m:Y0)=>xs[((i:J)+(m:J)*1).toNat]?)=λm=>xs[i+m]?:=by
  funext m
  have:((i:J)+(m:J)*1).toNat=i+m:=by omega
  rw[this]
 rw[e];have:=pick_run xs i k;rw[Qxx]at this;have a:((λx=>xs[x]?)∘λx=>i+x)=λm=>xs[i+m]?:=rfl;rw[a]at this;rw[this]
def getItem_tuple_cut(d:IsTup s.heap t items)(hs:s.heap.IsSliceOf sl vl j .none)(pl:IsPart vl b)(pu:IsPart j c)(k:¬ (sIx items.size 0 b=0/\sIx items.size items.size c=items.size))(h:Q ?Z { s with heap:=s.heap.push { cls:=.type "tuple",data:=.seq (?qf).toArray } })(hsz:items.size<=sizeLine):wpAny ?A A (Zv (.ref t) (.ref sl)) Q E s:=by
 have a:sizeOk (.seq (?qf).toArray):=by
  show (?qf).toArray.size<=sizeLine;rw[Qqe,Qzy,Qxm,Qzu];omega
 have hj:sIx items.size items.size c<=items.size:=sIx_le _ _ (Qqw _) c;obtain⟨os,e,g,l⟩:=id hs;have i:s.TypeIs (.ref sl) "slice":=⟨os,e,g⟩
 unfold Zv
 try with_reducible refine Qt ?_
 first|refine Qq (Qx ?_)|skip
 refine Qq (wpAny_sequenceKey d.typeIs ?c ?_)
 refine Qq (Qb d.typeIs PyProof.Rows.slot_tuple_getitem
  (Qd PyProof.Rows.slot_tuple_getitem d.typeIs entry_tuple_getitem ?_ (args_tuple_getitem _ _)))
 show wpAny _ _ (Builtin.Tuple.tupleItemsOf (.ref t) >>= _) _ _ s;refine Qq (tupleItemsOf_ d ?_);refine Qq (Ze i ?_);rw[Z9 ?c];refine Qq (sliceApplied_gen hs pl pu ?_);have f:¬ ((((sIx items.size 0 b:Y0):J)==0&&(1:J)==1&&(sIx items.size items.size c - sIx items.size 0 b)==items.size)=L):=by
  intro q;rw[Qqt,Qqt]at q;have o:=eq_of_beq q.1.1;have n:=eq_of_beq q.2;exact k ⟨?q,?q⟩
 show wpAny _ _ (if (((sIx items.size 0 b:Y0):J)==0&&(1:J)==1&&(sIx items.size items.size c - sIx items.size 0 b)==items.size)=L then _ else _) _ _ s;rw[Z8 f,qhg]
 first
  |exact Qq (Qi (Qx ⟨_,rfl,Qx h⟩) a)
  |exact Qq (Qi (Qq (Qx (Qx ⟨_,rfl,Qx h⟩))) a)
  |exact Qq (Qq (Qi (Qx (Qx ⟨_,rfl,Qx h⟩)) a))
  |exact Qq (Qq (Qi (Qx ⟨_,rfl,Qx h⟩) a))
end
end HT
namespace L2
open PySem PySem.Spec PyProof.Rows
noncomputable abbrev TO:=St->Hp->(Y2 J->Hp->Prop)->Prop
def PO(X:Cx)(e:Y2 Expr)(t:TO):Prop:=
 ∀(pins:Z ?qi) (s:Qz) (σ:St) (H:Hp) (Q:Y2 J->Hp->Prop),Inv X pins σ H s->t σ H Q->
  wpAny ?v X.A (evalPart e X.env) (λu s'=>∃o H',Inv X pins σ H' s'/\IsPart u o/\Q o H') X.xe s
abbrev qml:TO:=λ_ H Q=>Q B H
abbrev tPart(t:TE):TO:=λσ H Q=>t σ H λx H1=>∃i,x=.int i/\Q (Y i) H1
def intsAre_of:∀{us},Vals (ns.map V.int) us->Zu us ns:=by
 induction ns with
 |nil=>intro us r; rw[Qxs]at r; cases r; exact .nil
 |cons n ns c=>
  intro us r;rw[Qqd]at r
  cases r with
  |cons b a=>
   obtain⟨t,e⟩:=b;subst e;exact .cons n t (c a)
section
variable {X:Cx}{e:Expr}{te:TE}{lo hi:Y2 Expr}{tl th:TO}{pos p2:Pos}
def qni:PO X B qml:=by
 intro pins s σ H Q I h;rw[evalPart_none];exact Qx ⟨B,H,I,.none,h⟩
def qnh(h:PE X e te):PO X (Y e) (tPart te):=by
 intro pins s σ H Q I c;rw[evalPart_some];refine thn (h pins s σ H _ I c) λu f ⟨x,H1,d,a,b⟩=>?_;obtain⟨i,rfl,q⟩:=b;obtain⟨t,rfl⟩:=a;exact⟨Y i,H1,d,.int i t,q⟩
def SlR(X:Cx)(r:V->Y2 J->Y2 J->Hp->VK->Prop):Prop:=
 ∀(pins:Z ?qi) (s:Qz) (σ:St) (H:Hp) (x:V) (v vl vu:Y7) (lo hi:Y2 J) (sl:Y5) (Q:VK),Inv X pins σ H s->RelV x v->s.heap.IsSliceOf sl vl vu .none->IsPart vl lo->IsPart vu hi->r x lo hi H Q->
  ∃T id,typeLookup (.type T) "__getitem__" = pure (Y (.builtin id))/\s.TypeIs v T/\wpAny ?v X.A (Zv v (.ref sl)) (EP X pins σ Q) X.xe s
abbrev tSl(r:V->Y2 J->Y2 J->Hp->VK->Prop)(te:TE)(tl th:TO):TE:=λσ H Q=>te σ H λx H1=>tl σ H1 λl H2=>th σ H2 λu H3=>r x l u H3 Q
def qhi(hr:SlR X r)(t:PE X e te)(hl:PO X lo tl)(n:PO X hi th):PE X (.Subscript e (.Slice lo hi B p2) pos) (tSl r te tl th):=by
 intro pins s σ H Q I h;refine Subscript_ (thn (t pins s σ H _ I h) λv g ⟨x,H1,C,i,m⟩=>?_);refine wpAny_Slice (thn (hl pins g σ H1 _ C m) λvl f ⟨l,H2,A,pl,k⟩=>thn (n pins f σ H2 _ A k) λc a ⟨u,d,z,pu,j⟩=>?_);rw[evalPart_none];refine Qx ?_;have y:Inv X pins σ d { a with heap:=a.heap.push { cls:=.type "slice",data:=.fields #[vl,c,.none] } }:=z.kept λb ob q=>Qqx _ q;obtain⟨T,id,w,o,p⟩:=hr pins { a with heap:=a.heap.push { cls:=.type "slice",data:=.fields #[vl,c,.none] } } σ d x v vl c l u a.heap.objs.size Q y i (Heap.IsSliceOf.new ..) pl pu j;exact tail_any o w p (by with_unfolding_all rfl)
abbrev cutV(xs:Z V)(lo hi:Y2 J):Z V:=(xs.drop (HT.sIx xs.length 0 lo)).take (HT.sIx xs.length xs.length hi - HT.sIx xs.length 0 lo)
def qkq(xs)(a b):(cutV xs a b).length<=xs.length:=by
 unfold cutV;rw[Qzy,Qxm];omega
def rSlT(K:Qqq):V->Y2 J->Y2 J->Hp->VK->Prop:=λx lo hi H Q=>∃a xs,x=.ref a/\SqT K H a xs/\
 ¬ (HT.sIx xs.length 0 lo=0/\HT.sIx xs.length xs.length hi=xs.length)/\∀p,H p=B->Q (.ref p) (upd H p (.tup (cutV xs lo hi)))
def sl_tup:SlR X (rSlT X.K):=by
 intro pins s σ H x v vl l lo hi sl Q I i hs pl pu h;obtain⟨a,xs,rfl,j,k,q⟩:=h;cases i;obtain⟨d,r,g,f⟩:=I.tuple j;have c:d.toArray.size=xs.length:=by rw[Qqe]; exact r.length.symm
 refine⟨"tuple",_,PyProof.Rows.slot_tuple_getitem.lookup,g.typeIs,?_⟩;refine HT.getItem_tuple_cut g hs pl pu (by rw[c]; exact k) ?_ (by rw[c]; exact f);rw[c];refine⟨.ref s.heap.objs.size,_,I.laid (λb ob q=>Qqx _ q) (Qqw _) ?_,rfl,q _ (I.hok.fresh (Qqw _))⟩;exact⟨Qzn (qkq xs lo hi) f,_,(r.drop (HT.sIx xs.length 0 lo)).take (HT.sIx xs.length xs.length hi - HT.sIx xs.length 0 lo),IsTup.new _ _⟩
abbrev rCatT(K:Qqq):R2:=λx y H Q=>∃a b xs ys,x=.ref a/\y=.ref b/\SqT K H a xs/\SqT K H b ys/\xs≠[]/\xs.length+ys.length<=sizeLine/\
 (ys=[]->Q (.ref a) H)/\(ys≠[]->∀p,H p=B->Q (.ref p) (upd H p (.tup (xs++ys))))
def Vals.nil_iff(r:Vals xs us):us=[]↔xs=[]:=by
 cases r with
 |nil=>simp
 |cons _ _=>simp
def qox:OpR X (Q4 .Add) (rCatT X.K):=by
 intro pins s σ H x y v u Q I j i h;obtain⟨a,b,xs,ys,rfl,rfl,ha,hb,n,g,l,k⟩:=h;cases j;cases i;obtain⟨m,d,p1,_⟩:=I.tuple ha;obtain⟨f,c,p2,_⟩:=I.tuple hb;refine HT.cat_tup p1 p2 (λz=>n (d.nil_iff.mp z)) (λz=>⟨.ref a,H,I,rfl,l (c.nil_iff.mp z)⟩) (λz=>?_) (by rw[<- d.length,<- c.length]; exact g);refine⟨.ref s.heap.objs.size,_,I.laid (λb ob q=>Qqx _ q) (Qqw _) ?_,rfl,k (λw=>z (c.nil_iff.mpr w)) _ (I.hok.fresh (Qqw _))⟩;exact⟨by rw[Qqr]; exact g,_,d.append c,IsTup.new _ _⟩
end
abbrev ixN(n:Y0)(i:J):Y2 Nat:=if 0<=i then(if i<n then Y i.toNat else B) else if -(n:J)<=i then Y (i+n).toNat else B
abbrev atI{α:Type}(xs:Z α)(i:J):Y2 α:=(ixN xs.length i).bind λj=>xs[j]?
def qo0(h:ixN n i=Y j):seqIndex? i n=Y j/\j<n/\-(n:J)<=i/\i<n:=by
 unfold ixN at h
 by_cases a:0<=i
 ·rw[Z9 a]at h
  by_cases h1:i<n
  ·rw[Z9 h1]at h;have e:=Option.some.inj h;exact⟨by rw[seqIndex_of a h1,e],?q,?q,h1⟩
  ·rw[Z8 h1]at h; cases h
 ·rw[Z8 a]at h
  by_cases h1:-(n:J)<=i
  ·rw[Z9 h1]at h;have e:=Option.some.inj h;exact⟨by rw[seqIndex_neg ?q h1,e],?q,h1,?q⟩
  ·rw[Z8 h1]at h; cases h
def qgv(h:atI xs i=Y v):∃j,seqIndex? i xs.length=Y j/\xs[j]?=Y v/\j<xs.length/\-(xs.length:J)<=i/\i<xs.length:=by
 unfold atI at h
 cases e:ixN xs.length i with
 |none=>rw[e]at h; cases h
 |some j=>
  rw[e]at h;obtain⟨h1,h2,b,a⟩:=qo0 e;exact⟨j,h1,h,h2,b,a⟩
def qp0(b:Expr):Prop:=∀o i,subscripted b Y6 o i=operate [o,i] (Zv o i)
def IxR(X:Cx)(r:R2):Prop:=
 ∀(value slice:Expr) (pins:Z ?qi) (s:Qz) (σ:St) (H:Hp) (x y:V) (v u:Y7) (Q:VK),Inv X pins σ H s->RelV x v->RelV y u->r x y H Q->
  subscripted slice Y6 v u=operate [v,u] (Zv v u)->wpAny ?v X.A (subscriptTail value slice v u) (EP X pins σ Q) X.xe s
def MtR(X:Cx)(id:String)(r:V->Z V->Hp->VK->Prop):Prop:=
 ∀(pins:Z ?qi) (s:Qz) (σ:St) (H:Hp) (x:V) (xs:Z V) (v:Y7) (us:Z Y7) (Q:VK),Inv X pins σ H s->RelV x v->Vals xs us->r x xs H Q->
  wpAny ?v X.A (call (.builtin id) (v::us)) (EP X pins σ Q) X.xe s
section
variable {X:Cx}
def pe_ix(hr:IxR X r)(ha:PE X a ta)(hb:PE X b tb)(hs:qp0 b):PE X (.Subscript a b pos) (tOp r ta tb):=by
 intro pins s σ H Q I h;exact Subscript_ (binT ha hb I h λv u c x y H2 f e d q=>hr a b pins c σ H2 x y v u Q f e d q (hs _ _))
abbrev rIxL(K:Qqq):R2:=λx y H Q=>∃p xs i v,x=.ref p/\y=.int i/\SqL K H p xs/\atI xs i=Y v/\Q v H
abbrev rIxT(K:Qqq):R2:=λx y H Q=>∃p xs i v,x=.ref p/\y=.int i/\SqT K H p xs/\atI xs i=Y v/\Q v H
def qou:IxR X (rIxL X.K):=by
 intro value d pins s σ H x y v u Q I m l h hs;obtain⟨p,xs,i,z,rfl,rfl,n,o,q⟩:=h;cases m;obtain⟨t,rfl⟩:=l;obtain⟨f,r,pl,D⟩:=I.list n;obtain⟨j,h1,h2,E,C,A⟩:=qgv o;obtain⟨w,k,e⟩:=r.get h2;have hl:=r.length;have hn:=qan;have c:EP X pins σ Q w s:=⟨z,H,I,e,q⟩
 by_cases g:0<=i
 ·have hj:i.toNat=j:=by
   rw[seqIndex_of g A]at h1;exact Option.some.inj h1
  exact item_listR pl.isList g ?q (by rw[hj]; simpa using k) c hs
 ·have hj:(i+(f.toArray.size:J)).toNat=j:=by
   rw[seqIndex_neg ?q C]at h1;rw[Qqe,<- hl];exact Option.some.inj h1
  exact subscriptTail_builtinR pl.isList.typeIs slot_list_getitem.lookup
   (wpAny_getItem_list_neg pl.isList ?q (by rw[Qqe]<;>omega) ?q (by rw[hj]; simpa using k) ⟨rfl,c⟩) hs
def ix_tup:IxR X (rIxT X.K):=by
 intro value c pins s σ H x y v u Q I g f h hs;obtain⟨p,xs,i,z,rfl,rfl,l,m,q⟩:=h;cases g;obtain⟨t,rfl⟩:=f;obtain⟨k,r,pl,o⟩:=I.tuple l;obtain⟨j,h1,h2,D,C,A⟩:=qgv m;obtain⟨w,n,d⟩:=r.get h2;have hl:=r.length;have hn:=qan;have e:EP X pins σ Q w s:=⟨z,H,I,d,q⟩
 exact subscriptTail_builtinR pl.typeIs slot_tuple_getitem.lookup
  (getItem_tuple pl ?q ?q (by rw[Qqe,<- hl]; exact h1) (by simpa using n) ⟨rfl,e⟩) hs
def qvr(c d)(n):(Zw c d B n).1=((HT.sIx n 0 c:Y0):J)/\(Zw c d B n).2.1=((HT.sIx n n d:Y0):J)/\(Zw c d B n).2.2=1:=by
 refine⟨?_,?_,rfl⟩
 ·cases c with
  |none=>simp[Zw,HT.sIx]
  |some i=>
   simp only[Zw,HT.sIx,Option.getD_none,show(1:J) > 0 by decide,if_true]
   by_cases h:i<0
   ·simp only[h,if_true]<;>omega
   ·simp only[h,if_false]<;>omega
 ·cases d with
  |none=>simp[Zw,HT.sIx]
  |some i=>
   simp only[Zw,HT.sIx,Option.getD_none,show(1:J) > 0 by decide,if_true]
   by_cases h:i<0
   ·simp only[h,if_true]<;>omega
   ·simp only[h,if_false]<;>omega
def qk8(c:Z Y7)(d e):slicePick c.toArray d e B=((c.drop (HT.sIx c.length 0 d)).take (HT.sIx c.length c.length e - HT.sIx c.length 0 d)).toArray:=by
 obtain⟨h1,h2,f⟩:=qvr d e c.toArray.size;unfold slicePick;rw[h1,h2,f];simp only[sliceRange_one,pick_run,Qqe]<;>rfl
def rSlL(K:Qqq):V->Y2 J->Y2 J->Hp->VK->Prop:=λx lo hi H Q=>∃a xs,x=.ref a/\SqL K H a xs/\∀p,H p=B->Q (.ref p) (upd H p (.lst (cutV xs lo hi)))
def qm2:SlR X (rSlL X.K):=by
 intro pins s σ H x v vl j lo hi sl Q I e hs pl pu h;obtain⟨a,xs,rfl,i,q⟩:=h;cases e;obtain⟨f,r,d,g⟩:=I.list i;have c:=r.length;refine⟨"list",_,slot_list_getitem.lookup,d.isList.typeIs,?_⟩;refine wpAny_getItem_list_slice d.isList hs pl pu .none ?g ?_ (by rw[Qqe]<;>omega);rw[qk8,<- c];refine⟨.ref s.heap.objs.size,_,I.laid (λb ob q=>Qqx _ q) (Qqw _) ?_,rfl,q _ (I.hok.fresh (Qqw _))⟩;exact⟨Qzn (qkq xs lo hi) g,_,0,(r.drop (HT.sIx xs.length 0 lo)).take (HT.sIx xs.length xs.length hi - HT.sIx xs.length 0 lo),Qqh _ rfl⟩
def qx8:qqv X (.builtin "len") (λxs H Q=>∃p ys,xs=[.ref p]/\(SqL X.K H p ys\/SqT X.K H p ys)/\Q (.int ys.length) H):=by
 intro pins s σ H xs i Q I r h;obtain⟨p,ys,rfl,d,q⟩:=h;obtain⟨u,rfl,f⟩:=vals1 r;cases f;have hn:=qan;rcases d with d|d
 ·obtain⟨e,r',pl,g⟩:=I.list d;have c:=r'.length;exact Calls.call_len_list pl.isList (by simp only[Qqe]<;>omega) ⟨.int ys.length,H,I.tok _,⟨s.toks+1,by rw[Qqe,c]⟩,q⟩
 ·obtain⟨e,r',pl,g⟩:=I.tuple d;have c:=r'.length;exact len_tuple pl (by simp only[Qqe]<;>omega) ⟨.int ys.length,H,I.tok _,⟨s.toks+1,by rw[Qqe,c]⟩,q⟩
def qx7:qqv X (.type "list") (λxs H Q=>∃p ys,xs=[.ref p]/\(SqL X.K H p ys\/SqT X.K H p ys)/\∀l,H l=B->Q (.ref l) (upd H l (.lst ys))):=by
 intro pins s σ H xs t Q I r h;obtain⟨p,ys,rfl,g,q⟩:=h;obtain⟨u,rfl,m⟩:=vals1 r;cases m;have j:∀(c:Z Y7),Vals ys c->ys.length<=sizeLine->∀(h':Heap) (d:Y0),(∀b o',s.heap.get? b=Y o'->h'.get? b=Y o')->
   h'.get? s.heap.objs.size=Y { cls:=.type "list",dict:=B,data:=.seq c.toArray d,slots:=#[] }->EP X pins σ Q ?Z { s with heap:=h' }:=λc r' f h' d kp e=>
  ⟨.ref s.heap.objs.size,_,I.laid kp (Qqw _) (show ObjOk X.prog X.w _ h' _ (.lst ys) from⟨f,c,d,r',e⟩),rfl,q _ (I.hok.fresh (Qqw _))⟩
 rcases g with g|g
 ·obtain⟨c,r',pl,f⟩:=I.list g;have i:=r'.length;obtain⟨o,k,hc,n,hd⟩:=pl.isList;exact call_list_seq p ?qu k hc hd (λh' d kp e=>j c r' f h' d kp e) (by simp only[Qqe]<;>omega)
 ·obtain⟨c,r',pl,f⟩:=I.tuple g;have i:=r'.length;obtain⟨o,k,hc,n,hd⟩:=pl;exact call_list_seq p (.inr rfl) k hc hd (λh' d kp e=>j c r' f h' d kp e) (by simp only[Qqe]<;>omega)
def qxf:qqv X (.type "tuple") (λxs H Q=>∃p ys,xs=[.ref p]/\((SqL X.K H p ys/\∀l,H l=B->Q (.ref l) (upd H l (.tup ys)))\/(SqT X.K H p ys/\Q (.ref p) H))):=by
 intro pins s σ H xs m Q I r h;obtain⟨p,ys,rfl,h⟩:=h;obtain⟨u,rfl,j⟩:=vals1 r;cases j;rcases h with⟨d,q⟩|⟨d,q⟩
 ·obtain⟨c,r',pl,f⟩:=I.list d;have g:=r'.length;refine call_tuple_list pl.isList (λh' kp=>?_) (by simp only[Qqe]<;>omega);have i:=I.kept (t':=s.toks) kp;have k:=
   i.laid (t':=s.toks) (λb o e=>Qqx _ e) (Qqw _) (show ObjOk X.prog X.w _ _ _ (.tup ys) from⟨f,c,r',IsTup.new _ _⟩)
  exact⟨.ref h'.objs.size,_,k,rfl,q _ (i.hok.fresh (Qqw _))⟩
 ·obtain⟨c,r',pl,f⟩:=I.tuple d;exact call_tuple_same pl ⟨.ref p,H,I,rfl,q⟩
def tyV(K:Qqq)(T:String)(x:V)(H:Hp):Prop:=match x with
 |.str _=>T = "str"
 |.int _=>T = "int"
 |.ref p=>(T = "list"/\∃xs,SqL K H p xs)\/(T = "tuple"/\∃o,K.lookup p=Y o/\o.cls=.type "tuple"/\o.dict=B)\/
   (T = "dict"/\((∃kvs,H p=Y (.dK kvs))\/∃kvs,H p=Y (.dT kvs)))\/(T = "set"/\∃S n,H p=Y (.set S n))
 |_=>False
def tyV_is(I:Inv X d g H s)(r:RelV x v)(ty:tyV X.K T x H):
  s.TypeIs v T/\∀a,v=.ref a->∃ob,s.heap.get? a=Y ob/\ob.dict=none:=by
 cases x with
 |str z=>
  obtain⟨t,rfl⟩:=r;cases (ty);exact⟨typeIs_str s z t,λ_ e=>nomatch e⟩
 |int i=>
  obtain⟨t,rfl⟩:=r;cases (ty);exact⟨typeIs_int s i t,λ_ e=>nomatch e⟩
 |ref p=>
  cases r;rcases ty with⟨rfl,xs,j⟩|⟨rfl,o,hk,hc,hd⟩|⟨rfl,hk⟩|⟨rfl,S,n,hk⟩
  ·obtain⟨h,_,pl,_⟩:=I.list j;refine⟨pl.isList.typeIs,λa e=>?_⟩;cases e;obtain⟨o,n,e,c,hd,_⟩:=pl;exact⟨o,e,hd⟩
  ·refine⟨⟨o,I.kIn p o hk,hc⟩,λa e=>?_⟩;cases e;exact⟨o,I.kIn _ o hk,hd⟩
  ·have z:∃o,s.heap.get? p=Y o/\o.ExactDict:=by
    rcases hk with⟨kvs,hk⟩|⟨kvs,hk⟩
    ·obtain⟨_,_,_,_,o,_,_,e,ex,_⟩:=I.hok p _ hk;exact⟨o,e,ex⟩
    ·obtain⟨_,_,_,_,o,_,_,e,ex,_⟩:=I.hok p _ hk;exact⟨o,e,ex⟩
   obtain⟨o,e,ex⟩:=z;refine⟨⟨o,e,ex.1⟩,λa f=>?_⟩;cases f;exact⟨o,e,ex.2.1⟩
  ·obtain⟨o,_,_,_,e,ex,_⟩:=I.hok p _ hk;refine⟨⟨o,e,ex.1⟩,λa f=>?_⟩;cases f;exact⟨o,e,ex.2.1⟩
 |_=>exact False.elim ty
abbrev tBM(K:Qqq)(T:String)(r:V->Z V->Hp->VK->Prop)(to:TE)(t:TA):TE:=λσ H Q=>to σ H λx H1=>tyV K T x H1/\t σ H1 λxs H2=>r x xs H2 Q
variable {o e:Expr}{es:Z Expr}{to:TE}{t:TA}{name:Y4}{apos cpos:Pos}{T id:String}{r:V->Z V->Hp->VK->Prop}
def qdr(w:PlainAttrs T)(slot:Slot T name id)(i:typeOf (.builtin id)=pure (.type "method_descriptor"))(z:MtR X id r)(y:PE X o to)(ha:PA X (e::es) t)
  (f:Zj o name X.env (Qa o X.env)=Qa o X.env:=by rfl)
  (g:((backTo cpos (starEach (e::es) X.env)).all (λx=>!x.1)&&(backToKw cpos (keywordEach [] X.env)).all (λx=>x.1.isSome)
   && decide ((e::es).length+([]:Z Zs).length+(if ([]:Z Zs).isEmpty then 0 else 1)<30))=true:=by rfl)
  (d:(apos.endLine==cpos.line)=true:=by rfl) (hs:starEach (e::es) X.env=(Y6,Qa e X.env)::starEach es X.env:=by rfl) (c:(backTo cpos (starEach es X.env)).any (·.1)=false:=by rfl) :
  PE X (.Call (.Attribute o name apos) (e::es) [] cpos) (tBM X.K T r to t):=by
 intro pins s σ H Q I h;refine wpAny_Call_method_late f g d rfl (thn (y pins s σ H _ I h) λv n ⟨x,H1,k,j,ty,u⟩=>?_);obtain⟨h1,h2⟩:=tyV_is k j ty;refine⟨T,id,w,slot,i,h1,h2,?_⟩;have hA:=ha cpos pins n σ H1 _ k u;rw[hs]at hA ⊢;refine Calls.callWith_builtin (by show(Y6||(backTo cpos (starEach es X.env)).any (·.1))=Y6; rw[c]<;>rfl) (Calls.evalArgs_plain ?_);exact thn hA λl m ⟨vs,H2,A,p,q⟩=>z pins m σ H2 x vs v l Q A j p q
end
def MtM(X:Cx)(id:String)(r:V->Z V->Hp->VK->Prop):Prop:=
 ∀(pins:Z ?qi) (s:Qz) (σ:St) (H:Hp) (x:V) (xs:Z V) (v:Y7) (us:Z Y7) (Q:VK),Inv X pins σ H s->RelV x v->Vals xs us->r x xs H Q->
  wpAny ?v X.A (call (.builtin id) (v::us)) (EP X pins σ Q) X.xe s
def Vals.one(r:Vals [x] us):∃u,us=[u]/\RelV x u:=vals1 r
def Vals.two(r:Vals [x,y] us):∃u v,us=[u,v]/\RelV x u/\RelV y v:=vals2 r
theorem Vals.eraseIdx:∀{xs:Z V}{us:Z Y7}(i:Y0),Vals xs us->Vals (xs.eraseIdx i) (us.eraseIdx i)
 |_,_,_,.nil=>.nil
 |_,_,0,.cons _ t=>t
 |_,_,i+1,.cons r t=>.cons r (Vals.eraseIdx i t)
theorem Vals.rep(h:Vals xs us):∀k:Y0,Vals (List.replicate k xs).flatten (List.replicate k us).flatten
 |0=>.nil
 |k+1=>by
  rw[Qz8,Qz8,Qxh,Qxh];exact Vals.append h (Vals.rep h k)
theorem qwk{α:Type}:∀(l:Z α) (i:Y0),(l.eraseIdx i).length<=l.length
 |[],_=>Qqw _
 |_::_,0=>Qxo _
 |_::r,i+1=>Qjm (qwk r i)
theorem foldl_rep(its):∀(k:Y0) (a:Z Y7),
  List.foldl (λb x2=>b++x2) a.toArray (List.replicate k its.toArray)=(a++(List.replicate k its).flatten).toArray
 |0,a=>by simp
 |k+1,a=>by
  have e:a.toArray++its.toArray=(a++its).toArray:=by simp
  have c:(a++its)++(List.replicate k its).flatten=a++(List.replicate (k+1) its).flatten:=by
   rw[Qz8,Qxh,Qqo]
  rw[<- c,<- foldl_rep its k (a++its),<- e,Qz8,Qki]
section
def Inv.lset{a:Z Y7}(I:Inv X pins σ H s)(g:H l=Y (.lst xs))(e:s.heap.get? l=Y { cls:=.type "list",data:=.seq a.toArray n })(hf:f a.toArray=its'.toArray)(hv:Vals ys its')(c:ys.length<=sizeLine):
  Inv X pins σ (upd H l (.lst ys)) { s with heap:=s.heap.update l (Obj.mapSeq f),toks:=t' }:=by
 have q:=PySem.IsL.update e f;rw[hf]at q;refine I.write (by rw[g]; exact trivial) ?qu (λh u hb d=>(Qjh s.heap (Obj.mapSeq f) (Ne.symm hb)).trans d) ⟨_,q⟩ ?_;exact⟨c,its',_,hv,q⟩
def Inv.lnew(I:Inv X pins σ H s)(hv:Vals ys a)(c:ys.length<=sizeLine):
  Inv X pins σ (upd H s.heap.objs.size (.lst ys)) { s with heap:=s.heap.push { cls:=.type "list",data:=.seq a.toArray },toks:=t' }:=
 I.laid (λ_ _ q=>Qqx _ q) (Qqw _) ⟨c,a,0,hv,Qqh _ rfl⟩
theorem Inv.fresh(I:Inv X pins σ H s):H s.heap.objs.size=none:=I.hok.fresh (Qqw _)
def Inv.lstM(I:Inv X pins σ H s)(c:H l=Y (.lst xs)):xs.length<=sizeLine/\∃(a:Z Y7) (n:Y0),Vals xs a/\xs.length=a.length/\s.heap.get? l=Y { cls:=.type "list",data:=.seq a.toArray n }:=by
 obtain⟨z,a,n,r,e⟩:=I.hok l _ c;exact⟨z,a,n,r,r.length,e⟩
def qab(h:n<=sizeLine):Builtin.List.listTooLong n=false:=by
 unfold Builtin.List.listTooLong;exact Z7 ?q
end
section
def qna:V->Z V->Hp->VK->Prop:=λx vs H Q=>∃l xs y,x=.ref l/\vs=[y]/\H l=Y (.lst xs)/\xs.length<sizeLine/\Q .non (upd H l (.lst (xs++[y])))
def qez:MtM X "list.append" qna:=by
 intro pins s σ H x vs v g Q I c d h;obtain⟨l,xs,y,rfl,rfl,b,i,q⟩:=h;cases c;obtain⟨u,rfl,f⟩:=d.one;obtain⟨z,a,n,r,hl,e⟩:=I.lstM b;refine Qr F.slot_list_append ⟨_,e,rfl⟩ F.entry_list_append (F.args_list_append_2 _ _) (PySem.list_append l a.toArray n u (by rw[Qqe]; omega)) ⟨e,?_⟩;refine⟨.non,_,I.lset b e ?g (r.append (.cons f .nil)) ?_,rfl,q⟩;rw[Qqr,Qjk];omega
def rPopAt:V->Z V->Hp->VK->Prop:=λx vs H Q=>∃l xs i k y,x=.ref l/\vs=[.int i]/\H l=Y (.lst xs)/\-(2 ^ 63)<=i/\i<2 ^ 63/\seqIndex? i xs.length=Y k/\xs[k]?=Y y/\Q y (upd H l (.lst (xs.eraseIdx k)))
def qh1:MtM X "list.pop" rPopAt:=by
 intro pins s σ H x vs v o Q I d f h;obtain⟨l,xs,i,k,y,rfl,rfl,c,h1,h2,hk,j,q⟩:=h;cases d;obtain⟨u,rfl,g⟩:=f.one;obtain⟨t,rfl⟩:=g;obtain⟨z,a,n,r,hl,e⟩:=I.lstM c;obtain⟨w,m,b⟩:=r.get j;refine Qr F.slot_list_pop ⟨_,e,rfl⟩ F.entry_list_pop (F.args_list_pop_2 _ _)
  (MeetsSeq.list_pop_at l a.toArray n i t k w (fitsIndex_both h1 h2) (by rw[Qqe,<- hl]; exact hk) (by rw[<- Qzc]; exact m) (by rw[Qqe]; omega)) ⟨e,?_⟩
 refine⟨y,_,I.lset c e ?_ (r.eraseIdx k) ?_,b,q⟩
 ·rw[List.eraseIdxIfInBounds_toArray]
 ·have:=qwk xs k;omega
def len_rep{α:Type}(xs:Z α)(k):(List.replicate k xs).flatten.length=k*xs.length:=by
 induction k with
 |zero=>simp
 |succ k a=>rw[Qz8,Qxh,Qqr,a,Nat.succ_mul,Nat.add_comm]
end
section
end
section
end
end L2
namespace Att
open PySem PySem.W PySem.Calls PyProof.Rows
def qj7:∀(ns:Z J) (vs:Z Y7),WellAll P h vs (ns.map WData.int)->Zu vs ns:=by
 intro ns
 induction ns with
 |nil=>
  intro vs w;rw[Qxs]at w;cases w;exact .nil
 |cons n ns c=>
  intro vs w;rw[Qqd]at w
  cases w with
  |cons a b=>
   cases a;exact .cons _ _ (c _ b)
def qdc{l:OpenLaw}(hn:l.most=Y n)(c:l.row.toRowW.claim.pre args=L)(j:WellAll P h b args):
  ∃a vs ns,b=[Value.ref a]/\args=[WData.list (ns.map WData.int)]/\h.get? a=Y { cls:=.type "list",data:=.seq vs.toArray }/\Zu vs ns/\ns.length<=n:=by
 have k:=(pre_splitW c).1;have hc:l.pre.holds [] { args:=args }=true:=(pre_splitW c).2;obtain⟨d,r,rfl,h1,h2⟩:=hasAllW_cons k;obtain rfl:=hasAllW_nil h2;obtain⟨xs,rfl,p⟩:=hasW_list h1;obtain⟨ns,rfl⟩:=items_int p;have e:ns.length<=n:=by
  unfold OpenLaw.pre at hc;have i:(WTm.not (.lt (.lit (.int (n:J))) (.len (.arg 0)))).holds [] { args:=[.list (ns.map .int)] }=true:=by
   have i:=(holds_andW hc).1;rw[hn]at i;exact i
  have g:=condW_of i (w_not (w_lt w_lit (w_len_list (w_arg rfl))));rw[Qqz]at g;refine Nat.le_of_not_lt λq=>?_;have m:(n:J)<((ns.length:Y0):J):=by omega
  first
   |(rw[Z6 m]at g; exact absurd g ?c)
   |(simp at g; omega)
 cases j with
 |cons w1 w2=>
  cases w2
  cases w1 with
  |list o f=>exact⟨_,_,ns,rfl,rfl,o,qj7 ns _ f,e⟩
def qdm(l:OpenLaw)(args):l.row.toRowW.claim.post args (.bool L) args=true:=
 postW_of
  (by first|rfl|decide|simp[WShape.has,WShape.arms,WShape.armsAll])
  (show(WTm.eq .res (.lit (.bool L))).value [] { args:=args,res:=Y (.bool L),after:=args }=Y (.bool (L==L)) from w_eq_bool (w_res rfl) w_lit) rfl
def attach_call{l:OpenLaw}(hn:l.most=Y n)(t:d.params.defaults=[])(call:∀(w:Qj) (s₀ b:Qz) (mg m:Y4->Y2 Y7) (i:Y5) (o:Obj) (k j doc:Y7) (a:Y5) (vs:Z Y7) (ns:Z J),
   Ground q loose [] XP w s₀ mg m b.heap->YP w b.heap->
   b.heap.get? i=Y o->o.data=.func (docDef d.name d.params d.body d.scope k j doc)->b.heap.CodeRec j d.name->mg d.name=Y (.ref i)->
   b.heap.get? a=Y { cls:=.type "list",data:=.seq vs.toArray }->Zu vs ns->ns.length<=n->b.gens=#[]->
   Zk (model l.prog w) Z1 (.call (.ref i) ⟨[.ref a],[]⟩) (λr s'=>r=.ok (.ret (.bool L))/\OldK b.heap s'.heap/\s'.os=b.os/\Zn s'.gens) b):
  WalkO q loose XP YP l.row.toRowW d [] (λf vs=>PySem.call f vs):=by
 intro w s₀ b mg m G Yq i o k j doc N kV D hd u y s H z v P e x A p F;obtain rfl:N=.none:=Dflts.none y t;obtain rfl:kV=.none:=Dflts.noKw y;obtain⟨a,vs,ns,rfl,rfl,g,c,h⟩:=qdc hn e p;refine enter_call (Q5 (call w s₀ b mg m i o k j doc a vs ns G Yq D (fd_plain hd) u s g c h H) λr s' C=>?_);obtain⟨rfl,h2,K,I⟩:=C;exact⟨.inl ⟨.bool L,.bool L,[],rfl,λ_=>rfl,.bool L,qdm l _,λ_=>⟨List.Pairwise.nil,λ_ E=>(nomatch E)⟩⟩,h2,K,I⟩
section
end
end Att
namespace L2
open PySem PySem.Spec PyProof.Rows
theorem qq9:∀{vs}{ns},Zu vs ns->Vals (ns.map V.int) vs
 |_,_,.nil=>.nil
 |_,_,.cons n t h=>.cons ⟨t,rfl⟩ (qq9 h)
def Only(H:Hp):Prop:=∀b,H b=B\/∃o xs,H b=Y (.frz o (.lst xs))
def qh6{K:Qqq}(KX:K.In s₁.heap)(t:s₁.heap.Ns mainGlobals mg)(hb:s₁.heap.Ns builtinsNs D)(G:∀x:Y4,x ≠ "__name__"->D x=Qy x)(y:s₁.heap.NoLimit)(hg:s₁.gens=#[])(ha:s₁.heap.get? a=Y { cls:=.type "list",data:=.seq vs.toArray })(T:Zu vs ns)(hl:ns.length<=sizeLine)(hr:Room k Z1)(F:∀base:Heap,K.In base->base.Ns mainGlobals mg->FnOk P w K mg base CX k N W [x] R)(i:∀(s:Qz) (u:Y7),BindsTo s W ⟨[u],[]⟩ [(x,u)])(E:∀H:Hp,Only H->SqL K H a (ns.map V.int)->R [.ref a] H (λv _=>v=.bl L) λ_ _ _=>False)(I:∀H e s',CX [] H s₁ (λ_ _ _=>False) e s'->False):
  Zk (model P w) Z1 (.call (.ref N) ⟨[.ref a],[]⟩) (λr s'=>r=.ok (.ret (.bool L))/\OldK s₁.heap s'.heap/\s'.os=s₁.os/\Zn s'.gens) s₁:=by
 have S:=qq9 T;have l:=T.length;have g:∀H:Hp,Only H->SqL K H a (ns.map V.int)->HOk P w H s₁.heap->(∀b,H b≠B->b=a)->(H a≠B->K.lookup a=B)->
   Zk (model P w) Z1 (.call (.ref N) ⟨[.ref a],[]⟩) (λr s'=>r=.ok (.ret (.bool L))/\OldK s₁.heap s'.heap/\s'.os=s₁.os/\Zn s'.gens) s₁:=by
  intro H U hS hok hA hK;have c:∀{b:Y5}{o:Obj},s₁.heap.get? b=Y o->H b=B->(hidT s₁.heap H).get? b=Y o:=λe n=>qiq e n;have C:∀{b:Y5}{o:Obj}{es:Array Q3}{ep:Y0},s₁.heap.get? b=Y o->o.data=.dict es ep->H b=none:=λ{b o es ep} e d=>by
   cases q:H b with
   |none=>rfl
   |some u=>
    have Q:=hA b (by rw[q]; simp);subst Q;rw[ha]at e; cases e;have d':=d;cases d'
  have f:∀{b:Y5}{m:Y4->Y2 Y7},s₁.heap.Ns b m->(hidT s₁.heap H).Ns b m:=λ{b m} ⟨o,es,ep,e,d,r⟩=>⟨o,es,ep,c e (C e d),d,r⟩
  have A:=λb o e=>c (KX b o e) (by
   cases q:H b with
   |none=>rfl
   |some u=>
    have Q:=hA b (by rw[q]; simp);subst Q
    rw[hK (by rw[q]; simp)]at e; cases e)
  have hM:Mod K mg (hidT s₁.heap H):=⟨A,f t,⟨D,f hb,G⟩,let ⟨mc,h1,h2⟩:=y; ⟨mc,f h1,h2⟩⟩
  have e0:Env0 P w K mg (hidT s₁.heap H) Z1 [] s₁ H:=⟨rfl,hM,λb o e=>qow e,Qky (qe1 _ _),trivial,λb hb=>absurd (show b∈([]:Z Y5) from hb) ?g,hok,.of_eq hg⟩
  refine Q5 ((F _ A (f t)).run Z1 [] s₁ H ⟨[.ref a],[]⟩ [.ref a] [.ref a] _ _ hr e0 (i s₁ (.ref a)) (.cons rfl .nil) (E H U hS)) λr s' h=>?_
  cases r with
  |error e=>exact(I H e s' h).elim
  |ok fl=>
   cases fl with
   |next=>exact False.elim h
   |brk=>exact False.elim h
   |cont=>exact False.elim h
   |ret u=>
    obtain⟨v,H',os,bare,un,p,r',q⟩:=h;have q':=q;subst q';obtain rfl:u=Value.bool true:=r';refine⟨rfl,OldK.of_keep λb o e=>?_,os,bare⟩
    cases q:H b with
    |none=>exact un.keep b o e q (by intro z; exact absurd (show b∈([]:Z Y5) from z) ?g) ?g
    |some u=>
     rcases U b with z|⟨ob,xs,z⟩
     ·rw[q]at z; cases z
     ·have z2:=un.frzs b ob _ z;obtain⟨X,_⟩:=hok b _ z;obtain⟨e2,_⟩:=p b _ z2;rw[e]at X; cases X;exact e2
 cases hk:K.lookup a with
 |some o=>
  have e:=KX a o hk;rw[ha]at e;cases e;refine g (λ_=>B) (λ_=>.inl rfl) (.inr ⟨_,vs.toArray,_,hk,rfl,rfl,rfl,by rw[Qqe,l]; exact hl,by simpa using S⟩) (λb u z=>by have j:=z; cases j) (λb z=>absurd rfl z) λz=>absurd rfl z
 |none=>
  refine g (λb=>if b=a then Y (.frz { cls:=.type "list",data:=.seq vs.toArray } (.lst (ns.map V.int))) else B) (λb=>?_) (.inl (.inr ⟨{ cls:=.type "list",data:=.seq vs.toArray },Z9 rfl⟩)) (λb u z=>?_) (λb z=>?_) λ_=>hk
  ·by_cases hb:b=a
   ·exact .inr ⟨_,_,Z9 hb⟩
   ·exact .inl (Z8 hb)
  ·by_cases hb:b=a
   ·have j:=(Z9 hb).symm.trans z;cases j;subst hb;exact⟨ha,by rw[Qqz]; exact hl,vs,_,S,ha⟩
   ·have j:=(Z8 hb).symm.trans z;cases j
  ·by_cases hb:b=a
   ·exact hb
   ·exact absurd (Z8 hb) z
def walk_of{l:PySem.W.OpenLaw}{K:Qp->Qqq}{D:Qj->CXT}{A:Qj->Sp}(hn:l.most=Y n)(r:n<=sizeLine)(y:d.params.defaults=[])(hr:Room k Z1)(N:∀(w:Qj) (h:Heap),YP w h->(K w.params).In h)(F:∀(w:Qj) (mg:Y4->Y2 Y7) (j:Y5) (h:Heap),(K w.params).In h->h.Ns mainGlobals mg->mg d.name=Y (.ref j)->
   ∃fd:Qn,(∀(s:Qz) (u:Y7),BindsTo s fd ⟨[u],[]⟩ [(x,u)])/\
    ∀base:Heap,(K w.params).In base->base.Ns mainGlobals mg->FnOk l.prog w (K w.params) mg base (D w) k j fd [x] (A w))(p:∀(w:Qj) (H:Hp) (a:Y5) (ns:Z J),ns.length<=n->Only H->SqL (K w.params) H a (ns.map V.int)->A w [.ref a] H (λv _=>v=.bl L) λ_ _ _=>False)(z:∀(w:Qj) (H:Hp) (s:Qz) (e:Y7) (m:Qz),D w [] H s (λ_ _ _=>False) e m->False):
  PySem.W.WalkO q loose XP YP l.row.toRowW d [] (λf vs=>PySem.call f vs):=by
 refine Att.attach_call hn y λw s₀ g mg S j o R U doc a vs ns G Yq T hd I t i c b E=>?_;have C:=N w _ Yq;obtain⟨fd,hb,Q⟩:=F w mg j _ C G.T.g t;exact qh6 C G.T.g G.T.b G.T.builtins G.T.nolimit E i c (Qzn b r) hr Q hb (λH P hS=>p w H a ns b P hS) λH e m=>z w H g e m
noncomputable abbrev CX0:CXT:=λ_ _ _ _ _ _=>False
noncomputable abbrev E0:XK:=λ_ _ _=>False
def qhs:qkj CX0 X E0:=λ_ _ _ _ _ _ _ h=>h.elim
structure Fun (K:Qqq) (x qual:Y4) (st:Stmt) (f:Y5) (fd:Qn):Prop where
 ex:∃(oc:Y7) (od:Y2 Y5) (kV doc pm:Y7) (an:Y2 Y5) (cdv ct:Y7) (osl:Array (Y2 Y7)),
  fd=PySem.W.fnOf x qual (qqd st) (qzt st) (qzy st) .none kV doc pm an cdv ct/\K.lookup f=Y ⟨oc,od,.func fd,osl⟩/\PySem.W.codeIn K cdv qual=L
 kp:Qz7 K (.ref f)=L
section
variable {P:Program}{w:Qj}{K:Qqq}{mg:Y4->Y2 Y7}{base:Heap}
def Fun.ok{st:Stmt}(F:Fun K x a st f g)(S:FnScope N ps (qzy st))(len:∀vs H Q E,sp vs H Q E->vs.length=ps.length)(c:∀(b:Y7) (A:Qk) (outer:Z Env) (s:Qz) (H:Hp) (vs:Z V) (Q:VK) (E:XK),Room k (A.deeper (envOfC a (qzy st) s.heap.objs.size f b))->sp vs H Q E->
   ∃t,PSs (cxOf CX0 P w K mg base N a (qzy st) f b A outer s H E).nox (qzt st) t/\t { nx:=λ_ H'=>Q .non H',rt:=Q } (start N vs) H):FnOk P w K mg base CX0 (k+1) f g ps sp:=by
 obtain⟨m,l,kV,doc,j,an,b,ct,i,rfl,lk,e⟩:=F.ex;refine fn_of lk e S len λA outer s H vs Q E hr d=>?_;obtain⟨t,h,q⟩:=c b A outer s H vs Q E hr d;exact⟨t,h.nox,q⟩
def Fun.binds{st:Stmt}(F:Fun K x a st f d)(h:∀(kV doc c:Y7) (an:Y2 Y5) (b ct:Y7) (us:Z Y7),us.length=ps.length->bindArgs (PySem.W.fnOf x a (qqd st) (qzt st) (qzy st) .none kV doc c an b ct) ⟨us,[]⟩=pure (ps.zip us)):Binds K d ps []:=by
 obtain⟨j,i,kV,doc,c,an,b,ct,e,rfl,lk,g⟩:=F.ex;exact .all (h kV doc c an b ct)
def qwe{st:Stmt}{kV:Y7}(l:K.lookup f=Y ⟨h,g,.func (PySem.W.fnOf x a (qqd st) (qzt st) (qzy st) .none kV doc e an b ct),d⟩)(c:PySem.W.codeIn K b a=L)(k:Qz7 K (.ref f)=L):Fun K x a st f (PySem.W.fnOf x a (qqd st) (qzt st) (qzy st) .none kV doc e an b ct):=⟨⟨h,g,kV,doc,e,an,b,ct,d,rfl,l,c⟩,k⟩
end
def qdy(h:n<=1000):n<sizeLine:=Nat.lt_of_le_of_lt h ?c
section
end
def Same(H H':Hp):Prop:=∀b o,H b=Y o->H' b=Y o
end L2
end
section
namespace L2
open PySem PySem.Spec PyProof.Rows
section
variable [DecidableEq κ]
abbrev valV(kvs:Z (κ×V))(k:κ):Y2 V:=(kvs.find? λkv=>decide (kv.1=k)).map (·.2)
abbrev putK(kvs:Z (κ×V))(k:κ)(v:V):Z (κ×V):=
 if (kvs.any λkv=>decide (kv.1=k))=L then kvs.map (λkv=>if kv.1=k then(kv.1,v) else kv) else kvs++[(k,v)]
def qjq{p:κ×V}(e:p.1=k):valV (p::r) k=Y p.2:=by simp[valV,Qq2,e]
def qjx{p:κ×V}(e:¬ p.1=k):valV (p::r) k=valV r k:=by simp[valV,Qq2,e]
theorem qyu(k):∀kvs:Z (κ×V),(kvs.any λkv=>decide (kv.1=k))=(valV kvs k).isSome
 |[]=>rfl
 |p::r=>by
  rw[Qxb]
  by_cases e:p.1=k
  ·simp only[qjq e,Z6 e,Bool.true_or,Option.isSome_some]
  ·rw[qjx e,Z7 e,Qkq]; exact qyu k r
def qq4(kvs:Z (κ×V))(k)(v):(putK kvs k v).length<=kvs.length+1:=by
 unfold putK
 split
 ·rw[Qqz]; omega
 ·rw[Qqr,Qqm,Qj1]; omega
def RelO.isSome_eq(r:RelO o u):o.isSome=u.isSome:=by
 cases o with
 |none=>cases u with
  |none=>rfl
  |some _=>exact(r).elim
 |some _=>cases u with
  |none=>exact(r).elim
  |some _=>rfl
theorem RelO.getD(r:RelO o u)(rd:RelV d d'):RelV (o.getD d) (u.getD d'):=by
 cases o with
 |none=>cases u with
  |none=>exact rd
  |some _=>exact(r).elim
 |some _=>cases u with
  |none=>exact(r).elim
  |some _=>exact r
def KV.val(r:KV kvs vs)(k:κ):RelO (valV kvs k) (valueAt vs k):=by
 unfold KV at r
 induction r with
 |nil=>exact True.intro
 |@cons p q ps a h t d=>
  obtain⟨h1,h2⟩:=h
  by_cases e:p.1=k
  ·have c:=h1.symm.trans e;have b:valueAt (q::a) k=Y q.2:=by simp[valueAt,Qq2,c]
   rw[qjq e,b]; exact h2
  ·have c:¬ q.1=k:=λz=>e (h1.trans z);have b:valueAt (q::a) k=valueAt a k:=by simp[valueAt,Qq2,c]
   rw[qjx e,b]; exact d
theorem KV.any(r:KV kvs vs)(k:κ):(kvs.any λkv=>decide (kv.1=k))=vs.any λkv=>decide (kv.1=k):=by
 unfold KV at r
 induction r with
 |nil=>rfl
 |cons h t a=>rw[Qxb,Qxb,a,h.1]
def KV.repl{kvs:Z (κ×V)}(r:KV kvs vs)(k)(a:RelV y u):
  KV (kvs.map λkv=>if kv.1=k then(kv.1,y) else kv) (vs.map λkv=>if kv.1=k then(kv.1,u) else kv):=by
 unfold KV at r ⊢
 induction r with
 |nil=>exact .nil
 |@cons p q ps c h t b=>
  rw[Qqd,Qqd];refine .cons ?_ b;obtain⟨h1,h2⟩:=h
  by_cases e:p.1=k
  ·rw[Z9 e,Z9 (h1.symm.trans e)]; exact⟨h1,a⟩
  ·rw[Z8 e,Z8 (λz=>e (h1.trans z))]; exact⟨h1,h2⟩
def KV.put{kvs:Z (κ×V)}(r:KV kvs vs)(k)(a:RelV y u):KV (putK kvs k y) (stored vs k u):=by
 unfold putK stored;rw[r.any k]
 by_cases e:(vs.any λkv=>decide (kv.1=k))=L
 ·rw[Z9 e,Z9 e]; exact r.repl k a
 ·rw[Z8 e,Z8 e]; exact Paired.snoc r ⟨rfl,a⟩
def KV.keys{kvs:Z (κ×V)}(r:KV kvs vs):kvs.map (·.1)=vs.map (·.1):=by
 unfold KV at r
 induction r with
 |nil=>rfl
 |cons h t a=>rw[Qqd,Qqd,a,h.1]
theorem KV.length{kvs:Z (κ×V)}(r:KV kvs vs):kvs.length=vs.length:=Paired.length r
end
def qkb(r:RelV (kV k) u):(?q4).is k u=true:=by
 cases k with
 |inl i=>obtain⟨t,e⟩:=(r); subst e; exact qjs P w i t
 |inr x=>obtain⟨t,e⟩:=(r); subst e; exact qq3 P w x t
theorem qww:∀{ks}{us},Vals (ks.map kV) us->ItemsAre ?q4 ks us
 |[],_,r=>by rw[Qxs]at r; cases r; exact .nil
 |k::ks,_,r=>by
  rw[Qqd]at r
  cases r with
  |cons h t=>exact .cons (qkb h) (qww t)
noncomputable abbrev KT(H:Hp):Z (Z Key×V)->Z (Z Key×Y5×Y7)->Prop:=Paired λp q=>p.1=q.1/\H q.2.1=Y (.tup (p.1.map kV))/\RelV p.2 q.2.2
def KT.val(r:KT H kvs xs)(k):RelO (valV kvs k) ((atKey xs k).map (·.2)):=by
 induction r with
 |nil=>exact True.intro
 |@cons p q ps a h t d=>
  obtain⟨h1,_,h2⟩:=h
  by_cases e:p.1=k
  ·have c:=h1.symm.trans e;have b:atKey (q::a) k=Y q.2:=by simp[atKey,Qq2,c]
   rw[qjq e,b]; exact h2
  ·have c:¬ q.1=k:=λz=>e (h1.trans z);have b:atKey (q::a) k=atKey a k:=by simp[atKey,Qq2,c]
   rw[qjx e,b]; exact d
def KT.repl(r:KT H kvs xs)(k)(a:RelV y u):
  KT H (kvs.map λkv=>if kv.1=k then(kv.1,y) else kv) (xs.map (putAt k u)):=by
 induction r with
 |nil=>exact .nil
 |@cons p q ps d h t b=>
  rw[Qqd,Qqd];refine .cons ?_ b;obtain⟨h1,h2,c⟩:=h;unfold putAt
  by_cases e:p.1=k
  ·rw[Z9 e,Z9 (h1.symm.trans e)]; exact⟨h1,h2,a⟩
  ·rw[Z8 e,Z8 (λz=>e (h1.trans z))]; exact⟨h1,h2,c⟩
def KT.put(r:KT H kvs xs)(k)(hb:H b=Y (.tup (k.map kV)))(a:RelV y u):
  KT H (putK kvs k y) (storedH xs k b u):=by
 have e:(kvs.any λkv=>decide (kv.1=k))=(atKey xs k).isSome:=by
  rw[qyu,(r.val k).isSome_eq,Qkx]
 unfold putK storedH;rw[e]
 by_cases q:(atKey xs k).isSome=L
 ·rw[Z9 q,Z9 q]; exact r.repl k a
 ·rw[Z8 q,Z8 q]; exact Paired.snoc r ⟨rfl,hb,a⟩
def KT.keeps(r:KT H kvs xs)(a:∀b ys,H b=Y (.tup ys)->H' b=Y (.tup ys)):KT H' kvs xs:=
 Paired.mapP r λ_ _ z=>⟨z.1,a _ _ z.2.1,z.2.2⟩
section
def rd_of(ok:HOk P w H h)(e:Rd H a u):ObjOk P w H h a u:=e.ok ok
def qwh(ok:HOk P w H h)(e:Rd H a (.dK kvs)):kvs.length<=sizeLine/\(a==Qo)=Y6/\∃vs,KV kvs vs/\h.DictOf ?q4 a vs:=
 show ObjOk P w H h a (.dK kvs) from rd_of ok e
def dk_of(ok:HOk P w H h)(e:H a=Y (.dK kvs)):kvs.length<=sizeLine/\(a==Qo)=Y6/\∃vs,KV kvs vs/\h.DictOf ?q4 a vs:=qwh ok (.inl e)
def qqt(ok:HOk P w H h)(e:H a=Y (.tup (ks.map kV))):(tupleKind ?q4).is h ks a:=by
 obtain⟨_,b,r,o,h1,h2,n,c⟩:=(ok a _ e)
 exact⟨o,b.toArray,n,h1,h2,c,by simpa using qww r⟩
def qyi(ok:HOk P w H h)(e:Rd H a (.dT kvs)):kvs.length<=sizeLine/\(a==Qo)=Y6/\
  ∃xs,KT H kvs xs/\h.DictOfH (tupleKind ?q4) a xs:=by
 obtain⟨z,y,xs,r,o,es,j,h1,h2,i,g,f⟩:=(rd_of ok e)
 refine⟨z,y,xs,r,o,es,j,h1,h2,i,g,λx b=>?_,f⟩;have all:∀{l:Z (Z Key×V)}{m:Z (Z Key×Y5×Y7)},KT H l m->∀x∈m,(tupleKind ?q4).is h x.1 x.2.1:=by
  intro l m q
  induction q with
  |nil=>intro x b; exact nomatch b
  |@cons p q ps k c t d=>
   intro x b;rcases Qqc.mp b with e|b
   ·subst e;exact qqt ok (by rw[<- c.1]; exact c.2.1)
   ·exact d x b
 exact all r x b
def dt_of(ok:HOk P w H h)(e:H a=Y (.dT kvs)):kvs.length<=sizeLine/\(a==Qo)=Y6/\
  ∃xs,KT H kvs xs/\h.DictOfH (tupleKind ?q4) a xs:=qyi ok (.inl e)
end
def DGet(H:Hp)(a:Y5)(y:V)(r:Y2 V):Prop:=
 (∃kvs k,Rd H a (.dK kvs)/\y=kV k/\r=valV kvs k)\/∃kvs k b,Rd H a (.dT kvs)/\y=.ref b/\H b=Y (.tup (k.map kV))/\r=valV kvs k
def DPut(H:Hp)(a:Y5)(y v:V)(H':Hp):Prop:=
 (∃kvs k,H a=Y (.dK kvs)/\y=kV k/\kvs.length<sizeLine/\H'=upd H a (.dK (putK kvs k v)))\/
 ∃kvs k b,H a=Y (.dT kvs)/\y=.ref b/\H b=Y (.tup (k.map kV))/\kvs.length<sizeLine/\H'=upd H a (.dT (putK kvs k v))
theorem DPut.k{H:Hp}{a:Y5}{kvs:Z (Key×V)}{k:Key}{v:V}(e:H a=Y (.dK kvs))(hl:kvs.length<sizeLine):DPut H a (kV k) v (upd H a (.dK (putK kvs k v))):=.inl ⟨kvs,k,e,rfl,hl,rfl⟩
section
def Inv.big(I:Inv X pins σ H s):Qo<s.heap.objs.size:=by
 have h:=(I.mod.glob.keeps I.bk).lt;exact Nat.lt_trans ?c h
def qff(t:A.units+1<cLine)(I:Inv X pins σ H s)(g:DGet H a y (Y v))(q:RelV y u)(h:∀f s',Inv X pins σ H s'->RelV v f->Q f s'):
  wpAny ?v A (Zv (.ref a) u) Q E s:=by
 rcases g with⟨kvs,k,e,m,l⟩|⟨kvs,k,b,e,m,x,l⟩
 ·subst m;obtain⟨z,hd,vs,d,n⟩:=qwh I.hok e;obtain⟨f,i,c⟩:=RelO.some_of (by rw[l]; exact d.val k);exact wpAny_getItem_of (qkb q) n.mapOf i (h f _ (I.tok _) c)
 ·subst m;cases (q);obtain⟨z,hd,xs,d,n⟩:=qyi I.hok e;obtain⟨f,i,c⟩:=RelO.some_of (by rw[l]; exact d.val k);obtain⟨p,w,j⟩:=Qqy.mp i;refine wpAny_getItem_heap (Q8 t) (qqt I.hok x) n w ?_;rw[j];exact h f _ (I.tok _) c
def d_in(j:A.units+1<cLine)(I:Inv X pins σ H s)(g:DGet H a y o)(i:RelV y u)(h:∀s',Inv X pins σ H s'->Q (.bool o.isSome) s'):
  wpAny ?v A (Qg .In u (.ref a)) Q E s:=by
 rcases g with⟨kvs,k,e,d,l⟩|⟨kvs,k,b,e,d,m,l⟩
 ·subst d;obtain⟨z,hd,vs,c,f⟩:=qwh I.hok e;refine wpAny_in_of (qkb i) hd f.mapOf ?_;rw[<- (c.val k).isSome_eq,<- l];exact h _ (I.tok _)
 ·subst d;cases (i);obtain⟨z,hd,xs,c,f⟩:=qyi I.hok e;refine wpAny_in_heap (Q8 j) (qqt I.hok m) hd f ?_;have q:=(c.val k).isSome_eq;rw[Qkx]at q;rw[<- q,<- l];exact h _ (I.tok _)
def qpn(j:A.units+1<cLine)(I:Inv X pins σ H s)(g:DGet H a y o)(i:RelV y u)(h:∀s',Inv X pins σ H s'->Q (.bool (!o.isSome)) s'):
  wpAny ?v A (Qg .NotIn u (.ref a)) Q E s:=by
 rcases g with⟨kvs,k,e,d,l⟩|⟨kvs,k,b,e,d,m,l⟩
 ·subst d;obtain⟨z,hd,vs,c,f⟩:=qwh I.hok e;refine wpAny_notIn_of (qkb i) hd f.mapOf ?_;rw[<- (c.val k).isSome_eq,<- l];exact h _ (I.tok _)
 ·subst d;cases (i);obtain⟨z,hd,xs,c,f⟩:=qyi I.hok e;refine wpAny_notIn_heap (Q8 j) (qqt I.hok m) hd f ?_;have q:=(c.val k).isSome_eq;rw[Qkx]at q;rw[<- q,<- l];exact h _ (I.tok _)
def qyn(I:Inv X pins σ H s)(c:Mut (H a))(hs:Heap.SameBut a s.heap h')(d:∃q,h'.get? a=Y q)(new:ObjOk X.prog X.w (upd H a ob) h' a ob):
  Inv X pins σ (upd H a ob) { s with heap:=h',toks:=t' }:=
 I.write c ?qu (λb q hb z=>(hs.2 b hb).trans z) d new
def dk_new(z:kvs.length<=sizeLine)(hd:(a==Qo)=Y6)(b:KV kvs vs)(c:h'.DictOf ?q4 a vs):
  ObjOk P w H' h' a (.dK kvs):=⟨z,hd,vs,b,c⟩
def qfe(D:A.units+1<cLine)(I:Inv X pins σ H s)(g:DPut H a y v H')(t:RelV y u)(w:RelV v r)(h:∀s',Inv X pins σ H' s'->Q () s'):
  wpAny ?v A (setItem (.ref a) u r) Q E s:=by
 rcases g with⟨kvs,k,e,m,l,n⟩|⟨kvs,k,b,e,m,C,l,n⟩
 ·subst m n;obtain⟨z,hd,vs,d,p⟩:=dk_of I.hok e;have j:vs.length<=sizeLine:=by rw[<- d.length]; exact z
  have hl:(putK kvs k v).length<=sizeLine:=by have:=qq4 kvs k v; omega
  refine wpAny_setItem_pairs (qkb t) p λh' f hs=>h _ ?_;have F:∃q,h'.get? a=Y q:=let ⟨q,_,_,i,_⟩:=f; ⟨q,i⟩;exact qyn I (by rw[e]; exact True.intro) hs F (dk_new hl hd (d.put k w) f)
 ·subst m n;cases (t);obtain⟨z,hd,xs,d,p⟩:=dt_of I.hok e;have j:xs.length<=sizeLine:=by rw[<- Paired.length d]; exact z
  have hl:(putK kvs k v).length<=sizeLine:=by have:=qq4 kvs k v; omega
  refine wpAny_setItem_heap (Q8 D) (qqt I.hok C) p λh' f hs=>h _ ?_;obtain⟨q,es,P,i,h2,N,K,_,G⟩:=f;refine qyn I (by rw[e]; exact True.intro) hs ⟨q,i⟩ ⟨hl,hd,_,(d.put k C w).keeps λc ys x=>?_,q,es,P,i,h2,N,K,G⟩;rw[qzq (qzs x e (λz=>nomatch z))];exact x
end
section
end
def NoSl(i:Expr):Prop:=∀ov iv,subscripted i Y6 ov iv=operate [ov,iv] (Zv ov iv)
def qc8(hl:typeLookup (.type T) "__getitem__" = pure (Y (.builtin l)))(hs:NoSl a)(h:wpAny ?A A (Qa b env) (λo e=>wpAny ?A A (Qa a env) (λi s₂=>s₂.TypeIs o T/\wpAny ?A A (Zv o i) Q E s₂) E e) E s):
  wpAny ?A A (Qa (.Subscript b a pos) env) Q E s:=by
 refine Subscript_ (Qh h (λo e j=>Qh j (λi s₂ c=>?_) λ_ _ x=>x) λ_ _ x=>x);obtain⟨k,c⟩:=c;unfold subscriptTail;refine Qq ?_;rw[getitemInPython_of_ne k.not_modules];refine Qq (Zc k hl ?_);have f:wpAny ?A A (subscripted a Y6 o i) (λr d=>wpAny ?A A (letTemporaryGo b o r >>= λ_=>pure r) Q E d) E s₂:=by
  rw[hs o i];exact wpAny_operating (Qh c (λr d g=>Qq (wpAny_letTemporaryGo (Qx g))) λ_ _ x=>x)
 first
  |exact Qx (Qq f)
  |exact Qq (Qx (Qq f))
  |exact Qq f
def qyl(I:Inv X c f H s)(g:DGet H a y o):s.TypeIs (.ref a) "dict":=by
 rcases g with⟨kvs,k,e,_,_⟩|⟨kvs,k,b,e,_,_,_⟩
 ·obtain⟨_,_,vs,_,d⟩:=qwh I.hok e;exact d.typeIs
 ·obtain⟨_,_,xs,_,d⟩:=qyi I.hok e;exact d.typeIs
abbrev tDGet(td ty:TE):TE:=λσ H Q=>td σ H λx H1=>ty σ H1 λy H2=>∃a v,x=.ref a/\DGet H2 a y (Y v)/\Q v H2
abbrev tDIn(ty td:TE):TE:=λσ H Q=>ty σ H λy H1=>td σ H1 λx H2=>∃a o,x=.ref a/\DGet H2 a y o/\Q (.bl o.isSome) H2
abbrev qc6(ty td:TE):TE:=λσ H Q=>ty σ H λy H1=>td σ H1 λx H2=>∃a o,x=.ref a/\DGet H2 a y o/\Q (.bl (!o.isSome)) H2
abbrev sDPut(td ty tv:TE):TS:=λD σ H=>tv σ H λv H1=>td σ H1 λx H2=>ty σ H2 λy H3=>∃a H4,x=.ref a/\DPut H3 a y v H4/\D.nx σ H4
section
def qn1(m:X.A.units+1<cLine)(n:PE X o td)(p:PE X i ty)(hs:NoSl i):PE X (.Subscript o i pos) (tDGet td ty):=by
 intro pins s σ H Q I h;refine qc8 PySem.F.slot_dict_getitem.lookup hs (thn (n pins s σ H _ I h) λu d ⟨x,H1,r,j,l⟩=>thn (p pins d σ H1 _ r l) λA z ⟨y,H2,c,f,a,v,ex,g,k⟩=>?_);subst ex;obtain rfl:u=Value.ref a:=j;exact⟨qyl c g,qff m c g f λt w q b=>⟨v,H2,q,b,k⟩⟩
def pc_din(l:X.A.units+1<cLine)(n:PE X i ty)(m:PE X o td):PC X .In i o (tDIn ty td):=by
 intro pins s σ H Q I h;refine thn (n pins s σ H _ I h) λw b ⟨y,H1,r,c,j⟩=>thn (m pins b σ H1 _ r j) λu v ⟨x,H2,q,d,a,k,ex,g,f⟩=>?_;subst ex;obtain rfl:u=Value.ref a:=d;exact d_in l q g c λt p=>⟨.bl k.isSome,H2,p,rfl,f⟩
def qdt(l:X.A.units+1<cLine)(n:PE X i ty)(m:PE X o td):PC X .NotIn i o (qc6 ty td):=by
 intro pins s σ H Q I h;refine thn (n pins s σ H _ I h) λw b ⟨y,H1,r,c,j⟩=>thn (m pins b σ H1 _ r j) λu v ⟨x,H2,q,d,a,k,ex,g,f⟩=>?_;subst ex;obtain rfl:u=Value.ref a:=d;exact qpn l q g c λt p=>⟨.bl (!k.isSome),H2,p,rfl,f⟩
def qnf(n:X.A.units+1<cLine)(p:PE X o td)(q:PE X i ty)(hv:PE X value tv)(hs:swapsWith value (Y (.Subscript o i pos')) pos.line X.env=pure Y6):
  PS X (.Assign [.Subscript o i pos'] value pos) (sDPut td ty tv):=by
 intro pins s σ H D I h;refine wpAny_Assign_Subscript (thn (hv pins s σ H _ I h) λr c ⟨v,H1,A,j,m⟩=>thn (p pins c σ H1 _ A m) λu b ⟨x,H2,z,f,l⟩=>thn (q pins b σ H2 _ z l) λG F ⟨y,K,w,d,a,C,ex,g,k⟩=>?_) hs;subst ex;obtain rfl:u=Value.ref a:=f;exact qfe n w g d j λE t=>⟨σ,C,t,k⟩
end
def qbj(h:Heap)(hb:Qo<h.objs.size):ObjOk P w H (h.push { cls:=.type "dict",data:=.dict #[] }) h.objs.size (.dK []):=
 ⟨Qzg _,beq_eq_false_iff_ne.mpr (Ne.symm (Qq1 hb)),[],.nil,Heap.DictOf.new h⟩
abbrev tDNewK:TE:=λ_ H Q=>∀p,H p=B->Q (.ref p) (upd H p (.dK []))
section
def pe_dnewK:PE X (.Dict [] [] pos) tDNewK:=λpins s σ H Q I h=>
 wpAny_Dict_empty ⟨.ref s.heap.objs.size,_,I.laid (λ_ _ q=>Qqx _ q) (Qqw _) (qbj s.heap I.big),rfl,h _ (I.hok.fresh (Qqw _))⟩
end
abbrev qy3:Z (TE×TE)->St->Hp->(Z (V×V)->Hp->Prop)->Prop
 |[],_,H,Q=>Q [] H
 |(tk,tv)::r,σ,H,Q=>tk σ H λx H1=>tv σ H1 λy H2=>qy3 r σ H2 λps H3=>Q ((x,y)::ps) H3
noncomputable abbrev VV:Z (V×V)->Z (Y7×Y7)->Prop:=Paired λp q=>RelV p.1 q.1/\RelV p.2 q.2
def PPs(X:Cx)(pos:Pos)(keys:Z (Y2 Expr))(values:Z Expr)(trs:Z (TE×TE)):Prop:=
 ∀(pins:Z ?qi) (s:Qz) (σ:St) (H:Hp) (Q:Z (V×V)->Hp->Prop),Inv X pins σ H s->qy3 trs σ H Q->
  wpAny ?v X.A (evalPairs (pairTrees keys values X.env pos)) (λvs s'=>∃ps H',Inv X pins σ H' s'/\VV ps vs/\Q ps H') X.xe s
def qng:PPs X pos [] [] []:=λpins s σ H Q I h=>pairTrees_nil_walk ⟨[],H,I,.nil,h⟩
def qhd(hk:PE X k tk)(hv:PE X v c)(hr:PPs X pos ks vs a):
  PPs X pos (Y k::ks) (v::vs) ((tk,c)::a):=λpins s σ H Q I h=>
 pairTrees_cons_walk (thn (hk pins s σ H _ I h) λu e ⟨x,H1,o,g,l⟩=>thn (hv pins e σ H1 _ o l) λw2 d ⟨y,H2,n,f,j⟩=>
  thn (hr pins d σ H2 _ n j) λq r ⟨ps,p,m,b,i⟩=>⟨(x,y)::ps,p,m,.cons ⟨g,f⟩ b,i⟩)
abbrev qkm(kvs more:Z (Key×V)):Z (Key×V):=more.foldl (λacc kv=>putK acc kv.1 kv.2) kvs
def KV.merge:∀{more}{a}{kvs}{vs},KV more a->KV kvs vs->KV (qkm kvs more) (merged vs a):=by
 intro more a kvs vs r;unfold KV at r
 induction r generalizing kvs vs with
 |nil=>intro q; exact q
 |@cons p q ps d h t c=>
  intro b;have e:KV (putK kvs p.1 p.2) (stored vs q.1 q.2):=by
   have:=b.put p.1 h.2;rw[<- h.1]; exact this
  exact c e
theorem qxx:∀(more kvs:Z (Key×V)),(qkm kvs more).length<=kvs.length+more.length
 |[],kvs=>by show kvs.length<=kvs.length+0; omega
 |p::r,kvs=>by
  have h1:=qxx r (putK kvs p.1 p.2);have h2:=qq4 kvs p.1 p.2;show(qkm (putK kvs p.1 p.2) r).length<=_;rw[Qqm]; omega
theorem qk0:∀{kvs}{e},VV (kvs.map λkv=>(kV kv.1,kv.2)) e->∃d,Carries ?q4 e d/\KV kvs d
 |[],_,r=>by rw[Qxs]at r; cases r; exact⟨[],True.intro,.nil⟩
 |p::kvs,_,r=>by
  rw[Qqd]at r
  cases r with
  |@cons a b f bs h t=>
   obtain⟨d,c,q⟩:=qk0 t;obtain⟨b1,b2⟩:=b;exact⟨(p.1,b2)::d,⟨qkb h.1,rfl,c⟩,.cons ⟨rfl,h.2⟩ q⟩
abbrev tDisp(trs:Z (TE×TE)):TE:=λσ H Q=>∀p,H p=B->qy3 trs σ (upd H p (.dK [])) λps H2=>H2 p=Y (.dK [])/\∃kvs:Z (Key×V),ps=kvs.map (λkv=>(kV kv.1,kv.2))/\kvs.length<=15/\Q (.ref p) (upd H2 p (.dK (qkm [] kvs)))
def qnu(h:PPs X pos keys b d)(f:keys.all (·.isSome)=L)(hl:keys.length=b.length)(x:keys≠[])(j:keys.length<=15):PE X (.Dict keys b pos) (tDisp d):=by
 intro pins s σ H Q I q;have hn:=I.hok.fresh (Qqw s.heap.objs.size);have C:=I.laid (t':=s.toks) (λ_ _ q=>Qqx _ q) (Qqw _) (qbj s.heap I.big);refine wpAny_Dict_walk (knd:=mixKind X.prog X.w) f hl x j (thn (h pins _ σ _ _ C (q _ hn)) λD E ⟨ps,H2,k,i,e,kvs,y,lk,r⟩=>?_);subst y;obtain⟨m,c,n⟩:=qk0 i;obtain⟨z,hd,l,p,A⟩:=dk_of k.hok e;cases p;refine⟨m,c,A,λh' g hs=>⟨.ref s.heap.objs.size,_,?_,rfl,r⟩⟩;have t:(qkm [] kvs).length<=sizeLine:=by
  have h1:=qxx kvs [];rw[Qj1]at h1;rw[Q2]; omega
 have v:∃q,h'.get? s.heap.objs.size=Y q:=let ⟨q,_,_,u,_⟩:=g; ⟨q,u⟩;exact qyn k (by rw[e]; exact True.intro) hs v (dk_new t hd (n.merge .nil) g)
structure M1 (X:Cx) (o:Expr) (m:Y4) (apos:Pos) (e:Expr) (cpos:Pos):Prop where
 base:Zj o m X.env (Qa o X.env)=Qa o X.env
 few:((backTo cpos (starEach [e] X.env)).all (λx=>!x.1)&&(backToKw cpos (keywordEach [] X.env)).all (λx=>x.1.isSome)
  && decide (([e]:Z Expr).length+([]:Z Zs).length+(if ([]:Z Zs).isEmpty then 0 else 1)<30))=L
 line:(apos.endLine==cpos.line)=L
 trees:backTo cpos (starEach [e] X.env)=[(Y6,Qa e X.env)]
def IsD(H:Hp)(a:Y5):Prop:=(∃kvs,Rd H a (.dK kvs))\/∃kvs,Rd H a (.dT kvs)
def isD_at(I:Inv X c g H s)(d:IsD H a):
  s.TypeIs (.ref a) "dict"/\(∀b,Value.ref a=.ref b->∃ob,s.heap.get? b=Y ob/\ob.dict=B)/\(a==Qo)=false:=by
 rcases d with⟨kvs,e⟩|⟨kvs,e⟩
 ·obtain⟨_,hd,vs,_,f⟩:=qwh I.hok e;refine⟨f.typeIs,λb q=>?_,hd⟩;cases q;obtain⟨ob,_,_,h1,h2,_⟩:=f;exact⟨ob,h1,h2.2.1⟩
 ·obtain⟨_,hd,xs,_,f⟩:=qyi I.hok e;refine⟨f.typeIs,λb q=>?_,hd⟩;cases q;obtain⟨ob,_,_,h1,h2,_⟩:=f;exact⟨ob,h1,h2.2.1⟩
section
def d_get1(n:A.units+1<cLine)(I:Inv X pins σ H s)(g:DGet H a y o)(m:RelV y u)(h:∀j s',Inv X pins σ H s'->RelV (o.getD .non) j->Q j s'):
  wpAny ?v A (call (.builtin "dict.get") [.ref a,u]) Q E s:=by
 rcases g with⟨kvs,k,e,i,l⟩|⟨kvs,k,b,e,i,p,l⟩
 ·subst i;obtain⟨z,hd,vs,c,f⟩:=qwh I.hok e;refine call_meetsIn PySem.F.slot_dict_get f.typeIs PySem.F.entry_dict_get (PySem.F.args_dict_get_2 _ _) (meets_dict_get (mixKind X.prog X.w) a (qkb m) hd) ⟨_,f.mapOf,h _ _ (I.tok _) ?_⟩;rw[l];exact(c.val k).getD rfl
 ·subst i;cases (m);obtain⟨z,hd,xs,c,f⟩:=qyi I.hok e;refine call_meetsIn PySem.F.slot_dict_get f.typeIs PySem.F.entry_dict_get (PySem.F.args_dict_get_2 _ _) (meetsH_dict_get (tupleKind (mixKind X.prog X.w)) a b hd) ⟨Q8 n,k,xs,qqt I.hok p,f,h _ _ (I.tok _) ?_⟩;rw[l];exact(c.val k).getD rfl
end
abbrev tDGet1(td ty:TE):TE:=λσ H Q=>td σ H λx H1=>∃a,x=.ref a/\IsD H1 a/\ty σ H1 λy H2=>∃o,DGet H2 a y o/\Q (o.getD .non) H2
section
def qhp(r:X.A.units+1<cLine)(t:PE X o td)(v:PE X e ty)(m:M1 X o "get" apos e cpos):PE X (.Call (.Attribute o "get" apos) [e] [] cpos) (tDGet1 td ty):=by
 intro pins s σ H Q I h;refine wpAny_Call_method m.base m.few m.line PySem.F.plainAttrs_dict PySem.F.slot_dict_get PySem.F.type_dict_get (thn (t pins s σ H _ I h) λu k ⟨x,H1,c,n,a,ex,d,q⟩=>?_);subst ex;obtain rfl:u=Value.ref a:=n;obtain⟨j,i,_⟩:=isD_at c d;refine⟨j,i,?_⟩;rw[m.trees];refine Calls.callWith_builtin rfl (Calls.evalArgs_plain (Calls.spliced_cons (thn (v pins k σ H1 _ c q) λF D ⟨y,H2,z,l,E,g,p⟩=>Calls.spliced_nil ?_)));exact d_get1 r z g l λA C w b=>⟨_,H2,w,b,p⟩
end
section
end
section
end
end L2
end
section
namespace M
open PySem (Str Operator CmpOp)
inductive D where
 |non|bl (b:Yb)|int (i:J)|str (s:Y4)|tup (ds:Z D)|lst (ds:Z D)|loc (l:Y0)
 deriving Inhabited
inductive Ya where
 |lst (w:Yb) (ds:Z D)
 |dic (w:Yb) (kvs:Z (D×D))
 |obj (C:Y0) (fs:Z (Y4×D))
 deriving Inhabited
noncomputable abbrev Y1:=Z Ya
noncomputable abbrev Sl:=Z (Y2 D)
abbrev lim:Nat:=16777216
inductive Ty where
 |non|bl|int|str|tup|lst
 deriving DecidableEq
abbrev Ty.name:Ty->String
 |.non=>"NoneType"
 |.bl=>"bool"
 |.int=>"int"
 |.str=>"str"
 |.tup=>"tuple"
 |.lst=>"list"
inductive Bq where
 |len|min|tuple|list|all|sorted|any|max|dict
inductive Mt where
 |append|extend|index|insert|pop
inductive T where
 |var (i:Y0)
 |tup (is:Z Y0)
abbrev T.slots:T->Z Y0
 |.var i=>[i]
 |.tup is=>is
inductive E where
 |var (i:Y0)
 |lit (d:D)
 |glo (x:Y4) (d:D)
 |bin (op:Zl) (a b:E)
 |neg (a:E)
 |not (a:E)
 |cmp (op:CmpOp) (a b:E)
 |cmp2 (op op':CmpOp) (a b c:E)
 |and (a b:E)
 |or (a b:E)
 |ite (c a b:E)
 |tup (es:Z E)
 |lst (es:Z E)
 |idx (a b:E)
 |sli (a:E) (lo hi:Y2 E)
 |call (f:Y0) (es:Z E)
 |bcall (f:Bq) (es:Z E)
 |isi (a:E) (ts:Z Ty) (many:Yb)
 |meth (a:E) (m:Mt) (es:Z E)
 |gc (a:E)
 |rng1 (a:E)
 |rng2 (a b:E)
 |zip (a b:E)
 |enu (a:E)
 |rev (a:E)
 |dic (es:Z E)
 |didx (a b:E)
 |din (neg:Yb) (a b:E)
 |dgt (a b:E)
 |gidx (x:Y4) (ks:Z Y4) (ds:Z D) (b:E)
 |gin (neg:Yb) (x:Y4) (ks:Z Y4) (b:E)
 |lenset (a:E)
 |comp (t:T) (it:E) (test:Y2 E) (elt:E) (src:Z (Y2 Y0))
 |attr (C:Y0) (a:E) (f:Y4)
 |mcall (C f:Y0) (m:Y4) (a:E) (es:Z E)
 |new (C f:Y0) (es:Z E)
inductive S where
 |set (t:T) (e:E)
 |dset (a i e:E)
 |setA (C:Y0) (a:E) (f:Y4) (e:E)
 |ford (t:T) (a:E) (body:Z S)
 |bad
 |brk
 |expr (e:E)
 |ret (e:E)
 |ite (c:E) (a b:Z S)
 |forr (t:T) (it:E) (body:Z S)
structure Fn where
 np:Y0
 nl:Y0
 body:Z S
 iso:Yb
mutual
noncomputable def eqT:D->D->Yb
 |.non,.non=>L
 |.bl a,.bl b=>a==b
 |.bl a,.int j=>(if a then 1 else 0)==j
 |.int i,.bl b=>i==(if b then 1 else 0)
 |.int i,.int j=>i==j
 |.str a,.str b=>a==b
 |.tup a,.tup b=>eqTs a b
 |_,_=>Y6
noncomputable def eqTs:Z D->Z D->Yb
 |[],[]=>L
 |a::as,b::bs=>eqT a b&&eqTs as bs
 |_,_=>Y6
end
abbrev isI:D->Yb
 |.int _=>L
 |_=>Y6
abbrev flat(_:Y0):D->Yb
 |.int _=>L
 |.str _=>L
 |.tup ds=>ds.all isI
 |_=>Y6
noncomputable abbrev flats(n:Y0)(ds:Z D):Bool:=ds.all (flat n)
abbrev mulOk(i j:J):Bool:=(decide (-(2 ^ 64)<i)&&decide (i<2 ^ 64))||(decide (-(2 ^ 64)<j)&&decide (j<2 ^ 64))
abbrev listAt(st:Y1)(l:Y0):Y2 (Z D):=match st[l]? with|some (.lst _ ds)=>Y ds|_=>B
abbrev wlistAt(st:Y1)(l:Y0):Y2 (Z D):=match st[l]? with|some (.lst L ds)=>Y ds|_=>B
abbrev seqAt(st:Y1):D->Y2 (Z D)
 |.loc l=>listAt st l
 |.lst ds=>Y ds
 |_=>B
mutual
/-- no place of the store within -/
noncomputable def noLoc:D->Yb
 |.loc _=>Y6
 |.tup ds=>noLocs ds
 |.lst ds=>noLocs ds
 |_=>L
noncomputable def noLocs:Z D->Yb
 |[]=>L
 |d::ds=>noLoc d&&noLocs ds
end
mutual
/-- every place of the store within is one of the first n -/
noncomputable def lt(n:Y0):D->Yb
 |.loc l=>Nat.blt l n
 |.tup ds=>lts n ds
 |.lst ds=>lts n ds
 |_=>L
noncomputable def lts(n:Y0):Z D->Yb
 |[]=>L
 |d::ds=>lt n d&&lts n ds
end
abbrev ltC(n:Y0):Ya->Yb
 |.lst _ ds=>lts n ds
 |.dic _ kvs=>kvs.all λp=>lt n p.2
 |.obj _ fs=>fs.all λp=>lt n p.2
abbrev gcX(n:Y0)(p:D×Y1):D×Y1:=
 if noLoc p.1 then(p.1,p.2.take n) else match p.1 with
  |.loc l=>if n<=l then(match p.2[l]? with
   |some (.lst L ds)=>if noLocs ds then(.lst ds,p.2.take n) else p
   |_=>p) else p
  |_=>p
open Classical in
abbrev gcD(st:Y1)(p:D×Y1):D×Y1:=
 if (p.2.take st.length).all (ltC st.length)=L then gcX st.length p else if p.2.take st.length=st then gcX st.length p else p
abbrev dicAt(st:Y1)(l:Y0):Y2 (Z (D×D)):=match st[l]? with|some (.dic _ kvs)=>Y kvs|_=>B
abbrev wdicAt(st:Y1)(l:Y0):Y2 (Z (D×D)):=match st[l]? with|some (.dic L kvs)=>Y kvs|_=>B
abbrev objAt(st:Y1)(C:Y0):D->Y2 (Z (Y4×D))
 |.loc l=>match st[l]? with|some (.obj C' fs)=>if C'=C then Y fs else B|_=>B
 |_=>B
abbrev putA(f:Y4)(v:D):Z (Y4×D)->Z (Y4×D)
 |[]=>[(f,v)]
 |(g,x)::r=>if g=f then(g,v)::r else(g,x)::putA f v r
abbrev keysOf(kvs:Z (D×D)):Z D:=kvs.map (·.1)
abbrev dkeys(st:Y1):D->Y2 (Z D)
 |.loc l=>(dicAt st l).map keysOf
 |_=>B
abbrev isKey:D->Yb
 |.int _=>L
 |.str _=>L
 |_=>Y6
abbrev dget(kvs:Z (D×D))(k:D):Y2 D:=(kvs.find? λp=>eqT p.1 k).map (·.2)
abbrev dput(kvs:Z (D×D))(k v:D):Z (D×D):=if kvs.any λp=>eqT p.1 k then kvs.map (λp=>if eqT p.1 k then(p.1,v) else p) else kvs++[(k,v)]
abbrev pairUp:Z D->Y2 (Z (D×D))
 |[]=>Y []
 |k::v::r=>if isKey k then(pairUp r).map ((k,v)::·) else B
 |_=>B
abbrev dall(kvs:Z (D×D)):Z (D×D):=kvs.foldl (λacc p=>dput acc p.1 p.2) []
abbrev alloc(st:Y1)(c:Ya):D×Y1:=(.loc st.length,st++[c])
abbrev binop(st:Y1):Zl->D->D->Y2 (D×Y1)
 |.Add,.int i,.int j=>Y (.int (i+j),st)
 |.Add,.tup a,.tup b=>if a.isEmpty||decide (lim<a.length+b.length) then B else Y (.tup (a++b),st)
 |.Add,a,b=>(seqAt st a).bind λx=>(seqAt st b).bind λy=>if lim<x.length+y.length then B else Y (alloc st (.lst L (x++y)))
 |.Sub,.int i,.int j=>Y (.int (i - j),st)
 |.Mult,.int i,.int j=>if mulOk i j then Y (.int (i*j),st) else B
 |.Mult,.tup a,.int k=>if decide (k < -(2 ^ 62))||decide (2 ^ 62<=k)||decide (lim<a.length*k.toNat) then B else Y (.tup (List.replicate k.toNat a).flatten,st)
 |.FloorDiv,.int i,.int j=>if 0<j/\j<2 ^ 64 then Y (.int (i / j),st) else B
 |.Mod,.int i,.int j=>if 0<j then Y (.int (i % j),st) else B
 |.Pow,.int i,.int j=>if 0<=j/\j<=1000/\i.natAbs<2 ^ 64 then Y (.int (i ^ j.toNat),st) else B
 |_,_,_=>B
abbrev keyD:D->Y2 (Z J)
 |.tup ds=>ds.mapM λd=>match d with|.int i=>Y i|_=>B
 |_=>B
abbrev qvv:D->Y2 D
 |.tup ds=>(ds.mapM keyD).bind λks=>if ds.length<=16/\ks.Nodup then Y (.int ks.length) else B
 |_=>B
abbrev ixN(n:Y0)(i:J):Y2 Nat:=if 0<=i then(if i<n then Y i.toNat else B) else if -(n:J)<=i then Y (i+n).toNat else B
abbrev atI{α:Type}(xs:Z α)(i:J):Y2 α:=(ixN xs.length i).bind λj=>xs[j]?
abbrev idxD(st:Y1):D->D->Y2 D
 |.tup ds,.int i=>atI ds i
 |d,.int i=>(seqAt st d).bind λds=>atI ds i
 |_,_=>B
abbrev cutIx(n d:Y0):Y2 J->Y0
 |none=>d
 |some v=>if v<0 then(v+(n:J)).toNat else min v.toNat n
abbrev cut{α:Type}(xs:Z α)(lo hi:Y2 J):Z α:=(xs.drop (cutIx xs.length 0 lo)).take (cutIx xs.length xs.length hi - cutIx xs.length 0 lo)
abbrev sliD(st:Y1):D->Y2 J->Y2 J->Y2 (D×Y1)
 |.tup ds,lo,hi=>Y (.tup (cut ds lo hi),st)
 |d,lo,hi=>(seqAt st d).map λds=>alloc st (.lst L (cut ds lo hi))
abbrev inD(st:Y1)(x:D):D->Y2 Yb
 |.tup ds=>if flat 9 x&&flats 9 ds then Y (ds.any λy=>eqT y x) else B
 |d=>(seqAt st d).bind λds=>if flat 9 x&&flats 9 ds then Y (ds.any λy=>eqT y x) else B
abbrev isNon:D->Yb
 |.non=>L
 |_=>Y6
abbrev eqD(_:Y1)(x y:D):Y2 Bool:=match x,y with
 |.bl a,.bl b=>Y (a==b)
 |.non,.non=>Y L
 |x,y=>if flat 9 x&&(flat 9 y||isNon y) then Y (eqT x y) else B
abbrev neD(_:Y1):D->D->Y2 Yb
 |.int i,.int j=>Y (!(i==j))
 |.str i,.str j=>Y (!(i==j))
 |_,_=>B
abbrev cmpD(st:Y1):CmpOp->D->D->Y2 Yb
 |.Lt,.int i,.int j=>Y (decide (i<j))
 |.LtE,.int i,.int j=>Y (decide (i<=j))
 |.Gt,.int i,.int j=>Y (decide (j<i))
 |.GtE,.int i,.int j=>Y (decide (j<=i))
 |.Eq,x,y=>eqD st x y
 |.NotEq,x,y=>neD st x y
 |.Is,x,.non=>Y (isNon x)
 |.IsNot,x,.non=>Y (!isNon x)
 |.In,x,y=>inD st x y
 |.NotIn,x,y=>(inD st x y).map (!·)
 |_,_,_=>B
abbrev tyName(st:Y1):D->Y2 Ty
 |.non=>Y .non
 |.bl _=>Y .bl
 |.int _=>Y .int
 |.str _=>Y .str
 |.tup _=>Y .tup
 |d=>(seqAt st d).map λ_=>.lst
abbrev tyIs(t n:Ty):Bool:=t==n||(t==.int&&n==.bl)
abbrev truth(st:Y1):D->Y2 Yb
 |.non=>Y Y6
 |.bl b=>Y b
 |.int i=>Y (i != 0)
 |.tup ds=>Y (!ds.isEmpty)
 |d=>(seqAt st d).map λds=>!ds.isEmpty
abbrev insInt(x:J):Z J->Z J
 |[]=>[x]
 |y::r=>if x<=y then x::y::r else y::insInt x r
abbrev sortInt:Z J->Z J
 |[]=>[]
 |x::r=>insInt x (sortInt r)
abbrev asInts:Z D->Y2 (Z J)
 |[]=>Y []
 |.int i::r=>(asInts r).map (i::·)
 |_=>B
abbrev asBools:Z D->Y2 (Z Yb)
 |[]=>Y []
 |.bl i::r=>(asBools r).map (i::·)
 |_=>B
abbrev bLen(st:Y1):Z D->Y2 (D×Y1)
 |[.tup ds]=>Y (.int ds.length,st)
 |[d]=>(seqAt st d).map λds=>(.int ds.length,st)
 |_=>B
abbrev bMin(st:Y1):Z D->Y2 (D×Y1)
 |[.int i,.int j]=>Y (.int (if j<i then j else i),st)
 |_=>B
abbrev bMax(st:Y1):Z D->Y2 (D×Y1)
 |[.int i,.int j]=>Y (.int (if j > i then j else i),st)
 |_=>B
abbrev pairsI:Z D->Y2 (Z (J×D))
 |[]=>Y []
 |.tup [.int i,v]::r=>(pairsI r).map ((i,v)::·)
 |_=>B
abbrev bDict(st:Y1):Z D->Y2 (D×Y1)
 |[d]=>(seqAt st d).bind λds=>(pairsI ds).bind λkvs=>if (kvs.map (·.1)).Nodup/\kvs.length<=lim then Y (alloc st (.dic L (kvs.map λp=>(.int p.1,p.2)))) else B
 |_=>B
abbrev bTuple(st:Y1):Z D->Y2 (D×Y1)
 |[.tup ds]=>Y (.tup ds,st)
 |[d]=>(seqAt st d).map λds=>(.tup ds,st)
 |_=>B
abbrev bList(st:Y1):Z D->Y2 (D×Y1)
 |[.tup ds]=>Y (alloc st (.lst L ds))
 |[d]=>((seqAt st d).or (dkeys st d)).map λds=>alloc st (.lst L ds)
 |_=>B
abbrev bAll(st:Y1):Z D->Y2 (D×Y1)
 |[d]=>(seqAt st d).bind λds=>(asBools ds).map λbs=>(.bl (bs.all id),st)
 |_=>B
abbrev bAny(st:Y1):Z D->Y2 (D×Y1)
 |[d]=>(seqAt st d).bind λds=>(asBools ds).map λbs=>(.bl (bs.any id),st)
 |_=>B
abbrev bSorted(st:Y1):Z D->Y2 (D×Y1)
 |[d]=>((seqAt st d).or (dkeys st d)).bind λds=>(if 64<=ds.length then B else asInts ds).map λns=>alloc st (.lst L ((sortInt ns).map .int))
 |_=>B
abbrev bfun(st:Y1):Bq->Z D->Y2 (D×Y1)
 |.len=>bLen st
 |.min=>bMin st
 |.tuple=>bTuple st
 |.list=>bList st
 |.all=>bAll st
 |.sorted=>bSorted st
 |.any=>bAny st
 |.max=>bMax st
 |.dict=>bDict st
abbrev mAppend(st:Y1):D->Z D->Y2 (D×Y1)
 |.loc l,[d]=>(wlistAt st l).bind λds=>if ds.length<lim then Y (.non,st.set l (.lst L (ds++[d]))) else B
 |_,_=>B
abbrev mExtend(st:Y1):D->Z D->Y2 (D×Y1)
 |.loc l,[d]=>(wlistAt st l).bind λds=>(match d with|.tup es=>Y es|d=>seqAt st d).bind λes=>if ds.length+es.length<=lim then Y (.non,st.set l (.lst L (ds++es))) else B
 |_,_=>B
abbrev mIndex(st:Y1):D->Z D->Y2 (D×Y1)
 |d,[x]=>(seqAt st d).bind λds=>if flat 9 x&&flats 9 ds then(ds.findIdx? λy=>eqT y x).map λ(j:Y0)=>(.int (j:J),st) else B
 |_,_=>B
abbrev mInsert(st:Y1):D->Z D->Y2 (D×Y1)
 |.loc l,[.int i,d]=>(wlistAt st l).bind λds=>if 0<=i/\i<=ds.length/\ds.length<lim then Y (.non,st.set l (.lst L (ds.take i.toNat++d::ds.drop i.toNat))) else B
 |_,_=>B
abbrev mPop(st:Y1):D->Z D->Y2 (D×Y1)
 |.loc l,[.int i]=>(wlistAt st l).bind λds=>if 0<=i/\i<ds.length/\ds.length<lim then(ds[i.toNat]?).map λd=>(d,st.set l (.lst L (ds.eraseIdx i.toNat))) else B
 |_,_=>B
abbrev mfun(st:Y1):Mt->D->Z D->Y2 (D×Y1)
 |.append=>mAppend st
 |.extend=>mExtend st
 |.index=>mIndex st
 |.insert=>mInsert st
 |.pop=>mPop st
abbrev Mt.ofList(_:Mt):Bool:=L
abbrev mty(st:Y1)(m:Mt):D->Yb
 |.str _=>!m.ofList
 |d=>m.ofList&&(seqAt st d).isSome
inductive Out where
 |nx (τ:Sl)
 |rt (d:D)
 |bk (τ:Sl)
structure R where
 ev:Sl->Y1->E->Y2 (D×Y1)
 tst:Sl->Y1->E->Y2 (Yb×Y1)
 ex:Sl->Y1->Z S->Y2 (Out×Y1)
 call:Y0->Z D->Y1->Y2 (D×Y1)
abbrev evs(f:Y1->E->Y2 (D×Y1)):Z E->Y1->Y2 (Z D×Y1)
 |[],st=>Y ([],st)
 |e::es,st=>(f st e).bind λp=>(evs f es p.2).bind λq=>Y (p.1::q.1,q.2)
abbrev setIs:Z Y0->Z D->Sl->Y2 Sl
 |[],[],τ=>Y τ
 |i::is,d::ds,τ=>if i<τ.length then setIs is ds (τ.set i (Y d)) else B
 |_,_,_=>B
abbrev setT:T->D->Sl->Y2 Sl
 |.var i,d,τ=>if i<τ.length then Y (τ.set i (Y d)) else B
 |.tup is,.tup ds,τ=>setIs is ds τ
 |_,_,_=>B
inductive Src where
 |tup (ds:Z D)
 |lst (d:D)
 |rng (lo:J) (n:Y0)
 |zip (a b:D)
 |enu (a:D)
 |rev (ds:Z D)
abbrev rowAt(st:Y1):D->Y2 (Z D)
 |.tup ds=>Y ds
 |d=>seqAt st d
abbrev pairAt(xs ys:Z D)(i:Y0):Y2 D:=match xs[i]?,ys[i]? with
 |some x,Y y=>Y (.tup [x,y])
 |_,_=>B
abbrev Src.at(st:Y1)(i:Y0):Src->Y2 (Y2 D)
 |.tup ds=>Y ds[i]?
 |.lst d=>(seqAt st d).map λds=>ds[i]?
 |.rng lo n=>Y (if i<n then Y (.int (lo+i)) else B)
 |.zip a b=>(rowAt st a).bind λxs=>(rowAt st b).map λys=>pairAt xs ys i
 |.enu a=>(rowAt st a).map λxs=>xs[i]?.map λx=>.tup [.int i,x]
 |.rev ds=>Y (if i<ds.length then ds[ds.length - 1 - i]? else B)
abbrev Src.size(st:Y1):Src->Y0
 |.tup ds=>ds.length
 |.lst d=>((seqAt st d).getD []).length
 |.rng _ n=>n
 |.zip a b=>min ((rowAt st a).getD []).length ((rowAt st b).getD []).length
 |.enu a=>((rowAt st a).getD []).length
 |.rev ds=>ds.length
abbrev big(i:J):Bool:=decide (i < -(2 ^ 62))||decide (2 ^ 62<=i)
abbrev src(r:R)(τ:Sl)(st:Y1):E->Y2 (Src×Y1)
 |.rng1 a=>(?B).bind λp=>match p.1 with
  |.int n=>if big n then B else Y (.rng 0 n.toNat,p.2)
  |_=>B
 |.rng2 a b=>(?B).bind λp=>(?W).bind λq=>match p.1,q.1 with
  |.int i,.int j=>if big i||big j then B else Y (.rng i (j - i).toNat,q.2)
  |_,_=>B
 |.zip a b=>(?B).bind λp=>(?W).bind λq=>(rowAt q.2 p.1).bind λ_=>(rowAt q.2 q.1).map λ_=>(.zip p.1 q.1,q.2)
 |.enu a=>(?B).bind λp=>(rowAt p.2 p.1).map λ_=>(.enu p.1,p.2)
 |.rev a=>(?B).bind λp=>match p.1 with
  |.tup ds=>Y (.rev ds,p.2)
  |_=>B
 |e=>(?qe).bind λp=>match p.1 with
  |.tup ds=>Y (.tup ds,p.2)
  |d=>(seqAt p.2 d).map λ_=>(.lst d,p.2)
abbrev loop(it:Src)(f:Sl->Y1->D->Y2 (Out×Y1)):Y0->Y0->Sl->Y1->Y2 (Out×Y1)
 |0,_,_,_=>B
 |k+1,i,τ,st=>(it.at st i).bind λo=>match o with
  |none=>Y (.nx τ,st)
  |some d=>(f τ st d).bind λp=>match p.1 with
   |.nx τ'=>loop it f k (i+1) τ' p.2
   |.bk τ'=>Y (.nx τ',p.2)
   |.rt v=>Y (.rt v,p.2)
abbrev turnC(r:R)(t:T)(test:Y2 E)(elt:E)(τ:Sl)(st:Y1)(d:D):Y2 (Y2 D×Sl×Y1):=
 (setT t d τ).bind λτ'=>match test with
  |none=>(r.ev τ' st elt).map λp=>(Y p.1,τ',p.2)
  |some c=>(r.tst τ' st c).bind λb=>if b.1 then(r.ev τ' b.2 elt).map λp=>(Y p.1,τ',p.2) else Y (B,τ',b.2)
abbrev loopC(it:Src)(f:Sl->Y1->D->Y2 (Y2 D×Sl×Y1)):Y0->Y0->Z D->Sl->Y1->Y2 (Z D×Y1)
 |0,_,_,_,_=>B
 |k+1,i,acc,τ,st=>(it.at st i).bind λo=>match o with
  |none=>if lim<acc.length then B else Y (acc,st)
  |some d=>if lim<=acc.length then B else(f τ st d).bind λp=>loopC it f k (i+1) (match p.1 with|some x=>acc++[x]|none=>acc) p.2.1 p.2.2
abbrev inner(src:Z (Y2 Y0))(τ:Sl):Sl:=src.map λo=>o.bind λi=>(τ[i]?).bind id
abbrev part(r:R)(τ:Sl)(st:Y1):Y2 E->Y2 (Y2 J×Y1)
 |none=>Y (B,st)
 |some e=>(?qe).bind λp=>match p.1 with
  |.int i=>Y (Y i,p.2)
  |_=>B
abbrev dinR(r:R)(τ:Sl)(st:Y1)(neg:Yb)(a b:E):Y2 (D×Y1):=
 (?B).bind λp=>(?W).bind λq=>match q.1 with
  |.loc l=>(dicAt q.2 l).bind λkvs=>if isKey p.1 then Y (.bl ((dget kvs p.1).isSome != neg),q.2) else B
  |_=>B
abbrev ginR(r:R)(τ:Sl)(st:Y1)(neg:Yb)(ks:Z Y4)(b:E):Y2 (D×Y1):=
 (r.ev τ st b).bind λp=>match p.1 with
  |.str z=>Y (.bl (ks.contains z != neg),p.2)
  |_=>B
abbrev stepEv(r:R)(τ:Sl)(st:Y1):E->Y2 (D×Y1)
 |.var i=>match τ[i]? with
  |some (Y d)=>Y (d,st)
  |_=>B
 |.lit d=>Y (d,st)
 |.glo _ d=>Y (d,st)
 |.bin op a b=>(?B).bind λp=>(?W).bind λq=>binop q.2 op p.1 q.1
 |.neg a=>(?B).bind λp=>match p.1 with
  |.int i=>Y (.int (-i),p.2)
  |_=>B
 |.not a=>(?B).bind λp=>match p.1 with
  |.bl b=>Y (.bl (!b),p.2)
  |_=>B
 |.cmp op a b=>(?B).bind λp=>(?W).bind λq=>(cmpD q.2 op p.1 q.1).map λk=>(.bl k,q.2)
 |.cmp2 op op' a b c=>(?B).bind λp=>(?W).bind λq=>(cmpD q.2 op p.1 q.1).bind λk=>
   if k then(r.ev τ q.2 c).bind λu=>(cmpD u.2 op' q.1 u.1).map λk'=>(.bl k',u.2) else Y (.bl Y6,q.2)
 |.and a b=>(?B).bind λp=>match p.1 with
  |.bl L=>r.ev τ p.2 b
  |.bl Y6=>Y (.bl Y6,p.2)
  |_=>B
 |.or a b=>(?B).bind λp=>match p.1 with
  |.bl Y6=>r.ev τ p.2 b
  |.bl L=>Y (.bl L,p.2)
  |_=>B
 |.ite c a b=>(r.tst τ st c).bind λp=>if p.1 then r.ev τ p.2 a else r.ev τ p.2 b
 |.tup es=>(evs (r.ev τ) es st).bind λp=>if lim<p.1.length then B else Y (.tup p.1,p.2)
 |.lst es=>(evs (r.ev τ) es st).bind λp=>if lim<p.1.length then B else Y (alloc p.2 (.lst L p.1))
 |.idx a b=>(?B).bind λp=>(?W).bind λq=>(idxD q.2 p.1 q.1).map λd=>(d,q.2)
 |.sli a lo hi=>(?B).bind λp=>(part r τ p.2 lo).bind λl=>(part r τ l.2 hi).bind λh=>sliD h.2 p.1 l.1 h.1
 |.call f es=>(evs (r.ev τ) es st).bind λp=>r.call f p.1 p.2
 |.bcall f es=>(evs (r.ev τ) es st).bind λp=>bfun p.2 f p.1
 |.isi a ts _=>(?B).bind λp=>(tyName p.2 p.1).map λn=>(.bl (ts.any λt=>tyIs t n),p.2)
 |.meth a m es=>(?B).bind λp=>if mty p.2 m p.1 then(evs (r.ev τ) es p.2).bind λq=>mfun q.2 m p.1 q.1 else B
 |.gc a=>(?B).map λp=>gcD st p
 |.rng1 _=>B
 |.rng2 _ _=>B
 |.zip _ _=>B
 |.enu _=>B
 |.rev _=>B
 |.dic es=>(evs (r.ev τ) es (st++[.dic L []])).bind λp=>match wdicAt p.2 st.length with
  |some []=>(pairUp p.1).bind λkvs=>if kvs.length<=15 then Y (.loc st.length,p.2.set st.length (.dic L (dall kvs))) else B
  |_=>B
 |.didx a b=>(?B).bind λp=>(?W).bind λq=>match p.1 with
  |.loc l=>(dicAt q.2 l).bind λkvs=>if isKey q.1 then(dget kvs q.1).map λd=>(d,q.2) else B
  |_=>B
 |.din neg a b=>dinR r τ st neg a b
 |.dgt a b=>(?B).bind λp=>match p.1 with
  |.loc l=>(dicAt p.2 l).bind λ_=>(?W).bind λq=>(dicAt q.2 l).bind λkvs=>if isKey q.1 then Y ((dget kvs q.1).getD .non,q.2) else B
  |_=>B
 |.gidx _ ks ds b=>(r.ev τ st b).bind λp=>match p.1 with
  |.str z=>((ks.zip ds).find? λq=>q.1==z).map λq=>(q.2,p.2)
  |_=>B
 |.gin neg _ ks b=>ginR r τ st neg ks b
 |.lenset a=>(?B).bind λp=>(qvv p.1).map λd=>(d,p.2)
 |.comp t it test elt sr=>(src r τ st it).bind λp=>
   (loopC p.1 (turnC r t test elt) (p.1.size p.2+1) 0 [] (inner sr τ) p.2).map λq=>alloc q.2 (.lst L q.1)
 |.attr C a f=>(?B).bind λp=>(objAt p.2 C p.1).bind λfs=>(fs.lookup f).map λd=>(d,p.2)
 |.mcall C f m a es=>(?B).bind λp=>(objAt p.2 C p.1).bind λfs=>if (fs.lookup m).isSome then B else(evs (r.ev τ) es p.2).bind λq=>r.call f (p.1::q.1) q.2
 |.new C f es=>(evs (r.ev τ) es st).bind λp=>(r.call f (.loc p.2.length::p.1) (p.2++[.obj C []])).bind λq=>if isNon q.1 then Y (.loc p.2.length,q.2) else B
abbrev stepTst(r:R)(τ:Sl)(st:Y1):E->Y2 (Yb×Y1)
 |.not a=>(r.tst τ st a).map λp=>(!p.1,p.2)
 |.and a b=>(r.tst τ st a).bind λp=>if p.1 then r.tst τ p.2 b else Y (Y6,p.2)
 |.or a b=>(r.tst τ st a).bind λp=>if p.1 then Y (L,p.2) else r.tst τ p.2 b
 |.ite _ _ _=>B
 |.din neg a b=>(dinR r τ st neg a b).bind λp=>(truth p.2 p.1).map λk=>(k,p.2)
 |.gin neg _ ks b=>(ginR r τ st neg ks b).bind λp=>(truth p.2 p.1).map λk=>(k,p.2)
 |.cmp op a b=>(?B).bind λp=>(?W).bind λq=>(cmpD q.2 op p.1 q.1).map λk=>(k,q.2)
 |.cmp2 op op' a b c=>(?B).bind λp=>(?W).bind λq=>(cmpD q.2 op p.1 q.1).bind λk=>
   if k then(r.ev τ q.2 c).bind λu=>(cmpD u.2 op' q.1 u.1).map λk'=>(k',u.2) else Y (Y6,q.2)
 |e=>(?qe).bind λp=>(truth p.2 p.1).map λk=>(k,p.2)
abbrev stepEx(r:R)(τ:Sl)(st:Y1):S->Y2 (Out×Y1)
 |.set t e=>(?qe).bind λp=>(setT t p.1 τ).map λτ'=>(.nx τ',p.2)
 |.dset a i e=>(?qe).bind λp=>(r.ev τ p.2 a).bind λq=>(r.ev τ q.2 i).bind λu=>match q.1 with
  |.loc l=>(wdicAt u.2 l).bind λkvs=>if isKey u.1&&decide (kvs.length<lim) then Y (.nx τ,u.2.set l (.dic L (dput kvs u.1 p.1))) else B
  |_=>B
 |.setA C a f e=>(?qe).bind λp=>(r.ev τ p.2 a).bind λq=>(objAt q.2 C q.1).bind λfs=>match q.1 with
  |.loc l=>if fs.length<900 then Y (.nx τ,q.2.set l (.obj C (putA f p.1 fs))) else B
  |_=>B
 |.ford t a body=>(?B).bind λp=>match p.1 with
  |.loc l=>(wdicAt p.2 l).bind λkvs=>(loop (.tup (keysOf kvs)) (λτ st d=>(setT t d τ).bind λτ'=>r.ex τ' st body) (kvs.length+1) 0 τ (p.2.set l (.dic Y6 kvs))).bind λq=>
   match q.2[l]? with
   |some (.dic Y6 kvs')=>Y (q.1,q.2.set l (.dic L kvs'))
   |_=>B
  |_=>B
 |.bad=>B
 |.brk=>Y (.bk τ,st)
 |.expr e=>(?qe).map λp=>(.nx τ,p.2)
 |.ret e=>(?qe).map λp=>(.rt p.1,p.2)
 |.ite c a b=>(r.tst τ st c).bind λp=>if p.1 then r.ex τ p.2 a else r.ex τ p.2 b
 |.forr t it body=>(src r τ st it).bind λp=>
   loop p.1 (λτ st d=>(setT t d τ).bind λτ'=>r.ex τ' st body) (p.1.size p.2+1) 0 τ p.2
abbrev exs(f:Sl->Y1->S->Y2 (Out×Y1)):Z S->Sl->Y1->Y2 (Out×Y1)
 |[],τ,st=>Y (.nx τ,st)
 |s::ss,τ,st=>(f τ st s).bind λp=>match p.1 with
  |.nx τ'=>exs f ss τ' p.2
  |o=>Y (o,p.2)
mutual
noncomputable def mp(f:Y0->Y0):D->D
 |.loc l=>.loc (f l)
 |.tup ds=>.tup (mps f ds)
 |.lst ds=>.lst (mps f ds)
 |.non=>.non
 |.bl b=>.bl b
 |.int i=>.int i
 |.str s=>.str s
noncomputable def mps(f:Y0->Y0):Z D->Z D
 |[]=>[]
 |d::r=>mp f d::mps f r
end
abbrev mpC(f:Y0->Y0):Ya->Ya
 |.lst w ds=>.lst w (mps f ds)
 |.dic w kvs=>.dic w (kvs.map λp=>(p.1,mp f p.2))
 |.obj C fs=>.obj C (fs.map λp=>(p.1,mp f p.2))
noncomputable abbrev up(N:Y0)(st:Y1):Y1:=st.map (mpC (· + N))
abbrev callB(F:Fn)(r:R)(ds:Z D)(st:Y1):Y2 (D×Y1):=
 if ds.length=F.np then(r.ex (ds.map Y++List.replicate (F.nl - ds.length) B) st F.body).bind λp=>match p.1 with
   |.rt d=>Y (d,p.2)
   |.nx _=>Y (.non,p.2)
   |_=>B
  else B
def isoOk(N:Y0)(ds es:Z D)(st S:Y1):Prop:=mps (· + N) es=ds/\up N S=st.drop N/\N<=st.length
open Classical in
abbrev isoR(g:Z D->Y1->Y2 (D×Y1))(ds:Z D)(st:Y1):Y2 (D×Y1):=match ds with
 |.loc 0::_=>g ds st
 |.loc (N+1)::_=>if isoOk (N+1) ds (mps (· - (N+1)) ds) st ((st.drop (N+1)).map (mpC (· - (N+1)))) then
   (g (mps (· - (N+1)) ds) ((st.drop (N+1)).map (mpC (· - (N+1))))).map λp=>(mp (· + (N+1)) p.1,st.take (N+1)++up (N+1) p.2) else B
 |_=>B
abbrev stepCall(fns:Z Fn)(r:R)(f:Y0)(ds:Z D)(st:Y1):Y2 (D×Y1):=
 match fns[f]? with
 |some F=>if F.iso then isoR (callB F r) ds st else callB F r ds st
 |none=>B
abbrev at0:Z D->Yb
 |.loc 0::_=>L
 |_=>Y6
def at0_of(h:at0 ds=L):∃r,ds=.loc 0::r:=by
 cases ds with
 |nil=>cases h
 |cons d r=>
  cases d with
  |loc l=>
   cases l with
   |zero=>exact⟨r,rfl⟩
   |succ l=>cases h
  |_=>cases h
def qw5(hf:fns[f]?=Y F)(a:(!F.iso||at0 ds)=L):stepCall fns r f ds st=callB F r ds st:=by
 unfold stepCall;rw[hf];dsimp only
 cases b:F.iso with
 |false=>exact Z8 nofun
 |true=>
  rw[b]at a;obtain⟨s,rfl⟩:=at0_of a
  rfl
mutual
theorem qod(f g:Y0->Y0):∀d:D,mp f (mp g d)=mp (λl=>f (g l)) d
 |.loc l=>rfl
 |.tup ds=>congrArg D.tup (qjr f g ds)
 |.lst ds=>congrArg D.lst (qjr f g ds)
 |.non=>rfl
 |.bl _=>rfl
 |.int _=>rfl
 |.str _=>rfl
theorem qjr(f g:Y0->Y0):∀ds:Z D,mps f (mps g ds)=mps (λl=>f (g l)) ds
 |[]=>rfl
 |d::r=>by rw[mps,mps,mps,qod f g d,qjr f g r]
end
mutual
theorem qh2(h:∀l,f l=l):∀d:D,mp f d=d
 |.loc l=>congrArg D.loc (h l)
 |.tup ds=>congrArg D.tup (qkl h ds)
 |.lst ds=>congrArg D.lst (qkl h ds)
 |.non=>rfl
 |.bl _=>rfl
 |.int _=>rfl
 |.str _=>rfl
theorem qkl(h:∀l,f l=l):∀ds:Z D,mps f ds=ds
 |[]=>rfl
 |d::r=>by rw[mps,qh2 h d,qkl h r]
end
def qoe(f g:Y0->Y0)(c):mpC f (mpC g c)=mpC (λl=>f (g l)) c:=by
 cases c with
 |lst w ds=>exact congrArg (Ya.lst w) (qjr f g ds)
 |dic w kvs=>exact congrArg (Ya.dic w) (by rw[Qqp]; exact congrArg (λg=>kvs.map g) (funext λp=>by show(_,_)=_; rw[qod]))
 |obj C fs=>exact congrArg (Ya.obj C) (by rw[Qqp]; exact congrArg (λg=>fs.map g) (funext λp=>by show(_,_)=_; rw[qod]))
def qlf(h:∀l,f l=l)(c):mpC f c=c:=by
 cases c with
 |lst w ds=>exact congrArg (Ya.lst w) (qkl h ds)
 |dic w kvs=>exact congrArg (Ya.dic w) ((congrArg (λg=>kvs.map g) (funext λp=>by show(_,_)=p; rw[qh2 h])).trans (Qxp kvs))
 |obj C fs=>exact congrArg (Ya.obj C) ((congrArg (λg=>fs.map g) (funext λp=>by show(_,_)=p; rw[qh2 h])).trans (Qxp fs))
def up_dn(N)(S):(up N S).map (mpC (· - N))=S:=by
 rw[Qqp];refine Eq.trans (congrArg (λg=>S.map g) (funext λc=>?_)) (Qxp S);show mpC _ (mpC _ c)=c;rw[qoe];exact qlf (λl=>Qj8 l N) c
def qo1{S:Y1}(b:pre.length=N)(h:g (.loc 0::es) S=Y (d,S')):
  isoR g (mps (· + N) (.loc 0::es)) (pre++up N S)=Y (mp (· + N) d,pre++up N S'):=by
 cases N with
 |zero=>
  have e:pre=[]:=Qzs.mp b;subst e;have a:∀S:Y1,up 0 S=S:=λS=>(congrArg (λg=>S.map g) (funext λc=>qlf (λ_=>rfl) c)).trans (Qxp S);have m:∀ds:Z D,mps (· + 0) ds=ds:=qkl λ_=>rfl;have k:mp (· + 0) d=d:=qh2 (λ_=>rfl) d;rw[a,a,m,k];exact h
 |succ N=>
  have i:(pre++up (N+1) S).drop (N+1)=up (N+1) S:=by rw[<- b]; exact List.drop_left
  have a:mps (· - (N+1)) (mps (· + (N+1)) (.loc 0::es))=.loc 0::es:=by
   rw[qjr];exact qkl (λl=>Qj8 l (N+1)) _
  have f:mps (· + (N+1)) (.loc 0::es)=.loc (N+1)::mps (· + (N+1)) es:=by
   show D.loc (0+(N+1))::_=_;rw[Qz3]
  have j:=f▸a;rw[f];unfold isoR;dsimp only;rw[i,j,up_dn,Z9 ⟨f,i.symm,by rw[Qqr]; omega⟩,h];show Y (_,_++_)=_;rw[show(pre++up (N+1) S).take (N+1)=pre by rw[<- b]; exact List.take_left]
def iso_is(h:isoR g ds st=Y p):
  g ds st=Y p\/∃N es S d b,isoOk N ds es st S/\g es S=Y (d,b)/\p=(mp (· + N) d,st.take N++up N b):=by
 unfold isoR at h
 split at h
 ·exact .inl h
 ·split at h
  ·rename_i hk
   cases a:g (mps _ _) (((st.drop _)).map _) with
   |none=>rw[a]at h; cases h
   |some q=>rw[a]at h; cases h; exact .inr ⟨_,_,_,q.1,q.2,hk,a,rfl⟩
  ·cases h
 ·cases h
abbrev step(c:Y0->Z D->Y1->Y2 (D×Y1))(r:R):R:=⟨stepEv r,stepTst r,λτ st ss=>exs (stepEx r) ss τ st,c⟩
abbrev runK(c:Y0->Z D->Y1->Y2 (D×Y1)):Y0->R
 |0=>⟨λ_ _ _=>B,λ_ _ _=>B,λ_ _ _=>B,c⟩
 |k+1=>step c (runK c k)
open Classical in
abbrev lim1{α:Type}(f:Y0->Y2 α):Y2 α:=if h:∃x,∃n,f n=Y x then Y h.choose else B
abbrev RL(c:Y0->Z D->Y1->Y2 (D×Y1)):R:=⟨λτ st e=>lim1 λn=>(runK c n).ev τ st e,λτ st e=>lim1 λn=>(runK c n).tst τ st e,λτ st e=>lim1 λn=>(runK c n).ex τ st e,c⟩
abbrev callD(fns:Z Fn):Y0->Y0->Z D->Y1->Y2 (D×Y1)
 |0=>λ_ _ _=>B
 |d+1=>stepCall fns (RL (callD fns d))
noncomputable abbrev rn(fns:Z Fn)(d n:Y0):R:=runK (callD fns d) n
noncomputable abbrev Lv(fns:Z Fn)(d:Y0):R:=RL (callD fns d)
def lim1_is(h:lim1 f=Y x):∃n,f n=Y x:=by
 unfold lim1 at h
 split at h
 ·rename_i a;obtain⟨n,hn⟩:=a.choose_spec;exact⟨n,by rw[hn]; exact h⟩
 ·cases h
def runK_call(c:Y0->Z D->Y1->Y2 (D×Y1)):∀n,(runK c n).call=c
 |0=>rfl
 |_+1=>rfl
end M
end
section
namespace M
open PySem (Str)
def Co{α:Type}(a:Y2 α)(b:Y0->Y2 α):Prop:=∀x,a=Y x->∃n,∀m,n<=m->b m=Y x
def Co.refl(a:Y2 α):Co a λ_=>a:=λ_ h=>⟨0,λ_ _=>h⟩
theorem Co.none(b:Y0->Y2 α):Co Option.none b:=λ_ h=>by cases h
theorem Co.bind{f:Y2 α}{c:Y0->Y2 α}{g:α->Y2 b}{g':Y0->α->Y2 b}(hf:Co f c)(d:∀a,Co (g a) λm=>g' m a):Co (f.bind g) λm=>(c m).bind (g' m):=λx h=>by
 cases e:f with
 |none=>rw[e]at h; cases h
 |some a=>
  rw[e]at h;obtain⟨n,hn⟩:=hf a e;obtain⟨k,hk⟩:=d a x h;refine⟨max n k,λm i=>?_⟩;simp only;rw[hn m ?d];exact hk m ?d
theorem Co.map{f:Y2 α}{b:Y0->Y2 α}(g:α->c)(hf:Co f b):Co (f.map g) λm=>(b m).map g:=λx h=>by
 cases e:f with
 |none=>rw[e]at h; cases h
 |some a=>
  rw[e]at h;obtain⟨n,hn⟩:=hf a e;refine⟨n,λm d=>?_⟩;simp only;rw[hn m d];exact h
def Co.ite[Decidable c]{a b:Y2 α}{d b':Y0->Y2 α}(ha:Co a d)(hb:Co b b'):Co (if c then a else b) λm=>if c then d m else b' m:=by
 by_cases h:c
 ·simp only[Z9 h]; exact ha
 ·simp only[Z8 h]; exact hb
structure Le (r:R) (r':Y0->R):Prop where
 ev:∀τ st e,Co (r.ev τ st e) λm=>(r' m).ev τ st e
 tst:∀τ st e,Co (r.tst τ st e) λm=>(r' m).tst τ st e
 ex:∀τ st e,Co (r.ex τ st e) λm=>(r' m).ex τ st e
 call:∀f ds st,Co (r.call f ds st) λm=>(r' m).call f ds st
theorem qz3{a:Y0->Y1->E->Y2 (D×Y1)}(h:∀st e,Co (f st e) λm=>a m st e):∀(es:Z E) (st:Y1),Co (evs f es st) λm=>evs (a m) es st
 |[],st=>.refl _
 |e::es,st=>(h st e).bind λp=>(qz3 h es p.2).bind λq=>.refl _
theorem qjt{a:Y0->Sl->Y1->D->Y2 (Out×Y1)}(h:∀τ st d,Co (f τ st d) λm=>a m τ st d):∀(k i:Y0) (τ:Sl) (st:Y1),Co (loop it f k i τ st) λm=>loop it (a m) k i τ st
 |0,_,_,_=>.refl _
 |k+1,i,τ,st=>by
  unfold loop;refine(Co.refl _).bind λo=>?_
  cases o with
  |none=>exact .refl _
  |some d=>
   refine(h τ st d).bind λp=>?_
   cases b:p.1 with
   |nx τ'=>exact qjt h k _ _ _
   |bk τ'=>exact .refl _
   |rt v=>exact .refl _
theorem qkn{b:Y0->Sl->Y1->D->Y2 (Y2 D×Sl×Y1)}(h:∀τ st d,Co (f τ st d) λm=>b m τ st d):∀(k i:Y0) (a:Z D) (τ:Sl) (st:Y1),Co (loopC it f k i a τ st) λm=>loopC it (b m) k i a τ st
 |0,_,_,_,_=>.refl _
 |k+1,i,a,τ,st=>by
  unfold loopC;refine(Co.refl _).bind λo=>?_
  cases o with
  |none=>exact .refl _
  |some d=>exact Co.ite (.refl _) ((h τ st d).bind λp=>qkn h k _ _ _ _)
theorem qva{a:Y0->Sl->Y1->S->Y2 (Out×Y1)}(h:∀τ st s,Co (f τ st s) λm=>a m τ st s):∀(ss:Z S) (τ:Sl) (st:Y1),Co (exs f ss τ st) λm=>exs (a m) ss τ st
 |[],_,_=>.refl _
 |s::ss,τ,st=>by
  unfold exs;refine(h τ st s).bind λp=>?_
  cases b:p.1 with
  |nx τ'=>exact qva h ss _ _
  |_=>exact .refl _
section
variable (h:Le r r')
include h
theorem qy6(τ)(st)(e):Co (src r τ st e) λm=>src (r' m) τ st e:=by
 cases e with
 |rng1 a=>exact (?C).bind λp=>.refl _
 |rng2 a b=>exact (?C).bind λp=>(h.ev τ _ b).bind λq=>.refl _
 |zip a b=>exact (?C).bind λp=>(h.ev τ _ b).bind λq=>.refl _
 |enu a=>exact (?C).bind λp=>.refl _
 |rev a=>exact (?C).bind λp=>.refl _
 |_=>exact(h.ev τ st _).bind λp=>.refl _
theorem qv2(τ)(st)(e):Co (part r τ st e) λm=>part (r' m) τ st e:=by
 cases e with
 |none=>exact .refl _
 |some e=>exact(h.ev τ st e).bind λp=>.refl _
theorem qbf(t)(test)(elt)(τ)(st)(d):Co (turnC r t test elt τ st d) λm=>turnC (r' m) t test elt τ st d:=by
 unfold turnC;refine(Co.refl _).bind λτ'=>?_
 cases test with
 |none=>exact(h.ev _ _ _).map _
 |some c=>exact(h.tst _ _ _).bind λb=>Co.ite ((h.ev _ _ _).map _) (.refl _)
theorem qwi(τ)(st)(neg)(a b):Co (dinR r τ st neg a b) λm=>dinR (r' m) τ st neg a b:=(?C).bind λp=>(h.ev τ _ b).bind λq=>.refl _
theorem qwd(τ)(st)(neg)(ks)(b):Co (ginR r τ st neg ks b) λm=>ginR (r' m) τ st neg ks b:=(h.ev τ st b).bind λp=>.refl _
theorem qjl(τ)(st)(e):Co (stepEv r τ st e) λm=>stepEv (r' m) τ st e:=by
 cases e with
 |var i=>exact .refl _
 |lit d=>exact .refl _
 |glo x d=>exact .refl _
 |bin j a b=>exact (?C).bind λp=>(h.ev τ _ b).bind λq=>.refl _
 |neg a=>exact (?C).bind λp=>.refl _
 |not a=>exact (?C).bind λp=>.refl _
 |cmp j a b=>exact (?C).bind λp=>(h.ev τ _ b).bind λq=>.refl _
 |cmp2 j n a b c=>exact (?C).bind λp=>(h.ev τ _ b).bind λq=>(Co.refl _).bind λk=>Co.ite ((h.ev τ _ c).bind λu=>.refl _) (.refl _)
 |and a b=>
  refine (?C).bind λp=>?_;obtain⟨d,s⟩:=p
  cases d with
  |bl k=>cases k with
   |true=>exact h.ev τ _ b
   |false=>exact .refl _
  |_=>exact .refl _
 |or a b=>
  refine (?C).bind λp=>?_;obtain⟨d,s⟩:=p
  cases d with
  |bl k=>cases k with
   |false=>exact h.ev τ _ b
   |true=>exact .refl _
  |_=>exact .refl _
 |ite c a b=>exact(h.tst τ st c).bind λp=>Co.ite (h.ev τ _ a) (h.ev τ _ b)
 |tup es=>exact(qz3 (h.ev τ) es st).bind λp=>.refl _
 |lst es=>exact(qz3 (h.ev τ) es st).bind λp=>.refl _
 |idx a b=>exact (?C).bind λp=>(h.ev τ _ b).bind λq=>.refl _
 |sli a lo hi=>exact (?C).bind λp=>(qv2 h τ _ lo).bind λl=>(qv2 h τ _ hi).bind λu=>.refl _
 |call f es=>exact(qz3 (h.ev τ) es st).bind λp=>h.call f _ _
 |bcall f es=>exact(qz3 (h.ev τ) es st).bind λp=>.refl _
 |isi a ts m=>exact (?C).bind λp=>.refl _
 |lenset a=>exact (?C).bind λp=>.refl _
 |gc a=>exact (?C).map _
 |meth a m es=>exact (?C).bind λp=>Co.ite ((qz3 (h.ev τ) es _).bind λq=>.refl _) (.refl _)
 |rng1 a=>exact .refl _
 |rng2 a b=>exact .refl _
 |zip a b=>exact .refl _
 |enu a=>exact .refl _
 |rev a=>exact .refl _
 |dic es=>exact(qz3 (h.ev τ) es _).bind λp=>.refl _
 |didx a b=>exact (?C).bind λp=>(h.ev τ _ b).bind λq=>.refl _
 |din neg a b=>exact qwi h τ st neg a b
 |dgt a b=>
  refine (?C).bind λp=>?_;obtain⟨d,s⟩:=p
  cases d with
  |loc l=>exact(Co.refl _).bind λ_=>(h.ev τ _ b).bind λq=>.refl _
  |_=>exact .refl _
 |gidx x ks ds b=>exact(h.ev τ st b).bind λp=>.refl _
 |gin neg x ks b=>exact qwd h τ st neg ks b
 |comp t it g elt sr=>exact(qy6 h τ st it).bind λp=>(qkn (qbf h t g elt) _ _ _ _ _).map _
 |attr C a f=>exact (?C).bind λp=>.refl _
 |mcall C f m a es=>exact (?C).bind λp=>(Co.refl _).bind λfs=>Co.ite (.refl _) ((qz3 (h.ev τ) es _).bind λq=>h.call f _ _)
 |new C f es=>exact(qz3 (h.ev τ) es st).bind λp=>(h.call f _ _).bind λq=>.refl _
theorem qx1(τ)(st)(e):Co (stepTst r τ st e) λm=>stepTst (r' m) τ st e:=by
 cases e with
 |not a=>exact(h.tst τ st a).map _
 |and a b=>exact(h.tst τ st a).bind λp=>Co.ite (h.tst τ _ b) (.refl _)
 |or a b=>exact(h.tst τ st a).bind λp=>Co.ite (.refl _) (h.tst τ _ b)
 |ite _ _ _=>exact .refl _
 |din neg a b=>exact(qwi h τ st neg a b).bind λp=>.refl _
 |gin neg x ks b=>exact(qwd h τ st neg ks b).bind λp=>.refl _
 |cmp f a b=>exact (?C).bind λp=>(h.ev τ _ b).bind λq=>.refl _
 |cmp2 f d a b c=>exact (?C).bind λp=>(h.ev τ _ b).bind λq=>(Co.refl _).bind λk=>Co.ite ((h.ev τ _ c).bind λu=>.refl _) (.refl _)
 |_=>exact(h.ev τ st _).bind λp=>.refl _
theorem qji(τ)(st)(s):Co (stepEx r τ st s) λm=>stepEx (r' m) τ st s:=by
 cases s with
 |set t e=>exact(h.ev τ st e).bind λp=>.refl _
 |dset a i e=>exact(h.ev τ st e).bind λp=>(h.ev τ _ a).bind λq=>(h.ev τ _ i).bind λu=>.refl _
 |bad=>exact .refl _
 |brk=>exact .refl _
 |setA C a f e=>exact(h.ev τ st e).bind λp=>(h.ev τ _ a).bind λq=>.refl _
 |ford t a body=>
  refine (?C).bind λp=>?_;obtain⟨d,s⟩:=p
  cases d with
  |loc l=>exact(Co.refl _).bind λkvs=>(qjt (λτ st d=>(Co.refl _).bind λτ'=>h.ex τ' st body) _ _ _ _).bind λq=>.refl _
  |_=>exact .refl _
 |expr e=>exact(h.ev τ st e).map _
 |ret e=>exact(h.ev τ st e).map _
 |ite c a b=>exact(h.tst τ st c).bind λp=>Co.ite (h.ex τ _ a) (h.ex τ _ b)
 |forr t it body=>exact(qy6 h τ st it).bind λp=>qjt (λτ st d=>(Co.refl _).bind λτ'=>h.ex τ' st body) _ _ _ _
theorem qc9(c:Y0->Z D->Y1->Y2 (D×Y1)):Le (step c r) λm=>step c (r' m):=
 ⟨qjl h,qx1 h,λτ st ss=>qva (qji h) ss τ st,λf ds st=>.refl _⟩
end
theorem qjk(c:Y0->Z D->Y1->Y2 (D×Y1)):∀n,Le (runK c n) λ_=>runK c (n+1)
 |0=>⟨λ_ _ _=>.none _,λ_ _ _=>.none _,λ_ _ _=>.none _,λ_ _ _=>.refl _⟩
 |n+1=>qc9 (qjk c n) c
section
def ev_up(h:(runK c n).ev τ st e=Y x)(b:n<=N):(runK c N).ev τ st e=Y x:=by
 induction b with
 |refl=>exact h
 |step _ a=>obtain⟨k,hk⟩:=(qjk c _).ev τ st e x a; exact hk k (Qqw _)
def qi1(h:(runK c n).tst τ st e=Y x)(b:n<=N):(runK c N).tst τ st e=Y x:=by
 induction b with
 |refl=>exact h
 |step _ a=>obtain⟨k,hk⟩:=(qjk c _).tst τ st e x a; exact hk k (Qqw _)
def ex_up(h:(runK c n).ex τ st e=Y x)(b:n<=N):(runK c N).ex τ st e=Y x:=by
 induction b with
 |refl=>exact h
 |step _ a=>obtain⟨k,hk⟩:=(qjk c _).ex τ st e x a; exact hk k (Qqw _)
end
def qya(up:∀n N x,f n=Y x->n<=N->f N=Y x)(h:f n=Y x):lim1 f=Y x:=by
 have a:∃x,∃n,f n=Y x:=⟨x,n,h⟩
 unfold lim1;rw[dif_pos a];obtain⟨k,hk⟩:=a.choose_spec;have c:=up _ (max n k) _ h ?d;have b:=up _ (max n k) _ hk ?d;rw[c]at b;exact b.symm
section
end
section
variable {r:R}{s:Src}{S:Y1}{rest:Sl}{elt:E}{ds:Z D}
theorem qv9(a:∀i,s.at S i=Y ds[i]?)(c:es.length=ds.length)(b:ds.length<lim)(f:∀(i:Y0) (d e:D),ds[i]?=Y d->es[i]?=Y e->r.ev (Y d::rest) S elt=Y (e,S)):
  ∀(k i:Y0) (o:Y2 D),i+k=ds.length->loopC s (turnC r ?K B elt) (k+1) i (es.take i) (o::rest) S=Y (es,S)
 |0,i,o,h=>by
  have e:i=ds.length:=by lia
  subst e;have h1:es.take ds.length=es:=Qjz ?d;rw[loopC,a,h1];simp only[oBs,Qzh (Qqw _)];rw[Z8 ?d]
 |k+1,i,o,h=>by
  have hi:i<ds.length:=by lia
  have h1:ds[i]?=Y ds[i]:=by simp
  have h2:es[i]?=Y (es[i]' ?d):=by simp
  have g:=f i _ _ h1 h2;rw[loopC,a,h1];simp only[oBs];rw[Z8 (by rw[Qzy]; lia)];have j:turnC r ?K B elt (o::rest) S ds[i]=Y (Y (es[i]' ?d),Y ds[i]::rest,S):=by
   unfold turnC;simp only[setT,Qqm,Qkb,if_true,Qj9,oBs,g,oMs]
  rw[j];simp only[oBs];rw[show es.take i++[es[i]' ?d]=es.take (i+1) by rw[Qq3 ?d]];exact qv9 a c b f k (i+1) _ ?d
theorem qx4(a:∀i,s.at S i=Y ds[i]?)(g:ds.length<lim)(hc:∀(i:Y0) (d:D),ds[i]?=Y d->r.tst (Y d::rest) S c=Y (p d,S))(f:D->D)(m:∀(i:Y0) (d:D),ds[i]?=Y d->p d=L->r.ev (Y d::rest) S elt=Y (f d,S)):
  ∀(k i:Y0) (o:Y2 D),i+k=ds.length->loopC s (turnC r ?K (Y c) elt) (k+1) i (((ds.take i).filter p).map f) (o::rest) S=Y ((ds.filter p).map f,S)
 |0,i,o,h=>by
  have e:i=ds.length:=by lia
  subst e;rw[loopC,a,Qjz (Qqw _)];simp only[oBs,Qzh (Qqw _)];have:=Qz0 p ds;rw[Z8 ?t]
 |k+1,i,o,h=>by
  have hi:i<ds.length:=by lia
  have h1:ds[i]?=Y ds[i]:=by simp
  rw[loopC,a,h1];simp only[oBs];have t:=Qz0 p (ds.take i);have q:(ds.take i).length<=ds.length:=by rw[Qzy]; lia
  rw[Z8 ?t];have n:=Qq3 ?q;have j:=qx4 a g hc f m k (i+1) (Y ds[i]) ?d
  cases b:p ds[i] with
  |true=>
   have l:turnC r ?K (Y c) elt (o::rest) S ds[i]=Y (Y (f ds[i]),Y ds[i]::rest,S):=by
    unfold turnC;simp only[setT,Qqm,Qkb,if_true,Qj9,oBs,hc i _ h1,b,m i _ h1 b,oMs]
   rw[l];simp only[oBs];rw[n,Qq8,Qqg]at j;simpa[b] using j
  |false=>
   have l:turnC r ?K (Y c) elt (o::rest) S ds[i]=Y (B,Y ds[i]::rest,S):=by
    unfold turnC;simp only[setT,Qqm,Qkb,if_true,Qj9,oBs,hc i _ h1,b,Qzo,if_false]
   rw[l];simp only[oBs];rw[n,Qq8,Qqg]at j;simpa[b] using j
end
def qxd{S:Y1}{ds:Z D}(a:src r τ S it=Y (s,S'))(g:∀i,s.at S' i=Y ds[i]?)(hsz:s.size S'=ds.length)(f:inner sr τ=B::rest)(c:es.length=ds.length)(b:ds.length<lim)(j:∀(i:Y0) (d e:D),ds[i]?=Y d->es[i]?=Y e->r.ev (Y d::rest) S' elt=Y (e,S')):stepEv r τ S (.comp ?K it B elt sr)=Y (.loc S'.length,S'++[.lst L es]):=by
 have h:=qv9 g c b j ds.length 0 B ?d;show((src r τ S it).bind λp=>(loopC p.1 (turnC r ?K B elt) (p.1.size p.2+1) 0 [] (inner sr τ) p.2).map λq=>alloc q.2 (.lst L q.1))=_;rw[a];simp only[oBs,hsz,f];rw[show([]:Z D)=es.take 0 by simp,h]
 rfl
def qq7{S:Y1}{ds:Z D}(f:D->D)(a:src r τ S it=Y (s,S'))(g:∀i,s.at S' i=Y ds[i]?)(hsz:s.size S'=ds.length)(e:inner sr τ=B::rest)(b:ds.length<lim)(hc:∀(i:Y0) (d:D),ds[i]?=Y d->r.tst (Y d::rest) S' c=Y (p d,S'))(j:∀(i:Y0) (d:D),ds[i]?=Y d->p d=L->r.ev (Y d::rest) S' elt=Y (f d,S')):stepEv r τ S (.comp ?K it (Y c) elt sr)=Y (.loc S'.length,S'++[.lst L ((ds.filter p).map f)]):=by
 have h:=qx4 g b hc f j ds.length 0 B ?d;show((src r τ S it).bind λp=>(loopC p.1 (turnC r ?K (Y c) elt) (p.1.size p.2+1) 0 [] (inner sr τ) p.2).map λq=>alloc q.2 (.lst L q.1))=_;rw[a];simp only[oBs,hsz,e];simp only[Qkr,Qkl,Qxs]at h;rw[h]
 rfl
def qz9{S:Y1}(h:seqAt S q=Y ds)(i):(Src.lst q).at S i=Y ds[i]?:=by simp[Src.at,h]
def qzh{S:Y1}(h:seqAt S q=Y ds):(Src.lst q).size S=ds.length:=by simp[Src.size,h]
def qxh{S:Y1}(a)(n)(i):(Src.rng a n).at S i=Y ((List.range n).map λ(j:Y0)=>D.int (a+j))[i]?:=by
 simp only[Src.at,Qqv]
 by_cases h:i<n
 ·rw[Z9 h,Qx3 h]; rfl
 ·rw[Z8 h,Qzh (by simpa using h)]; rfl
theorem qv8{ds:Z D}(P:Y0->Sl->Y1->Prop)(a:∀i τ st,P i τ st->s.at st i=Y ds[i]?)(hs:∀i τ st d,ds[i]?=Y d->P i τ st->∃τ' st',f τ st d=Y (.nx τ',st')/\P (i+1) τ' st'):
  ∀(k i:Y0) (τ:Sl) (st:Y1),i+k=ds.length->P i τ st->∃τ' st',loop s f (k+1) i τ st=Y (.nx τ',st')/\P ds.length τ' st'
 |0,i,τ,st,h,p=>by
  have e:i=ds.length:=h;subst e;refine⟨τ,st,?_,p⟩;rw[loop,a _ _ _ p,Qzh (Qqw _)]
  rfl
 |k+1,i,τ,st,h,p=>by
  have h1:=Qqb (l:=ds) (i:=i) ?d;rw[loop,a _ _ _ p,h1];simp only[oBs];obtain⟨τ',st',e,q⟩:=hs i τ st _ h1 p;rw[e];exact qv8 P a hs k (i+1) τ' st' ?d q
def qag{ds:Z D}(P:Y0->Sl->Y1->Prop)(b:P 0 τ st)(hsz:s.size st=ds.length)(a:∀i τ st,P i τ st->s.at st i=Y ds[i]?)(hs:∀i τ st d,ds[i]?=Y d->P i τ st->∃τ' st',f τ st d=Y (.nx τ',st')/\P (i+1) τ' st'):
  ∃τ' st',loop s f (s.size st+1) 0 τ st=Y (.nx τ',st')/\P ds.length τ' st':=by
 rw[hsz];exact qv8 P a hs ds.length 0 τ st (Qz3 _) b
section
def gc_x(h:p.2.take st.length=st):gcD st p=gcX st.length p:=by
 unfold gcD;rw[Z9 h,ite_self]
def qv5:noLoc (.tup ds)=noLocs ds:=by rw[noLoc]
def qyj:noLocs (d::ds)=(noLoc d&&noLocs ds):=rfl
theorem qqp:∀{ds},noLocs ds=ds.all noLoc
 |[]=>rfl
 |d::ds=>by rw[qyj,Qz4,qqp]
def qd7(h:∀d∈ds,noLoc d=L):noLocs ds=true:=by rw[qqp,Qze]; exact h
def qzj{α:Type}{xs:Z α}{g:α->D}(h:∀x∈xs,noLoc (g x)=L):noLocs (xs.map g)=true:=qd7 λd hd=>by
 obtain⟨x,a,rfl⟩:=Qqj.mp hd;exact h x a
def qzv(h:noLocs ds=L):gcD st (.loc st.length,st++[.lst L ds])=(.lst ds,st):=by
 rw[gc_x ?g];unfold gcX;rw[Z8 (by simp[noLoc])];simp[h]
end
def qz4(d:-(2 ^ 64)<b)(c:b<2 ^ 64):mulOk a b=true:=by unfold mulOk; simp; lia
section
end
def bMo(S)(a)(h:0<b):binop S .Mod (.int a) (.int b)=Y (.int (a % b),S):=by
 simp only[binop];rw[Z9 h]
def bDi(S)(a)(h:0<b)(c:b<2 ^ 64):binop S .FloorDiv (.int a) (.int b)=Y (.int (a / b),S):=by
 simp only[binop];rw[Z9 ⟨h,c⟩]
noncomputable abbrev CF:=Y0->Z D->Y1->Y2 (D×Y1)
section
end
section
end
section
end
end M
end
section
namespace M
open PySem (Str CmpOp Operator)
inductive It where
 /-- a test comes out so -/
 |b (k:Yb)
 /-- a call answers so -/
 |c (a:D×Y1)
 /-- seen by the kernel -/
 |k
 /-- what lies in a cell -/
 |r (c:Ya)
 /-- what a dict has at a key -/
 |q (o:Y2 D)
 /-- what lies at an index -/
 |i (d:D)
 |n
 /-- a part leaves nothing behind -/
 |g
 /-- a part leaves a list -/
 |l (ds:Z D)
 /-- a loop ends so -/
 |s (o:Out×Y1)
 /-- slots and store stand so -/
 |e (p:Sl×Y1)
 /-- an if ends so -/
 |t (o:Out×Y1)
noncomputable abbrev Tp:=Z It
abbrev TM(α:Type):=Tp->(α->Tp->Prop)->Prop
abbrev TM.bind{α β:Type}(x:TM α)(f:α->TM β):TM β:=λt K=>x t λa t'=>f a t' K
abbrev TM.map{α β:Type}(x:TM α)(f:α->β):TM β:=λt K=>x t λa t'=>K (f a) t'
abbrev no{α:Type}:TM α:=λ_ _=>False
abbrev lf{α:Type}:Y2 α->TM α
 |some a=>λt K=>K a t
 |none=>no
abbrev ys{α:Type}(a:α):TM α:=λt K=>K a t
abbrev askB(p:Yb):TM Bool:=λt K=>match t with
 |.b k::t'=>p=k/\K k t'
 |.k::t'=>K p t'
 |_=>False
abbrev askC(o:Y2 (D×Y1)):TM (D×Y1):=λt K=>match t with
 |.c a::t'=>o=Y a/\K a t'
 |_=>False
abbrev askD(o:Y2 (D×Y1)):TM (D×Y1):=λt K=>match t with
 |.c a::t'=>o=Y a/\K a t'
 |t=>lf o t K
abbrev askE(o:Y2 (D×Y1))(x:TM (D×Y1)):TM (D×Y1):=λt K=>match t with
 |.c a::t'=>o=Y a/\K a t'
 |t=>x t K
abbrev askS(o:Y2 (Out×Y1))(x:TM (Out×Y1)):TM (Out×Y1):=λt K=>match t with
 |.s a::t'=>o=Y a/\K a t'
 |t=>x t K
abbrev askT(o:Y2 (Out×Y1))(x:TM (Out×Y1)):TM (Out×Y1):=λt K=>match t with
 |.t a::t'=>o=Y a/\K a t'
 |t=>x t K
abbrev askQ(o:Y2 D):TM (Y2 D):=λt K=>match t with
 |.q a::t'=>o=a/\K a t'
 |.k::t'=>K o t'
 |_=>False
abbrev askI(o:Y2 D):TM D:=λt K=>match t with
 |.i a::t'=>o=Y a/\K a t'
 |.n::t'=>lf o t' K
 |t=>lf o t K
abbrev askR(o:Y2 Ya):TM Ya:=λt K=>match t with
 |.r c::t'=>o=Y c/\K c t'
 |_=>False
abbrev askN(p:Sl×Y1):TM (Sl×Y1):=λt K=>match t with
 |.e q::t'=>p=q/\K q t'
 |t=>K p t
abbrev rdT(n:Y0)(st:Y1)(l:Y0):TM Ya:=if Nat.blt l n then lf st[l]? else askR st[l]?
abbrev Ya.ls:Ya->Y2 (Z D)
 |.lst _ ds=>Y ds
 |_=>B
abbrev Ya.wls:Ya->Y2 (Z D)
 |.lst L ds=>Y ds
 |_=>B
abbrev Ya.dc:Ya->Y2 (Z (D×D))
 |.dic _ ds=>Y ds
 |_=>B
abbrev Ya.wdc:Ya->Y2 (Z (D×D))
 |.dic L ds=>Y ds
 |_=>B
abbrev Ya.ob(C:Y0):Ya->Y2 (Z (Y4×D))
 |.obj C' fs=>if C'=C then Y fs else B
 |_=>B
abbrev seqT(n:Y0)(st:Y1):D->TM (Z D)
 |.loc l=>(rdT n st l).bind λc=>lf c.ls
 |.lst ds=>ys ds
 |_=>no
abbrev rowT(n:Y0)(st:Y1):D->TM (Z D)
 |.tup ds=>ys ds
 |d=>seqT n st d
abbrev wlT(n:Y0)(st:Y1)(l:Y0):TM (Z D):=(rdT n st l).bind λc=>lf c.wls
abbrev dcT(n:Y0)(st:Y1)(l:Y0):TM (Z (D×D)):=(rdT n st l).bind λc=>lf c.dc
abbrev wdT(n:Y0)(st:Y1)(l:Y0):TM (Z (D×D)):=(rdT n st l).bind λc=>lf c.wdc
abbrev obT(n:Y0)(st:Y1)(C:Y0):D->TM (Z (Y4×D))
 |.loc l=>(rdT n st l).bind λc=>lf (c.ob C)
 |_=>no
abbrev qo2:CmpOp->D->Yb
 |.Lt,_=>L
 |.LtE,_=>L
 |.Gt,_=>L
 |.GtE,_=>L
 |.Is,_=>L
 |.IsNot,_=>L
 |.Eq,.int _=>L
 |.NotEq,.int _=>L
 |_,_=>Y6
abbrev isLs:D->Yb
 |.loc _=>L
 |.lst _=>L
 |_=>Y6
abbrev isAsk:CmpOp->D->D->Yb
 |.In,_,y=>isLs y
 |.NotIn,_,y=>isLs y
 |.Eq,x,_=>isLs x
 |.NotEq,x,_=>isLs x
 |_,_,_=>Y6
abbrev askO(o:Y2 Yb):TM Bool:=λt K=>match t with
 |.b k::t'=>o=Y k/\K k t'
 |.k::t'=>lf o t' K
 |_=>False
abbrev cmpT(st:Y1)(op:CmpOp)(x y:D):TM Bool:=if isAsk op x y then askO (cmpD st op x y) else(lf (cmpD st op x y)).bind λp=>if qo2 op x then askB p else ys p
abbrev qi3(n:Y0)(st:Y1)(d:D):TM Bool:=match d with
 |.loc l=>(seqT n st (.loc l)).bind λds=>askB (!ds.isEmpty)
 |.lst ds=>askB (!ds.isEmpty)
 |d=>lf (truth st d)
abbrev addT(n:Y0)(st:Y1)(a b:D):TM (D×Y1):=(seqT n st a).bind λx=>(seqT n st b).bind λy=>(askB (decide (lim<x.length+y.length))).bind λk=>if k then no else ys (alloc st (.lst L (x++y)))
abbrev binT(n:Y0)(st:Y1)(op:Zl)(a b:D):TM (D×Y1):=match op,a with
 |.Add,.loc l=>addT n st (.loc l) b
 |.Add,.lst l=>addT n st (.lst l) b
 |.Mult,.int i=>match b with
  |.int j=>(askB (mulOk i j)).bind λk=>if k then ys (.int (i*j),st) else no
  |b=>lf (binop st .Mult (.int i) b)
 |.Mult,.tup l=>askD (binop st .Mult (.tup l) b)
 |.Mod,.int i=>askD (binop st .Mod (.int i) b)
 |.FloorDiv,.int i=>askD (binop st .FloorDiv (.int i) b)
 |op,a=>lf (binop st op a b)
abbrev qyv(n:Y0)(st:Y1)(m:Mt)(d:D)(es:Z D):TM (D×Y1):=match m with
 |.append=>match d,es with
  |.loc l,[d]=>(wlT n st l).bind λds=>(askB (decide (ds.length<lim))).bind λb=>if b then ys (.non,st.set l (.lst L (ds++[d]))) else no
  |_,_=>no
 |.extend=>match d,es with
  |.loc l,[d]=>(wlT n st l).bind λds=>(rowT n st d).bind λes=>(askB (decide (ds.length+es.length<=lim))).bind λb=>if b then ys (.non,st.set l (.lst L (ds++es))) else no
  |_,_=>no
 |.insert=>match d,es with
  |.loc l,[.int i,d]=>(wlT n st l).bind λds=>(askB (decide (0<=i/\i<=ds.length/\ds.length<lim))).bind λb=>if b then ys (.non,st.set l (.lst L (ds.take i.toNat++d::ds.drop i.toNat))) else no
  |_,_=>no
 |.pop=>match d,es with
  |.loc l,[.int i]=>(wlT n st l).bind λds=>askD (if 0<=i/\i<ds.length/\ds.length<lim then(ds[i.toNat]?).map λd=>(d,st.set l (.lst L (ds.eraseIdx i.toNat))) else B)
  |_,_=>no
 |.index=>match es with
  |[x]=>(seqT n st d).bind λds=>askD (if flat 9 x&&flats 9 ds then(ds.findIdx? λy=>eqT y x).map λ(j:Y0)=>(.int (j:J),st) else B)
  |_=>no
abbrev sliT(n:Y0)(st:Y1):D->Y2 J->Y2 J->TM (D×Y1)
 |.tup ds,lo,hi=>ys (.tup (cut ds lo hi),st)
 |d,lo,hi=>(seqT n st d).map λds=>alloc st (.lst L (cut ds lo hi))
abbrev tyT(n:Y0)(st:Y1):D->TM Ty
 |.non=>ys .non
 |.bl _=>ys .bl
 |.int _=>ys .int
 |.str _=>ys .str
 |.tup _=>ys .tup
 |d=>(seqT n st d).map λ_=>.lst
abbrev mtyT(n:Y0)(st:Y1)(m:Mt)(d:D):TM Bool:=match d with
 |.str _=>ys (!m.ofList)
 |.lst _=>ys m.ofList
 |.loc l=>(seqT n st (.loc l)).bind λ_=>ys m.ofList
 |_=>no
abbrev qps(n:Y0)(st:Y1)(f:Bq)(ds:Z D):TM (D×Y1):=match f with
 |.len=>match ds with
  |[.loc l]=>(seqT n st (.loc l)).bind λxs=>ys (.int xs.length,st)
  |ds=>lf (bfun st .len ds)
 |.list=>match ds with
  |[.loc l]=>(rdT n st l).bind λc=>(lf (c.ls.or (c.dc.map keysOf))).bind λxs=>ys (alloc st (.lst L xs))
  |ds=>lf (bfun st .list ds)
 |.tuple=>match ds with
  |[.loc l]=>(seqT n st (.loc l)).bind λxs=>ys (.tup xs,st)
  |ds=>lf (bfun st .tuple ds)
 |.max=>match ds with
  |[.int i,.int j]=>(askB (decide (j > i))).bind λk=>ys (.int (if k then j else i),st)
  |_=>no
 |.min=>match ds with
  |[.int i,.int j]=>(askB (decide (j<i))).bind λk=>ys (.int (if k then j else i),st)
  |_=>no
 |f=>askD (bfun st f ds)
structure RT where
 rl:R
 ev:Sl->Y1->E->TM (D×Y1)
 tst:Sl->Y1->E->TM (Yb×Y1)
 ex:Sl->Y1->Z S->TM (Out×Y1)
 call:Y0->Z D->Y1->TM (D×Y1)
abbrev gcT(st:Y1)(p:D×Y1):TM (D×Y1):=λt K=>match t with
 |.g::t'=>(noLoc p.1=L/\p.2.take st.length=st)/\K (p.1,st) t'
 |.l ds::t'=>gcD st p=(.lst ds,st)/\K (.lst ds,st) t'
 |.k::t'=>K (gcD st p) t'
 |_=>False
abbrev evsT(f:Y1->E->TM (D×Y1)):Z E->Y1->TM (Z D×Y1)
 |[],st=>ys ([],st)
 |e::es,st=>(f st e).bind λp=>(evsT f es p.2).bind λq=>ys (p.1::q.1,q.2)
abbrev srcT(n:Y0)(r:RT)(τ:Sl)(st:Y1):E->TM (Src×Y1)
 |.rng1 a=>(?B).bind λp=>match p.1 with
  |.int n=>if big n then no else ys (.rng 0 n.toNat,p.2)
  |_=>no
 |.zip a b=>(?B).bind λp=>(?W).bind λq=>lf ((rowAt q.2 p.1).bind λ_=>(rowAt q.2 q.1).map λ_=>(.zip p.1 q.1,q.2))
 |.enu a=>(?B).bind λp=>lf ((rowAt p.2 p.1).map λ_=>(.enu p.1,p.2))
 |.rev a=>(?B).bind λp=>lf (match p.1 with
  |.tup ds=>Y (.rev ds,p.2)
  |_=>B)
 |.rng2 _ _=>no
 |e=>(?qe).bind λp=>match p.1 with
  |.tup ds=>ys (.tup ds,p.2)
  |.str z=>no
  |d=>(seqT n p.2 d).map λ_=>(.lst d,p.2)
abbrev qh5(it:Src)(f:Sl->Y1->D->TM (Out×Y1)):Y0->Y0->Sl->Y1->TM (Out×Y1)
 |0,_,_,_=>no
 |k+1,i,τ,st=>(lf (it.at st i)).bind λo=>match o with
  |none=>ys (.nx τ,st)
  |some d=>(f τ st d).bind λp=>match p.1 with
   |.nx τ'=>qh5 it f k (i+1) τ' p.2
   |.bk τ'=>ys (.nx τ',p.2)
   |.rt v=>ys (.rt v,p.2)
abbrev turnT(r:RT)(t:T)(test:Y2 E)(elt:E)(τ:Sl)(st:Y1)(d:D):TM (Y2 D×Sl×Y1):=
 (lf (setT t d τ)).bind λτ'=>match test with
  |none=>(r.ev τ' st elt).map λp=>(Y p.1,τ',p.2)
  |some c=>(r.tst τ' st c).bind λb=>if b.1 then(r.ev τ' b.2 elt).map λp=>(Y p.1,τ',p.2) else ys (B,τ',b.2)
abbrev qai(it:Src)(f:Sl->Y1->D->TM (Y2 D×Sl×Y1)):Y0->Y0->Z D->Sl->Y1->TM (Z D×Y1)
 |0,_,_,_,_=>no
 |k+1,i,acc,τ,st=>(lf (it.at st i)).bind λo=>match o with
  |none=>if lim<acc.length then no else ys (acc,st)
  |some d=>if lim<=acc.length then no else(f τ st d).bind λp=>qai it f k (i+1) (match p.1 with|some x=>acc++[x]|none=>acc) p.2.1 p.2.2
abbrev qn7(r:RT)(τ:Sl)(st:Y1):Y2 E->TM (Y2 J×Y1)
 |none=>ys (B,st)
 |some e=>(?qe).bind λp=>match p.1 with
  |.int i=>ys (Y i,p.2)
  |_=>no
abbrev dgT(n:Y0)(p:D×Y1)(k:D)(st:Y1):TM (Y2 D):=match p.1 with
 |.loc l=>(dcT n st l).bind λkvs=>if isKey k then askQ (dget kvs k) else no
 |_=>no
abbrev qdq(n:Y0)(r:RT)(τ:Sl)(st:Y1):E->TM (D×Y1)
 |.var i=>lf (match τ[i]? with
  |some (Y d)=>Y (d,st)
  |_=>B)
 |.lit d=>ys (d,st)
 |.glo _ d=>ys (d,st)
 |.bin op a b=>(?B).bind λp=>(?W).bind λq=>binT n q.2 op p.1 q.1
 |.neg a=>(?B).bind λp=>lf (match p.1 with
  |.int i=>Y (.int (-i),p.2)
  |_=>B)
 |.not a=>(?B).bind λp=>lf (match p.1 with
  |.bl b=>Y (.bl (!b),p.2)
  |_=>B)
 |.cmp op a b=>(?B).bind λp=>(?W).bind λq=>(cmpT q.2 op p.1 q.1).map λk=>(.bl k,q.2)
 |.cmp2 op op' a b c=>(?B).bind λp=>(?W).bind λq=>(cmpT q.2 op p.1 q.1).bind λk=>
   if k then(r.ev τ q.2 c).bind λu=>(cmpT u.2 op' q.1 u.1).map λk'=>(.bl k',u.2) else ys (.bl Y6,q.2)
 |.and a b=>(?B).bind λp=>match p.1 with
  |.bl L=>r.ev τ p.2 b
  |.bl Y6=>ys (.bl Y6,p.2)
  |_=>no
 |.or a b=>(?B).bind λp=>match p.1 with
  |.bl Y6=>r.ev τ p.2 b
  |.bl L=>ys (.bl L,p.2)
  |_=>no
 |.ite c a b=>(r.tst τ st c).bind λp=>if p.1 then r.ev τ p.2 a else r.ev τ p.2 b
 |.tup es=>(evsT (r.ev τ) es st).bind λp=>if lim<p.1.length then no else ys (.tup p.1,p.2)
 |.lst es=>(evsT (r.ev τ) es st).bind λp=>if lim<p.1.length then no else ys (alloc p.2 (.lst L p.1))
 |.idx a b=>(?B).bind λp=>(?W).bind λq=>(askI (idxD q.2 p.1 q.1)).map λd=>(d,q.2)
 |.sli a lo hi=>(?B).bind λp=>(qn7 r τ p.2 lo).bind λl=>(qn7 r τ l.2 hi).bind λh=>sliT n h.2 p.1 l.1 h.1
 |.call f es=>(evsT (r.ev τ) es st).bind λp=>r.call f p.1 p.2
 |.bcall f es=>(evsT (r.ev τ) es st).bind λp=>qps n p.2 f p.1
 |.isi a ts _=>(?B).bind λp=>(tyT n p.2 p.1).map λn=>(.bl (ts.any λt=>tyIs t n),p.2)
 |.meth a m es=>(?B).bind λp=>(mtyT n p.2 m p.1).bind λk=>if k then(evsT (r.ev τ) es p.2).bind λq=>qyv n q.2 m p.1 q.1 else no
 |.gc a=>(?B).bind λp=>gcT st p
 |.dic es=>(evsT (r.ev τ) es (st++[.dic L []])).bind λp=>(wdT n p.2 st.length).bind λk0=>lf (match k0 with
  |[]=>(pairUp p.1).bind λkvs=>if kvs.length<=15 then Y (.loc st.length,p.2.set st.length (.dic L (dall kvs))) else B
  |_=>B)
 |.didx a b=>(?B).bind λp=>(?W).bind λq=>(dgT n p q.1 q.2).bind λo=>(lf o).map λd=>(d,q.2)
 |.din neg a b=>(?B).bind λp=>(?W).bind λq=>(dgT n q p.1 q.2).map λo=>(.bl (o.isSome != neg),q.2)
 |.dgt a b=>(?B).bind λp=>match p.1 with
  |.loc l=>(dcT n p.2 l).bind λ_=>(?W).bind λq=>(dgT n p q.1 q.2).bind λo=>ys (o.getD .non,q.2)
  |_=>no
 |.gidx _ ks ds b=>(r.ev τ st b).bind λp=>lf (match p.1 with
  |.str z=>((ks.zip ds).find? λq=>q.1==z).map λq=>(q.2,p.2)
  |_=>B)
 |.gin neg _ ks b=>(r.ev τ st b).bind λp=>lf (match p.1 with
  |.str z=>Y (.bl (ks.contains z != neg),p.2)
  |_=>B)
 |.lenset a=>(?B).bind λp=>(askI (qvv p.1)).map λd=>(d,p.2)
 |.comp t it test elt sr=>askE (stepEv r.rl τ st (.comp t it test elt sr)) ((srcT n r τ st it).bind λp=>
   (qai p.1 (turnT r t test elt) (p.1.size p.2+1) 0 [] (inner sr τ) p.2).map λq=>alloc q.2 (.lst L q.1))
 |.attr C a f=>(?B).bind λp=>(obT n p.2 C p.1).bind λfs=>lf ((fs.lookup f).map λd=>(d,p.2))
 |.mcall C f m a es=>(?B).bind λp=>(obT n p.2 C p.1).bind λfs=>if (fs.lookup m).isSome then no else(evsT (r.ev τ) es p.2).bind λq=>r.call f (p.1::q.1) q.2
 |.new C f es=>(evsT (r.ev τ) es st).bind λp=>(r.call f (.loc p.2.length::p.1) (p.2++[.obj C []])).bind λq=>if isNon q.1 then ys (.loc p.2.length,q.2) else no
 |_=>no
abbrev qy5(n:Y0)(r:RT)(τ:Sl)(st:Y1):E->TM (Yb×Y1)
 |.not a=>(r.tst τ st a).map λp=>(!p.1,p.2)
 |.and a b=>(r.tst τ st a).bind λp=>if p.1 then r.tst τ p.2 b else ys (Y6,p.2)
 |.or a b=>(r.tst τ st a).bind λp=>if p.1 then ys (L,p.2) else r.tst τ p.2 b
 |.ite _ _ _=>no
 |.din neg a b=>(?B).bind λp=>(?W).bind λq=>(dgT n q p.1 q.2).map λo=>(o.isSome != neg,q.2)
 |.gin neg _ ks b=>(r.ev τ st b).bind λp=>lf (match p.1 with
  |.str z=>Y (ks.contains z != neg,p.2)
  |_=>B)
 |.cmp op a b=>(?B).bind λp=>(?W).bind λq=>(cmpT q.2 op p.1 q.1).map λk=>(k,q.2)
 |.cmp2 op op' a b c=>(?B).bind λp=>(?W).bind λq=>(cmpT q.2 op p.1 q.1).bind λk=>
   if k then(r.ev τ q.2 c).bind λu=>(cmpT u.2 op' q.1 u.1).map λk'=>(k',u.2) else ys (Y6,q.2)
 |e=>(?qe).bind λp=>(qi3 n p.2 p.1).map λk=>(k,p.2)
abbrev qi8(n:Y0)(r:RT)(τ:Sl)(st:Y1):S->TM (Out×Y1)
 |.set t e=>(?qe).bind λp=>(lf (setT t p.1 τ)).map λτ'=>(.nx τ',p.2)
 |.dset a i e=>(?qe).bind λp=>(r.ev τ p.2 a).bind λq=>(r.ev τ q.2 i).bind λu=>match q.1 with
  |.loc l=>(wdT n u.2 l).bind λkvs=>if isKey u.1 then(askB (decide (kvs.length<lim))).bind λb=>if b then ys (.nx τ,u.2.set l (.dic L (dput kvs u.1 p.1))) else no else no
  |_=>no
 |.setA C a f e=>(?qe).bind λp=>(r.ev τ p.2 a).bind λq=>(obT n q.2 C q.1).bind λfs=>match q.1 with
  |.loc l=>if fs.length<900 then ys (.nx τ,q.2.set l (.obj C (putA f p.1 fs))) else no
  |_=>no
 |.expr e=>(?qe).map λp=>(.nx τ,p.2)
 |.ret e=>(?qe).map λp=>(.rt p.1,p.2)
 |.ite c a b=>askT (stepEx r.rl τ st (.ite c a b)) ((r.tst τ st c).bind λp=>if p.1 then r.ex τ p.2 a else r.ex τ p.2 b)
 |.forr t it body=>askS (stepEx r.rl τ st (.forr t it body)) ((srcT n r τ st it).bind λp=>
   qh5 p.1 (λτ st d=>(lf (setT t d τ)).bind λτ'=>r.ex τ' st body) (p.1.size p.2+1) 0 τ p.2)
 |.ford t a body=>askS (stepEx r.rl τ st (.ford t a body)) no
 |.brk=>ys (.bk τ,st)
 |_=>no
abbrev qxl(n:Y0)(r:RT)(τ:Sl)(st:Y1)(s:S):TM (Out×Y1):=askT (stepEx r.rl τ st s) (qi8 n r τ st s)
abbrev exsT(f:Sl->Y1->S->TM (Out×Y1)):Z S->Sl->Y1->TM (Out×Y1)
 |[],τ,st=>ys (.nx τ,st)
 |s::ss,τ,st=>(askN (τ,st)).bind λu=>(f u.1 u.2 s).bind λp=>match p.1 with
  |.nx τ'=>exsT f ss τ' p.2
  |o=>ys (o,p.2)
noncomputable abbrev CT:=Y0->Z D->Y1->TM (D×Y1)
abbrev runT(n:Y0)(R0:R)(c:CT):Y0->RT
 |0=>⟨R0,λ_ _ _=>no,λ_ _ _=>no,λ_ _ _=>no,c⟩
 |k+1=>⟨R0,qdq n (runT n R0 c k),qy5 n (runT n R0 c k),λτ st ss=>exsT (qxl n (runT n R0 c k)) ss τ st,c⟩
abbrev qxg(fns:Z Fn)(n:Y0)(Oq:Z Y0)(k:Y0):Y0->CT
 |0=>λ_ _ _=>no
 |d+1=>λf ds st=>if Oq.contains f then askC (callD fns (k+(d+1)) f ds st) else match fns[f]? with
   |some F=>if (!F.iso||at0 ds)=L then if ds.length=F.np then((runT n ?L (qxg fns n Oq k d) 40).ex (ds.map Y++List.replicate (F.nl - ds.length) B) st F.body).bind λp=>(match p.1 with
     |.rt d=>ys (d,p.2)
     |.nx _=>ys (.non,p.2)
     |_=>no)
    else no else no
   |none=>no
def Sn{α:Type}(x:TM α)(y:Y2 α):Prop:=∀t K,x t K->∃a t',y=Y a/\K a t'
theorem Sn.lf:∀(o:Y2 α),Sn (lf o) o
 |some a=>λt K h=>⟨a,t,rfl,h⟩
 |none=>λt K h=>h.elim
theorem Sn.ys(a:α):Sn (ys a) (Y a):=λt K h=>⟨a,t,rfl,h⟩
theorem Sn.no(o:Y2 α):Sn no o:=λt K h=>h.elim
theorem Sn.bind{x:TM α}{y:Y2 α}{f:α->TM b}{g:α->Y2 b}(h:Sn x y)(h':∀a,Sn (f a) (g a)):Sn (x.bind f) (y.bind g):=λt K e=>by
 obtain⟨a,d,rfl,c⟩:=h _ _ e;exact h' a _ _ c
theorem Sn.map{x:TM α}{y:Y2 α}(f:α->b)(h:Sn x y):Sn (x.map f) (y.map f):=λt K e=>by
 obtain⟨a,c,rfl,d⟩:=h _ _ e;exact⟨f a,c,rfl,d⟩
def Sn.ite[Decidable c]{a b:TM α}{d b':Y2 α}(ha:Sn a d)(hb:Sn b b'):Sn (if c then a else b) (if c then d else b'):=by
 by_cases h:c
 ·rw[Z9 h,Z9 h]; exact ha
 ·rw[Z8 h,Z8 h]; exact hb
def Sn.up{x:TM α}{y y':Y2 α}(h:∀a,y=Y a->y'=Y a)(e:Sn x y):Sn x y':=λt K h1=>by
 obtain⟨a,b,d,c⟩:=e t K h1;exact⟨a,b,h a d,c⟩
def Sn.eq{x:TM α}{y y':Y2 α}(h:y=y')(e:Sn x y):Sn x y':=h▸e
def bm{α a:Type}{o:Y2 α}{f:α->a}:(o.bind λx=>Y (f x))=o.map f:=by cases o<;>rfl
theorem Sn.askB(p):Sn (askB p) (Y p):=λt K h=>by
 cases t with
 |nil=>exact h.elim
 |cons i t=>
  cases i with
  |b k=>obtain⟨rfl,e⟩:=h; exact⟨_,_,rfl,e⟩
  |k=>exact⟨p,t,rfl,h⟩
  |_=>exact h.elim
theorem Sn.askC(o):Sn (askC o) o:=λt K h=>by
 cases t with
 |nil=>exact h.elim
 |cons i t=>
  cases i with
  |c a=>exact⟨a,t,h.1,h.2⟩
  |_=>exact h.elim
theorem Sn.askD(o):Sn (askD o) o:=λt K h=>by
 cases t with
 |nil=>exact Sn.lf o _ _ h
 |cons i t=>
  cases i with
  |c a=>exact⟨a,t,h.1,h.2⟩
  |_=>exact Sn.lf o _ _ h
theorem Sn.askE(h:Sn x o):Sn (askE o x) o:=λt K e=>by
 cases t with
 |nil=>exact h _ _ e
 |cons i t=>
  cases i with
  |c a=>exact⟨a,t,e.1,e.2⟩
  |_=>exact h _ _ e
theorem Sn.askS(h:Sn x o):Sn (askS o x) o:=λt K e=>by
 cases t with
 |nil=>exact h _ _ e
 |cons i t=>
  cases i with
  |s a=>exact⟨a,t,e.1,e.2⟩
  |_=>exact h _ _ e
theorem Sn.askT(h:Sn x o):Sn (askT o x) o:=λt K e=>by
 cases t with
 |nil=>exact h _ _ e
 |cons i t=>
  cases i with
  |t a=>exact⟨a,t,e.1,e.2⟩
  |_=>exact h _ _ e
theorem Sn.askQ(o):Sn (askQ o) (Y o):=λt K h=>by
 cases t with
 |nil=>exact h.elim
 |cons i t=>
  cases i with
  |q a=>exact⟨a,t,congrArg Y h.1,h.2⟩
  |k=>exact⟨o,t,rfl,h⟩
  |_=>exact h.elim
theorem Sn.askI(o):Sn (askI o) o:=λt K h=>by
 cases t with
 |nil=>exact Sn.lf o _ _ h
 |cons i t=>
  cases i with
  |i a=>exact⟨a,t,h.1,h.2⟩
  |n=>exact Sn.lf o _ _ h
  |_=>exact Sn.lf o _ _ h
theorem Sn.askR(o):Sn (askR o) o:=λt K h=>by
 cases t with
 |nil=>exact h.elim
 |cons i t=>
  cases i with
  |r c=>exact⟨c,t,h.1,h.2⟩
  |_=>exact h.elim
theorem Sn.askN(p):Sn (askN p) (Y p):=λt K h=>by
 cases t with
 |nil=>exact⟨p,[],rfl,h⟩
 |cons i t=>
  cases i with
  |e q=>exact⟨q,t,congrArg Y h.1,h.2⟩
  |_=>exact⟨p,_,rfl,h⟩
def Sn.rd(n)(st)(l):Sn (rdT n st l) st[l]?:=by
 unfold rdT
 by_cases hb:Nat.blt l n=L
 ·rw[Z9 hb]; exact .lf _
 ·rw[Z8 hb]; exact .askR _
def Sn.seq(n)(st)(d):Sn (seqT n st d) (seqAt st d):=by
 cases d with
 |loc l=>exact((Sn.rd n st l).bind λc=>.lf _).eq (by show _=listAt st l; unfold listAt; cases st[l]? with|none=>rfl|some c=>cases c<;>rfl)
 |lst ds=>exact .ys _
 |_=>exact .no _
def Sn.sli(n)(st)(d)(a b):Sn (sliT n st d a b) (sliD st d a b):=by
 cases d with
 |tup ds=>exact .ys _
 |_=>exact(Sn.seq n st _).map _
def Sn.ty(n)(st)(d):Sn (tyT n st d) (tyName st d):=by
 cases d with
 |non=>exact .ys _
 |bl _=>exact .ys _
 |int _=>exact .ys _
 |str _=>exact .ys _
 |tup _=>exact .ys _
 |_=>exact(Sn.seq n st _).map _
def Sn.row(n)(st)(d):Sn (rowT n st d) (rowAt st d):=by
 cases d with
 |tup ds=>exact .ys _
 |non=>exact Sn.seq n st .non
 |bl b=>exact Sn.seq n st (.bl b)
 |int b=>exact Sn.seq n st (.int b)
 |str b=>exact Sn.seq n st (.str b)
 |lst b=>exact Sn.seq n st (.lst b)
 |loc b=>exact Sn.seq n st (.loc b)
def Sn.wl(n)(st)(l):Sn (wlT n st l) (wlistAt st l):=((Sn.rd n st l).bind λc=>.lf _).eq (by
 unfold wlistAt
 cases st[l]? with
 |none=>rfl
 |some c=>cases c with
  |lst w ds=>cases w<;>rfl
  |_=>rfl)
def Sn.dc(n)(st)(l):Sn (dcT n st l) (dicAt st l):=((Sn.rd n st l).bind λc=>.lf _).eq (by unfold dicAt; cases st[l]? with|none=>rfl|some c=>cases c<;>rfl)
def Sn.wd(n)(st)(l):Sn (wdT n st l) (wdicAt st l):=((Sn.rd n st l).bind λc=>.lf _).eq (by
 unfold wdicAt
 cases st[l]? with
 |none=>rfl
 |some c=>cases c with
  |dic w ds=>cases w<;>rfl
  |_=>rfl)
def Sn.ob(n)(st)(C)(d):Sn (obT n st C d) (objAt st C d):=by
 cases d with
 |loc l=>exact((Sn.rd n st l).bind λc=>.lf _).eq (by unfold objAt; dsimp only; cases st[l]? with|none=>rfl|some c=>cases c<;>rfl)
 |_=>exact .no _
def Sn.gc(st)(p):Sn (gcT st p) (Y (gcD st p)):=λt K h=>by
 cases t with
 |nil=>exact h.elim
 |cons i t=>
  cases i with
  |g=>
   obtain⟨⟨h1,h2⟩,h⟩:=h;refine⟨_,t,?_,h⟩;unfold gcD gcX;rw[h2,Z9 h1,Z9 rfl,ite_self]
  |l ds=>exact⟨_,t,congrArg Y h.1,h.2⟩
  |k=>exact⟨_,t,rfl,h⟩
  |_=>exact h.elim
def Sn.cond(p)(a:α):Sn (TM.bind (M.askB p) λb=>if b=L then M.ys a else M.no) (if p=L then Y a else B):=
 (Sn.askB p).bind λb=>Sn.ite (Sn.ys a) (.no B)
def Sn.meth(n)(st)(m)(d)(es):Sn (qyv n st m d es) (mfun st m d es):=by
 cases m with
 |append=>
  unfold qyv;dsimp only
  split
  ·refine(Sn.wl n st _).bind λds=>(Sn.cond _ _).eq ?_;simp only[decide_eq_true_eq]
  ·exact .no _
 |extend=>
  unfold qyv;dsimp only
  split
  ·rename_i l d;refine(Sn.wl n st _).bind λds=>((Sn.row n st d).bind λes=>Sn.cond _ _).eq ?_;simp only[decide_eq_true_eq];cases d<;>rfl
  ·exact .no _
 |insert=>
  unfold qyv;dsimp only
  split
  ·refine(Sn.wl n st _).bind λds=>(Sn.cond _ _).eq ?_;simp only[decide_eq_true_eq]
  ·exact .no _
 |pop=>
  unfold qyv;dsimp only
  split
  ·exact(Sn.wl n st _).bind λds=>.askD _
  ·exact .no _
 |index=>
  unfold qyv;dsimp only
  split
  ·exact(Sn.seq n st _).bind λds=>.askD _
  ·exact .no _
def Sn.mt(n)(st)(m)(d){x:TM α}{y:Y2 α}(h:Sn x y):Sn (TM.bind (mtyT n st m d) λk=>if k=L then x else M.no) (if mty st m d then y else B):=by
 cases d with
 |str z=>exact λt K e=>Sn.ite h (.no B) t K e
 |lst z=>
  refine((Sn.ys m.ofList).bind λk=>Sn.ite h (.no B)).eq ?_
  show(if m.ofList=L then y else B)=if (m.ofList&&L)=L then y else B
  rw[Qx8]
 |loc l=>
  have e:=((Sn.seq n st (.loc l)).bind λ_=>Sn.ys m.ofList).bind λk=>Sn.ite (c:=k=L) h (.no B);refine e.up λa e=>?_;show(if (m.ofList&&(seqAt st (.loc l)).isSome)=L then y else B)=Y a
  cases hs:seqAt st (.loc l) with
  |none=>rw[hs]at e; cases e
  |some xs=>rw[hs]at e; rw[Option.isSome_some,Qx8]; exact e
 |_=>exact λt K e=>e.elim
theorem Sn.askO(o):Sn (askO o) o:=λt K h=>by
 cases t with
 |nil=>exact h.elim
 |cons i t=>
  cases i with
  |b k=>exact⟨k,t,h.1,h.2⟩
  |k=>exact Sn.lf o _ _ h
  |_=>exact h.elim
def Sn.cmp(st)(a)(x y):Sn (cmpT st a x y) (cmpD st a x y):=by
 unfold cmpT
 by_cases ha:isAsk a x y=L
 ·rw[Z9 ha]; exact .askO _
 ·rw[Z8 ha];have h:Sn ((M.lf (cmpD st a x y)).bind λp=>if qo2 a x=L then M.askB p else M.ys p) ((cmpD st a x y).bind λp=>if qo2 a x=L then Y p else Y p):=(Sn.lf _).bind λp=>Sn.ite (Sn.askB p) (Sn.ys p);simpa using h
theorem Sn.truth(n)(st)(d):Sn (qi3 n st d) (truth st d):=by
 cases d with
 |loc l=>exact((Sn.seq n st (.loc l)).bind λds=>Sn.askB _).eq (by show _=(seqAt st (.loc l)).map _; rw[Option.map_eq_bind]; rfl)
 |lst l=>exact .askB _
 |non=>exact .lf (M.truth st .non)
 |bl b=>exact .lf (M.truth st (.bl b))
 |int b=>exact .lf (M.truth st (.int b))
 |str b=>exact .lf (M.truth st (.str b))
 |tup b=>exact .lf (M.truth st (.tup b))
def Sn.add(n)(st)(a b):Sn (addT n st a b) ((seqAt st a).bind λx=>(seqAt st b).bind λy=>if lim<x.length+y.length then B else Y (alloc st (.lst L (x++y)))):=
 (Sn.seq n st a).bind λx=>(Sn.seq n st b).bind λy=>by
  have h:=(Sn.askB (decide (lim<x.length+y.length))).bind λk=>Sn.ite (c:=k=L) (.no B) (Sn.ys (alloc st (.lst L (x++y))));simpa only[oBs,decide_eq_true_eq] using h
def Sn.bin(n)(st)(c)(a b):Sn (binT n st c a b) (binop st c a b):=by
 unfold binT
 split
 ·exact(Sn.add n st _ b).eq (by cases b<;>rfl)
 ·exact(Sn.add n st _ b).eq (by cases b<;>rfl)
 ·split
  ·exact Sn.cond _ _
  ·exact .lf _
 ·exact .askD _
 ·exact .askD _
 ·exact .askD _
 ·exact .lf _
def Sn.bf(n)(st)(f)(ds):Sn (qps n st f ds) (bfun st f ds):=by
 unfold qps
 split
 ·split
  ·exact((Sn.seq n st _).bind λxs=>.ys _).eq (bm)
  ·exact .lf _
 ·split
  ·rename_i l;refine((Sn.rd n st l).bind λc=>(Sn.lf _).bind λxs=>.ys _).eq ?_;show _=bList st [.loc l];unfold bList seqAt listAt dkeys dicAt;dsimp only
   cases st[l]? with
   |none=>rfl
   |some c=>cases c<;>rfl
  ·exact .lf _
 ·split
  ·exact((Sn.seq n st _).bind λxs=>.ys _).eq (bm)
  ·exact .lf _
 ·split
  ·rename_i i j;refine((Sn.askB _).bind λk=>.ys _).eq ?_;show Y _=Y _
   by_cases h:j > i<;>simp[h]
  ·exact .no _
 ·split
  ·rename_i i j;refine((Sn.askB _).bind λk=>.ys _).eq ?_;show Y _=Y _
   by_cases h:j<i<;>simp[h]
  ·exact .no _
 ·exact .askD _
structure SnR (r:RT) (r':R):Prop where
 rl:r.rl=r'
 ev:∀τ st e,Sn (r.ev τ st e) (r'.ev τ st e)
 tst:∀τ st e,Sn (r.tst τ st e) (r'.tst τ st e)
 ex:∀τ st e,Sn (r.ex τ st e) (r'.ex τ st e)
 call:∀f ds st,Sn (r.call f ds st) (r'.call f ds st)
theorem qxb(h:∀st e,Sn (f st e) (a st e)):∀(es:Z E) (st:Y1),Sn (evsT f es st) (evs a es st)
 |[],st=>.ys _
 |e::es,st=>(h st e).bind λp=>(qxb h es p.2).bind λq=>.ys _
theorem qek(h:∀τ st d,Sn (f τ st d) (a τ st d)):∀(k i:Y0) (τ:Sl) (st:Y1),Sn (qh5 it f k i τ st) (loop it a k i τ st)
 |0,_,_,_=>.no _
 |k+1,i,τ,st=>by
  unfold loop qh5;refine(Sn.lf _).bind λo=>?_
  cases o with
  |none=>exact .ys _
  |some d=>
   refine(h τ st d).bind λp=>?_;obtain⟨o,s⟩:=p
   cases o with
   |nx τ'=>exact qek h k _ _ _
   |bk τ'=>exact .ys _
   |rt v=>exact .ys _
theorem qah(h:∀τ st d,Sn (f τ st d) (b τ st d)):∀(k i:Y0) (a:Z D) (τ:Sl) (st:Y1),Sn (qai it f k i a τ st) (loopC it b k i a τ st)
 |0,_,_,_,_=>.no _
 |k+1,i,a,τ,st=>by
  unfold loopC qai;refine(Sn.lf _).bind λo=>?_
  cases o with
  |none=>exact Sn.ite (.no _) (.ys _)
  |some d=>exact Sn.ite (.no _) ((h τ st d).bind λp=>qah h k _ _ _ _)
theorem qfx(h:∀τ st s,Sn (f τ st s) (a τ st s)):∀(ss:Z S) (τ:Sl) (st:Y1),Sn (exsT f ss τ st) (exs a ss τ st)
 |[],_,_=>.ys _
 |s::ss,τ,st=>by
  unfold exs exsT;refine Sn.bind (y:=Y (τ,st)) (.askN _) λu=>(h u.1 u.2 s).bind λp=>?_;obtain⟨o,q⟩:=p
  cases o with
  |nx τ'=>exact qfx h ss _ _
  |rt _=>exact .ys _
  |bk _=>exact .ys _
section
variable (h:SnR r r')
include h
theorem qlz(τ)(st)(e):Sn (srcT n r τ st e) (src r' τ st e):=by
 cases e with
 |rng1 a=>
  refine (?C).bind λp=>?_;obtain⟨d,s⟩:=p
  cases d with
  |int n=>exact Sn.ite (.no _) (.ys _)
  |_=>exact .no _
 |rng2 a b=>exact .no _
 |zip a b=>exact (?C).bind λp=>(h.ev τ _ b).bind λq=>.lf _
 |enu a=>exact (?C).bind λp=>.lf _
 |rev a=>exact (?C).bind λp=>.lf _
 |_=>
  refine(h.ev τ st _).bind λp=>?_;obtain⟨d,s⟩:=p
  cases d with
  |tup n=>exact .ys _
  |str z=>exact .no _
  |_=>exact(Sn.seq n s _).map _
theorem qd1(τ)(st)(e):Sn (qn7 r τ st e) (part r' τ st e):=by
 cases e with
 |none=>exact .ys _
 |some e=>
  refine(h.ev τ st e).bind λp=>?_;obtain⟨d,s⟩:=p
  cases d with
  |int n=>exact .ys _
  |_=>exact .no _
theorem qmb(t)(test)(elt)(τ)(st)(d):Sn (turnT r t test elt τ st d) (turnC r' t test elt τ st d):=(Sn.lf _).bind λτ'=>by
 cases test with
 |none=>exact(h.ev _ _ _).map _
 |some c=>exact(h.tst _ _ _).bind λb=>Sn.ite ((h.ev _ _ _).map _) (.ys _)
omit h in
theorem qid(p)(k)(st){f:Y2 D->TM α}{g:Y2 D->Y2 α}(hf:∀o,Sn (f o) (g o)):Sn ((dgT n p k st).bind f) (match p.1 with
  |.loc l=>(dicAt st l).bind λkvs=>if isKey k then g (dget kvs k) else B
  |_=>B):=by
 obtain⟨d,s⟩:=p
 cases d with
 |loc l=>
  refine(((Sn.dc n st l).bind λkvs=>Sn.ite (Sn.askQ (dget kvs k)) (.no B)).bind hf).eq ?_;dsimp only
  cases dicAt st l with
  |none=>rfl
  |some kvs=>
   show Option.bind (if isKey k=L then Y (dget kvs k) else B) g=if isKey k=L then g (dget kvs k) else B
   by_cases e:isKey k=L
   ·rw[Z9 e,Z9 e]; rfl
   ·rw[Z8 e,Z8 e]; rfl
 |_=>exact λt K e=>e.elim
theorem qdz(τ)(st)(e):Sn (qdq n r τ st e) (stepEv r' τ st e):=by
 cases e with
 |var i=>exact .lf _
 |lit d=>exact .ys _
 |glo x d=>exact .ys _
 |bin j a b=>exact (?C).bind λp=>(h.ev τ _ b).bind λq=>.bin _ _ _ _ _
 |neg a=>exact (?C).bind λp=>.lf _
 |not a=>exact (?C).bind λp=>.lf _
 |cmp j a b=>exact (?C).bind λp=>(h.ev τ _ b).bind λq=>(Sn.cmp _ _ _ _).map _
 |cmp2 j w a b c=>exact (?C).bind λp=>(h.ev τ _ b).bind λq=>(Sn.cmp _ _ _ _).bind λk=>Sn.ite ((h.ev τ _ c).bind λu=>(Sn.cmp _ _ _ _).map _) (.ys _)
 |and a b=>
  refine (?C).bind λp=>?_;obtain⟨d,s⟩:=p
  cases d with
  |bl k=>cases k with
   |true=>exact h.ev τ _ b
   |false=>exact .ys _
  |_=>exact .no _
 |or a b=>
  refine (?C).bind λp=>?_;obtain⟨d,s⟩:=p
  cases d with
  |bl k=>cases k with
   |false=>exact h.ev τ _ b
   |true=>exact .ys _
  |_=>exact .no _
 |ite c a b=>exact(h.tst τ st c).bind λp=>Sn.ite (h.ev τ _ a) (h.ev τ _ b)
 |tup es=>exact(qxb (h.ev τ) es st).bind λp=>Sn.ite (.no _) (.ys _)
 |lst es=>exact(qxb (h.ev τ) es st).bind λp=>Sn.ite (.no _) (.ys _)
 |idx a b=>exact (?C).bind λp=>(h.ev τ _ b).bind λq=>(Sn.askI _).map _
 |sli a lo hi=>exact (?C).bind λp=>(qd1 h τ _ lo).bind λl=>(qd1 h τ _ hi).bind λu=>.sli _ _ _ _ _
 |call f es=>exact(qxb (h.ev τ) es st).bind λp=>h.call f _ _
 |bcall f es=>exact(qxb (h.ev τ) es st).bind λp=>.bf _ _ _ _
 |isi a ts m=>exact (?C).bind λp=>(Sn.ty _ _ _).map _
 |lenset a=>exact (?C).bind λp=>(Sn.askI _).map _
 |gc a=>exact((?C).bind λp=>Sn.gc st p).eq (bm)
 |meth a m es=>exact (?C).bind λp=>Sn.mt _ _ _ _ ((qxb (h.ev τ) es _).bind λq=>.meth _ _ _ _ _)
 |dic es=>
  refine(qxb (h.ev τ) es _).bind λp=>((Sn.wd n p.2 st.length).bind λv=>Sn.lf _).eq ?_
  cases wdicAt p.2 st.length with
  |none=>rfl
  |some v=>cases v<;>rfl
 |didx a b=>exact (?C).bind λp=>(h.ev τ _ b).bind λq=>qid p q.1 q.2 λo=>(Sn.lf o).map _
 |din neg a b=>exact (?C).bind λp=>(h.ev τ _ b).bind λq=>qid q p.1 q.2 λo=>Sn.ys _
 |dgt a b=>
  refine (?C).bind λp=>?_;obtain⟨d,s⟩:=p
  cases d with
  |loc l=>exact(Sn.dc n s l).bind λ_=>(h.ev τ _ b).bind λq=>qid (.loc l,s) q.1 q.2 λo=>Sn.ys _
  |_=>exact .no _
 |gidx x ks ds b=>exact(h.ev τ st b).bind λp=>.lf _
 |gin neg x ks b=>exact(h.ev τ st b).bind λp=>.lf _
 |comp t it g elt sr=>
  show Sn (askE (stepEv r.rl τ st (.comp t it g elt sr)) _) _;rw[h.rl];exact Sn.askE ((qlz h τ st it).bind λp=>(qah (qmb h t g elt) _ _ _ _ _).map _)
 |attr C a f=>exact (?C).bind λp=>(Sn.ob _ _ _ _).bind λfs=>.lf _
 |mcall C f m a es=>exact (?C).bind λp=>(Sn.ob _ _ _ _).bind λfs=>Sn.ite (.no _) ((qxb (h.ev τ) es _).bind λq=>h.call f _ _)
 |new C f es=>exact(qxb (h.ev τ) es st).bind λp=>(h.call f _ _).bind λq=>Sn.ite (.ys _) (.no _)
 |_=>exact .no _
theorem qbh(τ)(st)(e):Sn (qy5 n r τ st e) (stepTst r' τ st e):=by
 cases e with
 |not a=>exact(h.tst τ st a).map _
 |and a b=>exact(h.tst τ st a).bind λp=>Sn.ite (h.tst τ _ b) (.ys _)
 |or a b=>exact(h.tst τ st a).bind λp=>Sn.ite (.ys _) (h.tst τ _ b)
 |ite _ _ _=>exact .no _
 |din neg a b=>
  refine((?C).bind λp=>(h.ev τ _ b).bind λq=>qid q p.1 q.2 λo=>Sn.ys _).eq ?_;show _=(dinR r' τ st neg a b).bind _;unfold dinR;simp only[Option.bind_assoc];refine congrArg _ (funext λp=>congrArg _ (funext λq=>?_))
  cases q.1 with
  |loc l=>
   dsimp only
   cases dicAt q.2 l with
   |none=>rfl
   |some kvs=>
    simp only[oBs]
    by_cases e:isKey p.1=L
    ·rw[Z9 e,Z9 e]; rfl
    ·rw[Z8 e,Z8 e]; rfl
  |_=>rfl
 |gin neg x ks b=>
  refine((h.ev τ st b).bind λp=>Sn.lf _).eq ?_;show _=(ginR r' τ st neg ks b).bind _;unfold ginR;simp only[Option.bind_assoc];refine congrArg _ (funext λp=>?_);cases p.1<;>rfl
 |cmp f a b=>exact (?C).bind λp=>(h.ev τ _ b).bind λq=>(Sn.cmp _ _ _ _).map _
 |cmp2 f d a b c=>exact (?C).bind λp=>(h.ev τ _ b).bind λq=>(Sn.cmp _ _ _ _).bind λk=>Sn.ite ((h.ev τ _ c).bind λu=>(Sn.cmp _ _ _ _).map _) (.ys _)
 |_=>exact(h.ev τ st _).bind λp=>(Sn.truth _ _ _).map _
theorem qdx(τ)(st)(s):Sn (qi8 n r τ st s) (stepEx r' τ st s):=by
 cases s with
 |set t e=>exact(h.ev τ st e).bind λp=>(Sn.lf _).map _
 |dset a i e=>
  refine(h.ev τ st e).bind λp=>(h.ev τ _ a).bind λq=>(h.ev τ _ i).bind λu=>?_;obtain⟨d,s⟩:=q
  cases d with
  |loc l=>
   refine((Sn.wd n u.2 l).bind λkvs=>Sn.ite (Sn.cond (decide (kvs.length<lim)) (Out.nx τ,u.2.set l (.dic L (dput kvs u.1 p.1)))) (.no B)).eq ?_;refine congrArg _ (funext λkvs=>?_)
   cases isKey u.1 with
   |true=>rfl
   |false=>rfl
  |_=>exact .no _
 |setA C a f e=>
  refine(h.ev τ st e).bind λp=>(h.ev τ _ a).bind λq=>(Sn.ob n _ _ _).bind λfs=>?_;obtain⟨d,s⟩:=q
  cases d with
  |loc l=>exact Sn.ite (.ys _) (.no _)
  |_=>exact .no _
 |expr e=>exact(h.ev τ st e).map _
 |ret e=>exact(h.ev τ st e).map _
 |ite c a b=>
  show Sn (askT (stepEx r.rl τ st (.ite c a b)) _) _;rw[h.rl];exact Sn.askT ((h.tst τ st c).bind λp=>Sn.ite (h.ex τ _ a) (h.ex τ _ b))
 |forr t it body=>
  show Sn (askS (stepEx r.rl τ st (.forr t it body)) _) _;rw[h.rl];exact Sn.askS ((qlz h τ st it).bind λp=>qek (λτ st d=>(Sn.lf _).bind λτ'=>h.ex τ' st body) _ _ _ _)
 |ford t a body=>
  show Sn (askS (stepEx r.rl τ st (.ford t a body)) _) _;rw[h.rl];exact Sn.askS (.no _)
 |brk=>exact .ys _
 |_=>exact .no _
theorem qvo(τ)(st)(s):Sn (qxl n r τ st s) (stepEx r' τ st s):=by
 show Sn (askT (stepEx r.rl τ st s) _) _;rw[h.rl];exact Sn.askT (qdx h τ st s)
end
def qnj(c):Le (RL c) λm=>runK c m:=
 ⟨λτ st e x h=>by obtain⟨n,e⟩:=lim1_is h; exact⟨n,λm a=>ev_up e a⟩,λτ st e x h=>by obtain⟨n,e⟩:=lim1_is h; exact⟨n,λm a=>qi1 e a⟩,λτ st e x h=>by obtain⟨n,e⟩:=lim1_is h; exact⟨n,λm a=>ex_up e a⟩,λf ds st x h=>⟨0,λm _=>by show(runK c m).call f ds st=_; rw[runK_call]; exact h⟩⟩
def qqx(c)(τ)(st)(e)(x)(h:stepEv (RL c) τ st e=Y x):(RL c).ev τ st e=Y x:=by
 obtain⟨n,hn⟩:=qjl (qnj c) τ st e x h;exact qya (n:=n+1) (λ_ _ _ h k=>ev_up h k) (hn n (Qqw _))
def rl_tst(c)(τ)(st)(e)(x)(h:stepTst (RL c) τ st e=Y x):(RL c).tst τ st e=Y x:=by
 obtain⟨n,hn⟩:=qx1 (qnj c) τ st e x h;exact qya (n:=n+1) (λ_ _ _ h k=>qi1 h k) (hn n (Qqw _))
def rl_ex(c)(τ)(st)(e)(x)(h:exs (stepEx (RL c)) e τ st=Y x):(RL c).ex τ st e=Y x:=by
 obtain⟨n,hn⟩:=qva (qji (qnj c)) e τ st x h;exact qya (n:=n+1) (λ_ _ _ h k=>ex_up h k) (hn n (Qqw _))
theorem qjn(h:∀f ds st,Sn (c f ds st) (c' f ds st)):∀k,SnR (runT n (RL c') c k) (RL c')
 |0=>⟨rfl,λ_ _ _=>.no _,λ_ _ _=>.no _,λ_ _ _=>.no _,h⟩
 |k+1=>⟨rfl,λτ st e=>(qdz (qjn h k) τ st e).up (qqx c' τ st e),λτ st e=>(qbh (qjn h k) τ st e).up (rl_tst c' τ st e),λτ st ss=>(qfx (qvo (qjn h k)) ss τ st).up (rl_ex c' τ st ss),h⟩
theorem qxs:∀(d f:Y0) (ds:Z D) (st:Y1),Sn (qxg fns n b k d f ds st) (callD fns (k+d) f ds st)
 |0,f,ds,st=>.no _
 |d+1,f,ds,st=>by
  unfold qxg
  by_cases a:b.contains f=L
  ·rw[Z9 a];exact .askC _
  ·rw[Z8 a]
   cases hf:fns[f]? with
   |none=>exact .no _
   |some F=>
    dsimp only
    split
    case isFalse=>exact .no _
    rename_i hi;show Sn _ (stepCall fns ?L f ds st);rw[qw5 hf hi];refine Sn.ite (((qjn (λf ds st=>qxs d f ds st) 40).ex _ _ _).bind λp=>?_) (.no _);obtain⟨o,s⟩:=p
    cases o with
    |rt _=>exact .ys _
    |nx _=>exact .ys _
    |bk _=>exact .no _
def qbz(n)(c)(d)(P:Prop->Prop)(t)(b:P (r=r))(h:exsT (qxl n (runT n ?L (qxg fns n c k d) 40)) ss τ st t (λa _=>a=r)=P (r=r):=by kernel_rfl):exs (stepEx ?L) ss τ st=Y r:=by
 rw[<- h]at b;obtain⟨a,g,e,rfl⟩:=qfx (qvo (qjn (λf ds st=>qxs d f ds st) 40)) ss τ st t _ b;exact e
def qpc(n)(b)(d)(P:Prop->Prop)(t)(c:P (r=r))(h:exsT (qxl n (runT n ?L (qxg fns n b k d) 40)) ss τ st t (λa _=>a=r)=P (r=r):=by kernel_rfl):(?L).ex τ st ss=Y r:=rl_ex _ _ _ _ _ (qbz n b d P t c h)
def qpe(n)(c)(d)(P:Prop->Prop)(t)(b:P (r=r))(h:(runT n ?L (qxg fns n c k d) 40).ev τ st e t (λa _=>a=r)=P (r=r):=by kernel_rfl):(?L).ev τ st e=Y r:=by
 rw[<- h]at b;obtain⟨a,g,e,rfl⟩:=(qjn (λf ds st=>qxs d f ds st) 40).ev τ st e t _ b;exact e
def qgm(n)(c)(d)(P:Prop->Prop)(t)(b:P (r=r))(h:(runT n ?L (qxg fns n c k d) 40).tst τ st e t (λa _=>a=r)=P (r=r):=by kernel_rfl):(?L).tst τ st e=Y r:=by
 rw[<- h]at b;obtain⟨a,g,e,rfl⟩:=(qjn (λf ds st=>qxs d f ds st) 40).tst τ st e t _ b;exact e
def qxt(n)(c)(d)(P:Prop->Prop)(t)(b:P (r=r))(h:qxg fns n c k d f ds st t (λa _=>a=r)=P (r=r):=by kernel_rfl):callD fns (k+d) f ds st=Y r:=by
 rw[<- h]at b;obtain⟨a,g,e,rfl⟩:=qxs d f ds st t _ b;exact e
def qve(n)(g)(d)(c)(P:Prop->Prop)(t)(b:P (c=r))(h:qxg fns n g k d f ds st t (λa _=>a=r)=P (c=r):=by kernel_rfl):callD fns (k+d) f ds st=Y r:=by
 rw[<- h]at b;obtain⟨a,i,e,rfl⟩:=qxs d f ds st t _ b;exact e
structure Pt where
 tk:It
 w:Prop->Prop
 h:∀q,q->w q
abbrev ptW:Z Pt->Prop->Prop
 |[],q=>q
 |p::r,q=>p.w (ptW r q)
abbrev ptT:Z Pt->Tp
 |[]=>[]
 |p::r=>p.tk::ptT r
theorem qbt:∀(l:Z Pt){q:Prop},q->ptW l q
 |[],_,z=>z
 |p::r,_,z=>p.h _ (qbt r z)
abbrev pt(t:It){A:Prop}(h:A):Pt:=⟨t,(A/\·),λ_ z=>⟨h,z⟩⟩
class BoolOf {α:Type}(y:α) where
 b:Yb
noncomputable instance {b:Yb}:BoolOf b:=⟨b⟩
noncomputable instance {b:Yb}:BoolOf (Y b):=⟨b⟩
abbrev Kb{α:Type}{x y:α} [c:BoolOf y] (h:x=y):Pt:=pt (.b c.b) h
abbrev Kc{o:Y2 (D×Y1)}{x:D×Y1}(h:o=Y x):Pt:=pt (.c x) h
abbrev Kr{o:Y2 Ya}{x:Ya}(h:o=Y x):Pt:=pt (.r x) h
abbrev Kq{o x:Y2 D}(h:o=x):Pt:=pt (.q x) h
abbrev Ki{o:Y2 D}{x:D}(h:o=Y x):Pt:=pt (.i x) h
abbrev Kl{p:D×Y1}{ds:Z D}{st:Y1}(h:p=(.lst ds,st)):Pt:=pt (.l ds) h
abbrev Ks{o:Y2 (Out×Y1)}{x:Out×Y1}(h:o=Y x):Pt:=pt (.s x) h
abbrev Kt{o:Y2 (Out×Y1)}{x:Out×Y1}(h:o=Y x):Pt:=pt (.t x) h
abbrev Ke{p q:Sl×Y1}(h:p=q):Pt:=pt (.e q) h
abbrev Kg{A:Prop}(h:A):Pt:=pt .g h
abbrev Kn:Pt:=⟨.n,(·),λ_ z=>z⟩
abbrev Kk:Pt:=⟨.k,(·),λ_ z=>z⟩
def exs_tp(n)(b)(d)(l)(h:exsT (qxl n (runT n ?L (qxg fns n b k d) 40)) ss τ st (ptT l) (λa _=>a=r)=ptW l (r=r):=by kernel_rfl):exs (stepEx ?L) ss τ st=Y r:=qbz n b d (ptW l) (ptT l) (qbt l rfl) h
def qzp(n)(b)(d)(l)(h:exsT (qxl n (runT n ?L (qxg fns n b k d) 40)) ss τ st (ptT l) (λa _=>a=r)=ptW l (r=r):=by kernel_rfl):(?L).ex τ st ss=Y r:=qpc n b d (ptW l) (ptT l) (qbt l rfl) h
def qzr(n)(b)(d)(l)(h:(runT n ?L (qxg fns n b k d) 40).ev τ st e (ptT l) (λa _=>a=r)=ptW l (r=r):=by kernel_rfl):(?L).ev τ st e=Y r:=qpe n b d (ptW l) (ptT l) (qbt l rfl) h
def qzm(n)(b)(d)(l)(h:(runT n ?L (qxg fns n b k d) 40).tst τ st e (ptT l) (λa _=>a=r)=ptW l (r=r):=by kernel_rfl):(?L).tst τ st e=Y r:=qgm n b d (ptW l) (ptT l) (qbt l rfl) h
def qzz(n)(b)(d)(l)(h:qxg fns n b k d f ds st (ptT l) (λa _=>a=r)=ptW l (r=r):=by kernel_rfl):callD fns (k+d) f ds st=Y r:=qxt n b d (ptW l) (ptT l) (qbt l rfl) h
end M
end
section
namespace MS
open PySem PySem.Spec PyProof.Rows L2
def qjz:fillsNumberSlot (.type "tuple") "mul" = pure false:=
 PySem.fillsNumberSlot_seq F.slot_tuple_mul.lookup ?j F.slot_tuple_rmul.lookup ?j
def qvu:seqRepeat? (.type "tuple")=pure (Y (.builtin "tuple.__mul__")):=by
 unfold seqRepeat?;rw[PySem.seqSlot_of (name:="__mul__") F.slot_tuple_mul.lookup ?j,PySem.seqSlot_of (name:="__rmul__") F.slot_tuple_rmul.lookup ?j]
 rfl
def qkc(a)(t)(l)(items)(n)(b)(sl):
  Meets (Qs.«int.__rmul__» ⟨[.int a t,.ref l],[]⟩) (λ_ R s=>s.heap.get? l=Y { cls:=.type "tuple",dict:=b,data:=.seq items n,slots:=sl }/\R (.ok (.ret Value.notImplemented)) s):=
 .of_wp λprog w A R s h=>by obtain⟨c,g,d,tk,os⟩:=s; obtain⟨hl,h⟩:=h; wp_walk; exact⟨_,rfl,h⟩
def qkv(l)(items)(n)(b)(sl)(x)(u)(a:¬ (decide (x < -(2 ^ 63))||decide (x >= 2 ^ 63))=L)(e:(items.isEmpty||x==1)=L):
  Meets (Qs.«tuple.__mul__» ⟨[.ref l,.int x u],[]⟩) (λ_ R s=>s.heap.get? l=Y { cls:=.type "tuple",dict:=b,data:=.seq items n,slots:=sl }/\R (.ok (.ret (Value.ref l))) s):=
 .of_wp λprog w A R s h=>by
  obtain⟨c,g,d,tk,os⟩:=s; obtain⟨hl,h⟩:=h
  wp_walk
  simp only[Z8 a]
  wp_walk
  exact⟨_,rfl,h⟩
def qkw(l)(items)(n)(b)(sl)(x)(u)(a:¬ (decide (x < -(2 ^ 63))||decide (x >= 2 ^ 63))=L)(f:¬ (items.isEmpty||x==1)=L)(e:(decide (x<=0)||items.isEmpty)=L):
  Meets (Qs.«tuple.__mul__» ⟨[.ref l,.int x u],[]⟩) (λ_ R s=>s.heap.get? l=Y { cls:=.type "tuple",dict:=b,data:=.seq items n,slots:=sl }/\R (.ok (.ret (Value.ref s.heap.objs.size))) { s with heap:=s.heap.push { cls:=.type "tuple",data:=.seq #[] } }):=
 .of_wp λprog w A R s h=>by
  obtain⟨c,g,d,tk,os⟩:=s; obtain⟨hl,h⟩:=h
  wp_walk
  simp only[Z8 a]
  wp_walk
  exact⟨_,rfl,h⟩
def qky(l)(items)(n)(e)(sl)(x)(u)(c:¬ (decide (x < -(2 ^ 63))||decide (x >= 2 ^ 63))=L)(m:¬ (items.isEmpty||x==1)=L)(k:¬ (decide (x<=0)||items.isEmpty)=L)(b:¬ ((items.size:J)*x > (2 ^ 63 - 1) / 8))(j:¬ Builtin.Tuple.tupleTooMany ((items.size:J)*x)=L)(i:(List.foldl (λa x2=>a++x2) #[] (List.replicate x.toNat items)).size<=sizeLine):
  Meets (Qs.«tuple.__mul__» ⟨[.ref l,.int x u],[]⟩) (λ_ R s=>s.heap.get? l=Y { cls:=.type "tuple",dict:=e,data:=.seq items n,slots:=sl }/\R (.ok (.ret (Value.ref s.heap.objs.size))) { s with heap:=s.heap.push { cls:=.type "tuple",data:=.seq (List.foldl (λa x2=>a++x2) #[] (List.replicate x.toNat items)) } }):=
 .of_wp λprog w A R s h=>by
  obtain⟨f,g,d,tk,os⟩:=s; obtain⟨hl,h⟩:=h
  wp_walk
  simp only[Z8 c]
  wp_walk
  simp only[Z8 b]
  wp_walk
  exact⟨_,rfl,h⟩
abbrev rRepT(K:Qqq):R2:=λx y H Q=>∃l k xs,x=.ref l/\y=.int k/\SqT K H l xs/\-(2 ^ 62)<=k/\k<2 ^ 62/\xs.length*k.toNat<=sizeLine/\
 (∀ys,ys=(List.replicate k.toNat xs).flatten->(ys=xs->Q (.ref l) H)/\∀p,H p=B->Q (.ref p) (upd H p (.tup ys)))
def qoz:OpR X (Q4 .Mult) (rRepT X.K):=by
 intro pins s σ H x y v u Q I D C h;obtain⟨l,k,xs,rfl,rfl,N,k1,k2,p,q⟩:=h;cases D;obtain⟨t,rfl⟩:=C;obtain⟨a,r,P,G⟩:=I.tuple N;obtain⟨⟨cls,d,A,sl⟩,b,hc,n,hd⟩:=id P;simp only at hc hd;subst hc hd;have hl:=r.length;obtain⟨E,o⟩:=q _ rfl;have w:=λm=>by
  have:=foldl_rep a m [];rw[Qja]at this;exact this
 have i:¬ (decide (k < -(2 ^ 63))||decide (k >= 2 ^ 63))=true:=by simp; omega
 refine wpAny_binaryOp_repeat_ref ?c ⟨_,b,rfl⟩ (λs'=>typeIs_int s' k t) qjz F.fills_int_mul F.slot_int_rmul qvu F.slot_int_index.lookup
  (Qr F.slot_int_rmul (typeIs_int s k t) F.entry_int_rmul (F.args_int_rmul_2 _ _) (qkc k t l a.toArray n d sl) ⟨b,rfl,⟨_,b,rfl⟩,?_⟩)
 by_cases h1:(a.toArray.isEmpty||k==1)=L
 ·refine Qr F.slot_tuple_mul ⟨_,b,rfl⟩ F.entry_tuple_mul (F.args_tuple_mul_2 _ _) (qkv l a.toArray n d sl k t i h1) ⟨b,⟨.ref l,H,I,rfl,E ?_⟩⟩;rw[Qxt]at h1;rcases h1 with z|z
  ·have j:a=[]:=by simpa using z
   have R:=Qzs.mp (by rw[hl,j]; rfl);rw[R];simp
  ·have j:k=1:=by simpa using z
   rw[j];simp
 ·have g:a≠[]:=λz=>h1 (by rw[z]; rfl)
  by_cases h2:(decide (k<=0)||a.toArray.isEmpty)=L
  ·refine Qr F.slot_tuple_mul ⟨_,b,rfl⟩ F.entry_tuple_mul (F.args_tuple_mul_2 _ _) (qkw l a.toArray n d sl k t i h1 h2) ⟨b,?_⟩;have hk:k<=0:=by
    rw[Qxt]at h2;rcases h2 with z|z
    ·simpa using z
    ·exact absurd (by simpa using z) g
   have S:k.toNat=0:=by omega
   refine⟨.ref _,_,I.laid (λ_ _ e=>Qqx _ e) (Qqw _) ?_,rfl,o _ I.fresh⟩;rw[S];exact⟨Qzg _,[],.nil,IsTup.new s.heap _⟩
  ·have hk:0<k:=by
    simp at h2; omega
   have c:((a.toArray.size:Y0):J)*k=((a.length*k.toNat:Y0):J):=by
    rw[Qqe,Int.natCast_mul]
    congr 1
    omega
   have f:a.length*k.toNat<=sizeLine:=by rw[<- hl]; exact p
   have K:(sizeLine:Y0)<2 ^ 60:=by rw[Q2]; decide
   refine Qr F.slot_tuple_mul ⟨_,b,rfl⟩ F.entry_tuple_mul (F.args_tuple_mul_2 _ _) (qky l a.toArray n d sl k t i h1 h2 ?_ ?_ ?_) ⟨b,?_⟩
   ·rw[c]; omega
   ·unfold Builtin.Tuple.tupleTooMany;rw[c,decide_eq_true_eq];omega
   ·rw[w,Qqe,len_rep,Nat.mul_comm]; exact f
   ·refine⟨.ref _,_,I.laid (λ_ _ e=>Qqx _ e) (Qqw _) ?_,rfl,o _ I.fresh⟩;rw[w];exact⟨by rw[len_rep,Nat.mul_comm]; exact p,_,r.rep k.toNat,IsTup.new s.heap _⟩
section
def qq6(c:IsTup s.heap t items)(hs:s.heap.IsSliceOf sl vl i .none)(pl:IsPart vl a)(pu:IsPart i d)(j:HT.sIx items.size 0 a=0/\HT.sIx items.size items.size d=items.size)(h:Q (.ref t) s):wpAny ?A A (Zv (.ref t) (.ref sl)) Q E s:=by
 obtain⟨os,e,f,k⟩:=id hs;have g:s.TypeIs (.ref sl) "slice":=⟨os,e,f⟩
 unfold Zv
 try with_reducible refine Qt ?_
 first|refine Qq (Qx ?_)|skip
 refine Qq (wpAny_sequenceKey c.typeIs ?c ?_)
 refine Qq (Qb c.typeIs PyProof.Rows.slot_tuple_getitem
  (Qd PyProof.Rows.slot_tuple_getitem c.typeIs entry_tuple_getitem ?_ (args_tuple_getitem _ _)))
 show wpAny _ _ (Builtin.Tuple.tupleItemsOf (.ref t) >>= _) _ _ s;refine Qq (tupleItemsOf_ c ?_);refine Qq (Ze g ?_);rw[Z9 ?c];refine Qq (HT.sliceApplied_gen hs pl pu ?_);have b:(((HT.sIx items.size 0 a:Y0):J)==0&&(1:J)==1&&(HT.sIx items.size items.size d - HT.sIx items.size 0 a)==items.size)=true:=by
  rw[j.1,j.2];simp
 show wpAny _ _ (if (((HT.sIx items.size 0 a:Y0):J)==0&&(1:J)==1&&(HT.sIx items.size items.size d - HT.sIx items.size 0 a)==items.size)=L then _ else _) _ _ s;rw[Z9 b];refine Qq ?_;unfold Builtin.Tuple.tupleIsExact;refine Qq (Ze c.typeIs (Qx ?_));rw[Z9 ?c]
 first
  |exact Qq (Q9 (Qx ⟨_,rfl,Qx h⟩))
  |exact Qq (Q9 (Qq (Qx (Qx ⟨_,rfl,Qx h⟩))))
  |exact Qq (Qq (Q9 (Qx (Qx ⟨_,rfl,Qx h⟩))))
end
end MS
end
section
namespace MS
open PySem PySem.Spec PyProof.Rows L2
open M (D Ya Y1 Sl)
def nn{α:Type}{a:α}{P:Prop}(h:B=Y a):P:=by cases h
def SqF(K:Qqq)(H:Hp)(a:Y5)(xs:Z V):Prop:=
 (∃o,H a=Y (.frz o (.lst xs)))\/∃(o:Obj) (its:Array Y7) (n:Y0),K.lookup a=Y o/\o.cls=.type "list"/\o.dict=B/\o.data=.seq its n/\its.size<=sizeLine/\Vals xs its.toList
mutual
noncomputable def IsD(K:Qqq)(m:Z Y5)(H:Hp):D->V->Prop
 |.non,v=>v=.non
 |.bl b,v=>v=.bl b
 |.int i,v=>v=.int i
 |.str s,v=>v=.str s
 |.tup ds,v=>∃a xs,v=.ref a/\SqT K H a xs/\IsDs K m H ds xs
 |.lst ds,v=>∃a xs,v=.ref a/\SqF K H a xs/\IsDs K m H ds xs
 |.loc l,v=>∃a,m[l]?=Y a/\v=.ref a
noncomputable def IsDs(K:Qqq)(m:Z Y5)(H:Hp):Z D->Z V->Prop
 |[],xs=>xs=[]
 |d::ds,xs=>∃x r,xs=x::r/\IsD K m H d x/\IsDs K m H ds r
end
def Sub(m m':Z Y5):Prop:=∀(l:Y0) (a:Y5),m[l]?=Y a->m'[l]?=Y a
abbrev Sq:HO->Prop
 |.lst _=>True
 |.tup _=>True
 |_=>False
structure Tr (H H':Hp):Prop where
 tup:∀b xs,H b=Y (.tup xs)->H' b=Y (.tup xs)
 frz:∀b o u,H b=Y (.frz o u)->H' b=Y (.frz o u)
structure Tw (H H':Hp):Prop where
 tup:∀b xs,H b=Y (.tup xs)->H' b=Y (.tup xs)
 frz:∀b o u,Sq u->H b=Y (.frz o u)->H' b=Y (.frz o u)
def Tr.w(t:Tr H H'):Tw H H':=⟨t.tup,λb o u _=>t.frz b o u⟩
def Sub.refl(m):Sub m m:=λ_ _ h=>h
def Sub.trans(a:Sub m c)(b:Sub c m2):Sub m m2:=λl x h=>b l x (a l x h)
def Sub.app(m r):Sub m (m++r):=λl a h=>by
 rw[Qq9 (Qqk.mp h).1]; exact h
def Tr.refl(H):Tr H H:=⟨λ_ _ h=>h,λ_ _ _ h=>h⟩
def Tr.trans(a:Tr H d)(b:Tr d H2):Tr H H2:=⟨λc xs h=>b.tup c xs (a.tup c xs h),λc o u h=>b.frz c o u (a.frz c o u h)⟩
def Tr.of_same(h:Same H H'):Tr H H':=⟨λb xs e=>h b _ e,λb o u e=>h b _ e⟩
def qza(a:H p=B):Same H (upd H p o):=λb u e=>by
 rw[qzq (qzg e a)]; exact e
def Tr.put(a:H p=Y (.lst xs)):Tr H (upd H p (.lst ys)):=
 ⟨λb zs e=>by rw[qzq (qzs e a ?i)]; exact e,λb o u e=>by rw[qzq (qzs e a ?i)]; exact e⟩
def Tw.sqT{K:Qqq}(t:Tw H H')(h:SqT K H a xs):SqT K H' a xs:=by
 rcases h with (h|⟨o,h⟩)|h
 ·exact .inl (.inl (t.tup _ _ h))
 ·exact .inl (.inr ⟨o,t.frz _ _ _ trivial h⟩)
 ·exact .inr h
def SqF.sq{K:Qqq}(h:SqF K H a xs):SqL K H a xs:=by
 rcases h with h|h
 ·exact .inl (.inr h)
 ·exact .inr h
def Tw.sqF{K:Qqq}(t:Tw H H')(h:SqF K H a xs):SqF K H' a xs:=by
 rcases h with⟨o,h⟩|h
 ·exact .inl ⟨o,t.frz _ _ _ trivial h⟩
 ·exact .inr h
theorem Tr.sqT{K:Qqq}(t:Tr H H')(h:SqT K H a xs):SqT K H' a xs:=t.w.sqT h
theorem Tr.sqF{K:Qqq}(t:Tr H H')(h:SqF K H a xs):SqF K H' a xs:=t.w.sqF h
section
variable {K:Qqq}{m m':Z Y5}{H H':Hp}
mutual
theorem qz7(hs:Sub m m')(b:Tw H H'):∀(d:D) (v:V),IsD K m H d v->IsD K m' H' d v
 |.non,_,h=>h
 |.bl _,_,h=>h
 |.int _,_,h=>h
 |.str _,_,h=>h
 |.tup ds,_,h=>by
  unfold IsD at h ⊢;obtain⟨a,xs,e,q,r⟩:=h;exact⟨a,xs,e,b.sqT q,qz0 hs b ds xs r⟩
 |.lst ds,_,h=>by
  unfold IsD at h ⊢;obtain⟨a,xs,e,q,r⟩:=h;exact⟨a,xs,e,b.sqF q,qz0 hs b ds xs r⟩
 |.loc l,_,h=>by
  unfold IsD at h ⊢;obtain⟨a,e,q⟩:=h;exact⟨a,hs l a e,q⟩
theorem qz0(hs:Sub m m')(a:Tw H H'):∀(ds:Z D) (xs:Z V),IsDs K m H ds xs->IsDs K m' H' ds xs
 |[],_,h=>h
 |d::ds,_,h=>by
  unfold IsDs at h ⊢;obtain⟨x,r,e,q,t⟩:=h;exact⟨x,r,e,qz7 hs a d x q,qz0 hs a ds r t⟩
end
def qzb(hs:Sub m m')(a:Tr H H')(d)(v)(h:IsD K m H d v):IsD K m' H' d v:=qz7 hs a.w d v h
def qzc(hs:Sub m m')(a:Tr H H')(ds)(xs)(h:IsDs K m H ds xs):IsDs K m' H' ds xs:=qz0 hs a.w ds xs h
theorem IsD.int(h:IsD K m H (.int i) v):v=.int i:=by unfold IsD at h; exact h
theorem IsD.bl(h:IsD K m H (.bl i) v):v=.bl i:=by unfold IsD at h; exact h
theorem IsD.str(h:IsD K m H (.str i) v):v=.str i:=by unfold IsD at h; exact h
theorem IsD.non(h:IsD K m H .non v):v=.non:=by unfold IsD at h; exact h
theorem IsD.tup(h:IsD K m H (.tup ds) v):∃a xs,v=.ref a/\SqT K H a xs/\IsDs K m H ds xs:=by unfold IsD at h; exact h
theorem IsD.lst(h:IsD K m H (.lst ds) v):∃a xs,v=.ref a/\SqF K H a xs/\IsDs K m H ds xs:=by unfold IsD at h; exact h
theorem IsD.loc(h:IsD K m H (.loc l) v):∃a,m[l]?=Y a/\v=.ref a:=by unfold IsD at h; exact h
def mkInt(i):IsD K m H (.int i) (.int i):=by unfold IsD; rfl
def mkBl(i):IsD K m H (.bl i) (.bl i):=by unfold IsD; rfl
def mkStr(i):IsD K m H (.str i) (.str i):=by unfold IsD; rfl
def qvj:IsD K m H .non .non:=by unfold IsD; rfl
def qq2(h:SqT K H a xs)(q:IsDs K m H ds xs):IsD K m H (.tup ds) (.ref a):=by unfold IsD; exact⟨a,xs,rfl,h,q⟩
def qb4(h:SqF K H a xs)(q:IsDs K m H ds xs):IsD K m H (.lst ds) (.ref a):=by unfold IsD; exact⟨a,xs,rfl,h,q⟩
def qh3(h:m[l]?=Y a):IsD K m H (.loc l) (.ref a):=by unfold IsD; exact⟨a,h,rfl⟩
def IsDs.nil(h:IsDs K m H [] xs):xs=[]:=by unfold IsDs at h; exact h
def IsDs.cons(h:IsDs K m H (d::ds) xs):∃x r,xs=x::r/\IsD K m H d x/\IsDs K m H ds r:=by unfold IsDs at h; exact h
def qqk:IsDs K m H [] []:=by unfold IsDs; rfl
def qzn(h:IsD K m H d x)(t:IsDs K m H ds r):IsDs K m H (d::ds) (x::r):=by unfold IsDs; exact⟨x,r,rfl,h,t⟩
def IsDs.one(h:IsDs K m H [d] xs):∃x,xs=[x]/\IsD K m H d x:=by
 obtain⟨x,r,rfl,q,t⟩:=h.cons;rw[t.nil];exact⟨x,rfl,q⟩
def IsDs.two(h:IsDs K m H [d,e] xs):∃x y,xs=[x,y]/\IsD K m H d x/\IsD K m H e y:=by
 obtain⟨x,r,rfl,q,t⟩:=h.cons;obtain⟨y,rfl,a⟩:=t.one;exact⟨x,y,rfl,q,a⟩
theorem IsDs.length:∀{ds}{xs},IsDs K m H ds xs->ds.length=xs.length
 |[],_,h=>by rw[h.nil]; rfl
 |_::_,_,h=>by
  obtain⟨x,r,rfl,_,t⟩:=h.cons;rw[Qqm,Qqm,t.length]
theorem IsDs.get:∀{ds:Z D}{xs:Z V}{i:Y0}{d:D},IsDs K m H ds xs->ds[i]?=Y d->∃x,xs[i]?=Y x/\IsD K m H d x
 |[],_,_,_,_,e=>by simp at e
 |d::ds,_,0,d',h,e=>by
  obtain⟨x,r,rfl,q,_⟩:=h.cons;have c:d=d':=by simpa using e
  subst c;exact⟨x,rfl,q⟩
 |d::ds,_,i+1,d',h,e=>by
  obtain⟨x,r,rfl,_,t⟩:=h.cons;obtain⟨y,b,a⟩:=t.get (by simpa using e);exact⟨y,by simpa using b,a⟩
theorem IsDs.append:∀{ds es}{xs ys},IsDs K m H ds xs->IsDs K m H es ys->IsDs K m H (ds++es) (xs++ys)
 |[],_,_,_,h,q=>by rw[h.nil]; exact q
 |_::_,_,_,_,h,q=>by
  obtain⟨x,r,rfl,a,t⟩:=h.cons;exact qzn a (t.append q)
end
abbrev keyOf:D->Y2 Key
 |.int i=>Y (.inl i)
 |.str z=>Y (.inr z)
 |_=>B
abbrev IsKV(K:Qqq)(m:Z Y5)(H:Hp):Z (D×D)->Z (Key×V)->Prop
 |[],xs=>xs=[]
 |p::r,xs=>∃k v xr,xs=(k,v)::xr/\keyOf p.1=Y k/\IsD K m H p.2 v/\IsKV K m H r xr
theorem qqa{K:Qqq}(hs:Sub m b)(c:Tw H H'):∀(kvs:Z (D×D)) (xs:Z (Key×V)),IsKV K m H kvs xs->IsKV K b H' kvs xs
 |[],_,h=>h
 |p::r,_,⟨k,v,a,e,hk,hv,hr⟩=>⟨k,v,a,e,hk,qz7 hs c _ _ hv,qqa hs c r a hr⟩
def qj3{K:Qqq}(hs:Sub m a)(b:Tr H H')(kvs)(xs)(h:IsKV K m H kvs xs):IsKV K a H' kvs xs:=qqa hs b.w kvs xs h
theorem IsKV.length{K:Qqq}:∀{kvs}{xs},IsKV K m H kvs xs->kvs.length=xs.length
 |[],_,h=>by rw[show _=[] from h]; rfl
 |p::r,_,⟨k,v,a,e,_,_,hr⟩=>by rw[e,Qqm,Qqm,hr.length]
def qfw(ha:keyOf a=Y k)(hb:keyOf b=Y j):M.eqT a b=decide (k=j):=by
 cases a with
 |int i=>
  cases ha
  cases b with
  |int c=>cases hb; rw[M.eqT]; by_cases h:i=c<;>simp[h]
  |str z=>cases hb; simp[M.eqT]
  |_=>exact nn hb
 |str z=>
  cases ha
  cases b with
  |int c=>cases hb; simp[M.eqT]
  |str d=>cases hb; rw[M.eqT]; by_cases h:z=d<;>simp[h]
  |_=>exact nn hb
 |_=>exact nn ha
def qqt(h:M.isKey a=L):∃k,keyOf a=Y k:=by
 cases a with
 |int i=>exact⟨_,rfl⟩
 |str z=>exact⟨_,rfl⟩
 |_=>cases h
def qor{K:Qqq}(h:keyOf a=Y k)(i:IsD K m H a v):v=kV k:=by
 cases a with
 |int b=>cases h; exact i.int
 |str z=>cases h; exact i.str
 |_=>exact nn h
theorem IsKV.get{K:Qqq}(ha:keyOf a=Y j):∀{kvs}{xs},IsKV K m H kvs xs->(M.dget kvs a=B/\valV xs j=B)\/∃d v,M.dget kvs a=Y d/\valV xs j=Y v/\IsD K m H d v
 |[],_,h=>by rw[show _=[] from h]; exact .inl ⟨rfl,rfl⟩
 |p::r,_,⟨k,v,f,e,hk,hv,hr⟩=>by
  subst e;have eq:=qfw hk ha
  by_cases b:k=j
  ·refine .inr ⟨p.2,v,?_,qjq b,hv⟩;rw[Z6 b]at eq;simp[M.dget,eq]
  ·rw[Z7 b]at eq;have c:M.dget (p::r) a=M.dget r a:=by simp[M.dget,eq]
   rw[c,qjx b];exact hr.get ha
theorem IsKV.any{K:Qqq}(ha:keyOf a=Y j):∀{kvs}{xs},IsKV K m H kvs xs->(kvs.any λp=>M.eqT p.1 a)=(xs.any λp=>decide (p.1=j))
 |[],_,h=>by rw[show _=[] from h]; rfl
 |p::r,_,⟨k,v,b,e,hk,hv,hr⟩=>by
  subst e;rw[Qxb,Qxb,qfw hk ha,hr.any ha]
theorem IsKV.repl{K:Qqq}(ha:keyOf a=Y j)(hd:IsD K m H d w):∀{kvs}{xs},IsKV K m H kvs xs->IsKV K m H (kvs.map λp=>if M.eqT p.1 a then(p.1,d) else p) (xs.map λp=>if p.1=j then(p.1,w) else p)
 |[],_,h=>by rw[show _=[] from h]; rfl
 |p::r,_,⟨k,v,c,e,hk,hv,hr⟩=>by
  subst e;have eq:=qfw hk ha;rw[Qqd,Qqd]
  by_cases b:k=j
  ·rw[Z6 b]at eq;rw[Z9 eq,Z9 b];exact⟨k,w,_,rfl,hk,hd,hr.repl ha hd⟩
  ·rw[Z7 b]at eq;rw[Z8 (by rw[eq]; nofun),Z8 b];exact⟨k,v,_,rfl,hk,hv,hr.repl ha hd⟩
theorem IsKV.snoc{K:Qqq}(ha:keyOf a=Y j)(hd:IsD K m H d w):∀{kvs}{xs},IsKV K m H kvs xs->IsKV K m H (kvs++[(a,d)]) (xs++[(j,w)])
 |[],_,h=>by rw[show _=[] from h]; exact⟨j,w,[],rfl,ha,hd,rfl⟩
 |p::r,_,⟨k,v,b,e,hk,hv,hr⟩=>by
  subst e;exact⟨k,v,_,rfl,hk,hv,hr.snoc ha hd⟩
def IsKV.put{K:Qqq}(h:IsKV K m H kvs xs)(ha:keyOf a=Y j)(hd:IsD K m H d w):IsKV K m H (M.dput kvs a d) (putK xs j w):=by
 unfold M.dput putK;rw[h.any ha]
 split
 ·exact h.repl ha hd
 ·exact h.snoc ha hd
theorem IsKV.merge{K:Qqq}:∀{more}{ms}{kvs}{xs},IsKV K m H more ms->IsKV K m H kvs xs->IsKV K m H (more.foldl (λa p=>M.dput a p.1 p.2) kvs) (qkm xs ms)
 |[],_,kvs,xs,h,q=>by rw[show _=[] from h]; exact q
 |p::r,_,kvs,xs,⟨k,v,b,e,hk,hv,hr⟩,q=>by
  subst e;exact hr.merge (q.put hk hv)
abbrev IsFs(K:Qqq)(m:Z Y5)(H:Hp):Z (Y4×D)->Z (Y4×V)->Prop
 |[],ys=>ys=[]
 |p::r,ys=>∃v yr,ys=(p.1,v)::yr/\IsD K m H p.2 v/\IsFs K m H r yr
theorem qxn{K:Qqq}(hs:Sub m b)(c:Tw H H'):∀(fs:Z (Y4×D)) (ys:Z (Y4×V)),IsFs K m H fs ys->IsFs K b H' fs ys
 |[],_,h=>h
 |p::r,_,⟨v,a,e,hv,hr⟩=>⟨v,a,e,qz7 hs c _ _ hv,qxn hs c r a hr⟩
def qen{K:Qqq}(hs:Sub m a)(b:Tr H H')(fs)(ys)(h:IsFs K m H fs ys):IsFs K a H' fs ys:=qxn hs b.w fs ys h
theorem IsFs.length{K:Qqq}:∀{fs}{ys},IsFs K m H fs ys->fs.length=ys.length
 |[],_,h=>by rw[show _=[] from h]; rfl
 |p::r,_,⟨v,a,e,_,hr⟩=>by rw[e,Qqm,Qqm,hr.length]
theorem IsFs.get{K:Qqq}(f):∀{fs}{ys},IsFs K m H fs ys->(fs.lookup f=B/\ys.lookup f=B)\/∃d v,fs.lookup f=Y d/\ys.lookup f=Y v/\IsD K m H d v
 |[],_,h=>by rw[show _=[] from h]; exact .inl ⟨rfl,rfl⟩
 |(g,d)::r,_,⟨v,a,e,hv,hr⟩=>by
  subst e;rw[Qzl,Qzl]
  cases f==g with
  |true=>exact .inr ⟨d,v,rfl,rfl,hv⟩
  |false=>exact hr.get f
theorem IsFs.put{K:Qqq}(hd:IsD K m H d w):∀{fs}{ys},IsFs K m H fs ys->IsFs K m H (M.putA f d fs) (putF f w ys)
 |[],_,h=>by rw[show _=[] from h]; exact⟨w,[],rfl,hd,rfl⟩
 |(g,x)::r,_,⟨v,a,e,hv,hr⟩=>by
  subst e;unfold M.putA putF
  split
  ·exact⟨w,a,rfl,hd,hr⟩
  ·exact⟨v,_,rfl,hv,hr.put hd⟩
abbrev IsC(K:Qqq)(m:Z Y5)(H:Hp):Ya->Y5->Prop
 |.lst L ds,a=>∃xs,H a=Y (.lst xs)/\IsDs K m H ds xs
 |.lst Y6 ds,a=>∃xs,SqF K H a xs/\IsDs K m H ds xs
 |.dic L kvs,a=>∃xs,H a=Y (.dK xs)/\IsKV K m H kvs xs
 |.dic Y6 kvs,a=>∃o xs,H a=Y ?qy/\IsKV K m H kvs xs
 |.obj C fs,a=>∃dx ys,H a=Y (.ins C dx ys)/\IsFs K m H fs ys
abbrev Wr:Ya->Yb
 |.lst w _=>w
 |_=>L
structure Rel (K:Qqq) (m:Z Y5) (st:Y1) (H:Hp):Prop where
 len:m.length=st.length
 nd:∀(l l':Y0) (a:Y5) (c c':Ya),m[l]?=Y a->m[l']?=Y a->st[l]?=Y c->st[l']?=Y c'->Wr c=L->Wr c'=L->l=l'
 cell:∀(l:Y0) (c:Ya) (a:Y5),st[l]?=Y c->m[l]?=Y a->IsC K m H c a
section
variable {K:Qqq}{m:Z Y5}{st:Y1}{H:Hp}
def Rel.addr(h:Rel K m st H){l:Y0}(e:st[l]?=Y c):∃a,m[l]?=Y a:=by
 have hl:=(Qqk.mp e).1;have:=h.len;exact⟨m[l]' ?d,?g⟩
def IsC.wr(h:IsC K m H c a)(w:Wr c=L):∃o,H a=Y o:=by
 cases c with
 |lst b ds=>
  have e:=w;subst e;obtain⟨xs,e,_⟩:=h;exact⟨_,e⟩
 |dic b kvs=>
  cases b with
  |true=>obtain⟨xs,e,_⟩:=h; exact⟨_,e⟩
  |false=>obtain⟨o,xs,e,_⟩:=h; exact⟨_,e⟩
 |obj C fs=>
  obtain⟨dx,ys,e,_⟩:=h;exact⟨_,e⟩
def Rel.list(h:Rel K m st H)(e:M.listAt st l=Y ds)(hv:IsD K m H (.loc l) v):∃a xs,m[l]?=Y a/\v=.ref a/\SqL K H a xs/\IsDs K m H ds xs:=by
 obtain⟨a,ha,rfl⟩:=hv.loc;unfold M.listAt at e
 split at e
 ·rename_i w f q;cases e;have c:=h.cell l _ a q ha
  cases w with
  |true=>
   obtain⟨xs,d,b⟩:=c;exact⟨a,xs,ha,rfl,SqL.of d,b⟩
  |false=>
   obtain⟨xs,d,b⟩:=c;exact⟨a,xs,ha,rfl,d.sq,b⟩
 ·exact nn e
def Rel.seq(h:Rel K m st H)(e:M.seqAt st d=Y ds)(hv:IsD K m H d v):∃a xs,True/\v=.ref a/\SqL K H a xs/\IsDs K m H ds xs:=by
 cases d with
 |loc l=>
  obtain⟨a,xs,_,q⟩:=h.list e hv;exact⟨a,xs,trivial,q⟩
 |lst es=>
  cases e;obtain⟨a,xs,e,q,r⟩:=hv.lst;exact⟨a,xs,trivial,e,q.sq,r⟩
 |_=>exact nn e
def Rel.wlist(h:Rel K m st H)(e:M.wlistAt st l=Y ds)(hv:IsD K m H (.loc l) v):∃a xs,m[l]?=Y a/\v=.ref a/\H a=Y (.lst xs)/\IsDs K m H ds xs/\st[l]?=Y (.lst L ds):=by
 obtain⟨a,ha,rfl⟩:=hv.loc;unfold M.wlistAt at e
 split at e
 ·rename_i d q;cases e;obtain⟨xs,c,b⟩:=h.cell l _ a q ha;exact⟨a,xs,ha,rfl,c,b,q⟩
 ·exact nn e
def qxv(hs:Sub m f)(b:Tw H H')(h:IsC K m H c a)(d:Wr c=L->H' a=H a):IsC K f H' c a:=by
 cases c with
 |lst w ds=>
  cases w with
  |true=>
   obtain⟨xs,e,q⟩:=h;exact⟨xs,(d rfl).trans e,qz0 hs b ds xs q⟩
  |false=>
   obtain⟨xs,e,q⟩:=h;exact⟨xs,b.sqF e,qz0 hs b ds xs q⟩
 |dic w kvs=>
  cases w with
  |true=>
   obtain⟨xs,e,q⟩:=h;exact⟨xs,(d rfl).trans e,qqa hs b kvs xs q⟩
  |false=>
   obtain⟨o,xs,e,q⟩:=h;exact⟨o,xs,(d rfl).trans e,qqa hs b kvs xs q⟩
 |obj C fs=>
  obtain⟨dx,ys,e,q⟩:=h;exact⟨dx,ys,(d rfl).trans e,qxn hs b fs ys q⟩
def qxw(hs:Sub m b)(e:Tr H H')(h:IsC K m H c a)(d:Wr c=L->H' a=H a):IsC K b H' c a:=qxv hs e.w h d
def Rel.dict(h:Rel K m st H)(e:M.dicAt st l=Y kvs)(hv:IsD K m H (.loc l) v):∃a xs,m[l]?=Y a/\v=.ref a/\Rd H a (.dK xs)/\IsKV K m H kvs xs:=by
 obtain⟨a,ha,rfl⟩:=hv.loc;unfold M.dicAt at e
 split at e
 ·rename_i w f q;cases e;have c:=h.cell l _ a q ha
  cases w with
  |true=>
   obtain⟨xs,d,b⟩:=c;exact⟨a,xs,ha,rfl,.inl d,b⟩
  |false=>
   obtain⟨o,xs,d,b⟩:=c;exact⟨a,xs,ha,rfl,.inr ⟨o,d⟩,b⟩
 ·exact nn e
def Rel.wdict(h:Rel K m st H)(e:M.wdicAt st l=Y kvs)(hv:IsD K m H (.loc l) v):∃a xs,m[l]?=Y a/\v=.ref a/\H a=Y (.dK xs)/\IsKV K m H kvs xs/\st[l]?=Y (.dic L kvs):=by
 obtain⟨a,ha,rfl⟩:=hv.loc;unfold M.wdicAt at e
 split at e
 ·rename_i b q;cases e;obtain⟨xs,d,c⟩:=h.cell l _ a q ha;exact⟨a,xs,ha,rfl,d,c,q⟩
 ·exact nn e
def Rel.inst(h:Rel K m st H)(e:M.objAt st C d=Y fs)(hv:IsD K m H d v):∃l a dx ys,d=.loc l/\m[l]?=Y a/\v=.ref a/\H a=Y (.ins C dx ys)/\IsFs K m H fs ys/\st[l]?=Y (.obj C fs):=by
 cases d with
 |loc l=>
  obtain⟨a,ha,rfl⟩:=hv.loc;have e:(match st[l]? with|some (.obj b fs)=>if b=C then Y fs else B|_=>B)=Y fs:=e
  split at e
  ·rename_i b fs' q
   split at e
   ·rename_i c;cases e;subst c;obtain⟨dx,ys,g,f⟩:=h.cell l _ a q ha;exact⟨l,a,dx,ys,rfl,ha,rfl,g,f,q⟩
   ·exact nn e
  ·exact nn e
 |_=>exact nn e
def Rel.same(h:Rel K m st H)(s:Same H H'):Rel K m st H':=
 ⟨h.len,h.nd,λl c a e b=>qxw ?N (Tr.of_same s) (h.cell l c a e b) λw=>by
  obtain⟨xs,q⟩:=(h.cell l c a e b).wr w
  rw[q]; exact s _ _ q⟩
def Rel.newC(h:Rel K m st H)(k:H p=B)(hc:Wr c=L->True)(hd:IsC K (m++[p]) (upd H p o) c p):Rel K (m++[p]) (st++[c]) (upd H p o):=by
 have y:Tr H (upd H p o):=Tr.of_same (qza k);have f:∀(l:Y0) (e:Ya) (a:Y5),(st++[c])[l]?=Y e->(m++[p])[l]?=Y a->(l<st.length/\st[l]?=Y e/\m[l]?=Y a)\/(l=st.length/\e=c/\a=p):=by
  intro l e a g i
  by_cases hl:l<st.length
  ·rw[Qq9 hl]at g;rw[Qq9 (by rw[h.len]; exact hl)]at i;exact .inl ⟨hl,g,i⟩
  ·have r:=(Qqk.mp g).1;rw[Qqr,Qjk]at r;have u:l=st.length:=by lia
   subst u;rw[Qzf (Qqw _)]at g;rw[Qzf (by rw[h.len]; exact Qqw _),h.len]at i;have t:c=e:=by simpa using g
   have s:p=a:=by simpa using i
   exact .inr ⟨rfl,t.symm,s.symm⟩
 refine⟨by simp[h.len],λl q a e v u t s A w x=>?_,λl e a g i=>?_⟩
 ·rcases f l e a s u with⟨h1,d,b⟩|⟨h1,d,b⟩<;>rcases f q v a A t with⟨h2,n,j⟩|⟨h2,n,j⟩
  ·exact h.nd l q a e v b j d n w x
  ·obtain⟨ys,z⟩:=(h.cell l e a d b).wr w;rw[j,k]at z; cases z
  ·obtain⟨ys,z⟩:=(h.cell q v a n j).wr x;rw[b,k]at z; cases z
  ·rw[h1,h2]
 ·rcases f l e a g i with⟨h1,d,b⟩|⟨h1,d,b⟩
  ·refine qxw (Sub.app m [p]) y (h.cell l e a d b) λw=>?_;obtain⟨ys,z⟩:=(h.cell l e a d b).wr w;exact qzq (qzg z k)
  ·rw[d,b];exact hd
def Rel.new(h:Rel K m st H)(a:H p=B)(hd:IsDs K m H ds xs):Rel K (m++[p]) (st++[.lst L ds]) (upd H p (.lst xs)):=
 h.newC a (λ_=>trivial) ⟨xs,qzw,qzc (Sub.app m [p]) (Tr.of_same (qza a)) ds xs hd⟩
def Rel.newD(h:Rel K m st H)(a:H p=B)(hd:IsKV K m H kvs xs):Rel K (m++[p]) (st++[.dic L kvs]) (upd H p (.dK xs)):=
 h.newC a (λ_=>trivial) ⟨xs,qzw,qj3 (Sub.app m [p]) (Tr.of_same (qza a)) kvs xs hd⟩
def Rel.newLoc(h:Rel K m st H):IsD K (m++[p]) H' (.loc st.length) (.ref p):=qh3 (by
 rw[Qzf (by rw[h.len]; exact Qqw _),h.len]; simp)
def Rel.putW(h:Rel K m st H)(e:st[l]?=Y c)(i:Wr c=L)(s:m[l]?=Y a)(u:Tw H (upd H a o))(hd:IsC K m (upd H a o) c' a):
  Rel K m (st.set l c') (upd H a o):=by
 have hl:=(Qqk.mp e).1;have wr:∀(j:Y0) (d:Ya),(st.set l c')[j]?=Y d->(j=l/\d=c')\/(j≠l/\st[j]?=Y d):=by
  intro j d q
  by_cases hj:j=l
  ·subst hj;rw[Qza hl]at q;exact .inl ⟨rfl,(Option.some.inj q).symm⟩
  ·rw[Qq7 (Ne.symm hj)]at q;exact .inr ⟨hj,q⟩
 refine⟨by rw[Qxw]; exact h.len,λj t b d y n k x v w r=>?_,λj d b q g=>?_⟩
 ·rcases wr j d x with⟨f,b1⟩|⟨f,b1⟩<;>rcases wr t y v with⟨p,b2⟩|⟨p,b2⟩
  ·rw[f,p]
  ·subst f; exact h.nd _ _ b _ _ n k e b2 i r
  ·subst p; exact h.nd _ _ b _ _ n k b1 e w i
  ·exact h.nd _ _ b _ _ n k b1 b2 w r
 ·rcases wr j d q with⟨f,b1⟩|⟨f,b1⟩
  ·subst f b1;rw[s]at g; cases g;exact hd
  ·refine qxv ?N u (h.cell j d b b1 g) λw=>qzq λz=>?_;subst z;exact f (h.nd _ _ b _ _ g s b1 e w i)
def Rel.putC(h:Rel K m st H)(e:st[l]?=Y c)(b:Wr c=L)(f:m[l]?=Y a)(d:Tr H (upd H a o))(hd:IsC K m (upd H a o) c' a):
  Rel K m (st.set l c') (upd H a o):=h.putW e b f d.w hd
theorem Rel.put(h:Rel K m st H)(e:st[l]?=Y (.lst L ds))(d:m[l]?=Y a)(c:H a=Y (.lst xs))(hd:IsDs K m H b ys):
  Rel K m (st.set l (.lst L b)) (upd H a (.lst ys)):=
 h.putC e rfl d (Tr.put c) ⟨ys,qzw,qzc ?N (Tr.put c) b ys hd⟩
def Tr.putD(a:H p=Y (.dK xs)):Tr H (upd H p (.dK ys)):=
 ⟨λb zs e=>by rw[qzq (qzs e a ?i)]; exact e,λb o u e=>by rw[qzq (qzs e a ?i)]; exact e⟩
theorem Rel.putD(h:Rel K m st H)(e:st[l]?=Y (.dic L kvs))(d:m[l]?=Y a)(c:H a=Y (.dK xs))(hd:IsKV K m H b ys):
  Rel K m (st.set l (.dic L b)) (upd H a (.dK ys)):=
 h.putC e rfl d (Tr.putD c) ⟨ys,qzw,qj3 ?N (Tr.putD c) b ys hd⟩
end
def Tr.putI(a:H p=Y (.ins C c xs)):Tr H (upd H p (.ins C c ys)):=
 ⟨λb zs e=>by rw[qzq (qzs e a ?i)]; exact e,λb o u e=>by rw[qzq (qzs e a ?i)]; exact e⟩
theorem Rel.putI{K:Qqq}{st:Y1}(h:Rel K m st H)(e:st[l]?=Y (.obj C fs))(d:m[l]?=Y a)(c:H a=Y (.ins C b xs))(hd:IsFs K m H gs ys):
  Rel K m (st.set l (.obj C gs)) (upd H a (.ins C b ys)):=
 h.putC e rfl d (Tr.putI c) ⟨b,ys,qzw,qen ?N (Tr.putI c) gs ys hd⟩
def Rel.newI{K:Qqq}{st:Y1}(h:Rel K m st H)(i:H x=B)(f:H a=B)(d:a≠x):Same H (upd (upd H a (.own x)) x (.ins C a []))/\Rel K (m++[x]) (st++[.obj C []]) (upd (upd H a (.own x)) x (.ins C a [])):=by
 have g:Same H (upd H a (.own x)):=qza f;have c:(upd H a (.own x)) x=none:=by rw[qzq (Ne.symm d)]; exact i
 exact⟨λb u e=>qza c b u (g b u e),(h.same g).newC c (λ_=>trivial) ⟨a,[],qzw,rfl⟩⟩
def Tr.ice(h:H a=Y (.dK xs)):Tr H (upd H a ?qy):=
 ⟨λb zs e=>by rw[qzq (qzs e h ?i)]; exact e,λb o u e=>by rw[qzq (qzs e h ?i)]; exact e⟩
def Tr.thaw(h:H a=Y (.dK xs))(t:Tr (upd H a ?qy) H'):Tr H (upd H' a (.dK ys)):=
 ⟨λb zs e=>by
  have hb:=qzs e h ?i;rw[qzq hb];exact t.tup b zs (by rw[qzq hb]; exact e),λb o u e=>by
  have hb:=qzs e h ?i;rw[qzq hb]
  exact t.frz b o u (by rw[qzq hb]; exact e)⟩
def Tw.thaw(h:H a=Y ?qy):Tw H (upd H a (.dK ys)):=
 ⟨λb zs e=>by rw[qzq (qzs e h ?i)]; exact e,λb o u hs e=>by rw[qzq (qzs e h (by intro z; cases z; exact hs))]; exact e⟩
theorem Rel.ice{K:Qqq}{st:Y1}(h:Rel K m st H)(e:st[l]?=Y (.dic L kvs))(c:m[l]?=Y a)(b:H a=Y (.dK xs))(hd:IsKV K m H kvs xs):
  Rel K m (st.set l (.dic Y6 kvs)) (upd H a ?qy):=
 h.putC e rfl c (Tr.ice b) ⟨o,xs,qzw,qj3 ?N (Tr.ice b) kvs xs hd⟩
theorem Rel.thaw{K:Qqq}{st:Y1}(h:Rel K m st H)(e:st[l]?=Y (.dic Y6 kvs))(c:m[l]?=Y a)(b:H a=Y ?qy):
  Rel K m (st.set l (.dic L kvs)) (upd H a (.dK xs)):=by
 obtain⟨o',ys,d,q⟩:=h.cell l _ a e c;rw[b]at d;cases d;exact h.putW e rfl c (Tw.thaw b) ⟨xs,qzw,qqa ?N (Tw.thaw b) kvs xs q⟩
structure SlotOk (K:Qqq) (m:Z Y5) (H:Hp) (τ:Sl) (σ:L2.St):Prop where
 len:τ.length=σ.length
 at_:∀(i:Y0) (d:D),τ[i]?=Y (Y d)->∃v,σ[i]?=Y (Y v)/\IsD K m H d v
def SlotOk.monoW{K:Qqq}(h:SlotOk K m H τ σ)(s:Sub m c)(t:Tw H H'):SlotOk K c H' τ σ:=
 ⟨h.len,λi d e=>let ⟨v,a,b⟩:=h.at_ i d e; ⟨v,a,qz7 s t d v b⟩⟩
def SlotOk.mono{K:Qqq}(h:SlotOk K m H τ σ)(s:Sub m c)(t:Tr H H'):SlotOk K c H' τ σ:=
 ⟨h.len,λi d e=>let ⟨v,a,b⟩:=h.at_ i d e; ⟨v,a,qzb s t d v b⟩⟩
def SlotOk.put{K:Qqq}(h:SlotOk K m H τ b)(q:IsD K m H d v):SlotOk K m H (τ.set i (Y d)) (b.set i (Y v)):=by
 refine⟨by rw[Qxw,Qxw]; exact h.len,λj e a=>?_⟩
 by_cases hj:i=j
 ·subst hj;have hi:i<τ.length:=by
   have:=(Qqk.mp a).1;rwa [Qxw]at this
  rw[Qza hi]at a;cases a;exact⟨v,Qza (by rw[<- h.len]; exact hi),q⟩
 ·rw[Qq7 hj]at a ⊢;exact h.at_ j e a
def Post(K:Qqq)(m:Z Y5)(H:Hp)(d:D)(st':Y1)(Q:VK):Prop:=∀v m' H',Sub m m'->Tr H H'->Rel K m' st' H'->IsD K m' H' d v->Q v H'
def PostB(K:Qqq)(m:Z Y5)(H:Hp)(b:Yb)(st':Y1)(Q:Yb->Hp->Prop):Prop:=∀m' H',Sub m m'->Tr H H'->Rel K m' st' H'->Q b H'
def PostL(K:Qqq)(m:Z Y5)(H:Hp)(ds:Z D)(st':Y1)(Q:Z V->Hp->Prop):Prop:=∀vs m' H',Sub m m'->Tr H H'->Rel K m' st' H'->IsDs K m' H' ds vs->Q vs H'
def Post.mono{K:Qqq}(p:Post K m H d st' Q)(s:Sub m a)(t:Tr H b):Post K a b d st' Q:=
 λv m' H' s' c r i=>p v m' H' (s.trans s') (t.trans c) r i
def Post.here{K:Qqq}(p:Post K m H d st' Q)(r:Rel K m st' H)(i:IsD K m H d v):Q v H:=p v m H ?N (Tr.refl H) r i
abbrev tD(K:Qqq)(f:Sl->Y1->Y2 (D×Y1)):TE:=λσ H Q=>∃m st τ d st',Rel K m st H/\SlotOk K m H τ σ/\f τ st=Y (d,st')/\Post K m H d st' Q
abbrev tTs(K:Qqq)(f:Sl->Y1->Y2 (Yb×Y1)):TT:=λσ H Q=>∃m st τ d st',Rel K m st H/\SlotOk K m H τ σ/\f τ st=Y (d,st')/\PostB K m H d st' Q
abbrev tL(K:Qqq)(f:Sl->Y1->Y2 (Z D×Y1)):TA:=λσ H Q=>∃m st τ d st',Rel K m st H/\SlotOk K m H τ σ/\f τ st=Y (d,st')/\PostL K m H d st' Q
abbrev rD(K:Qqq)(g:Y1->D->D->Y2 (D×Y1)):R2:=λx y H Q=>∃m st a b d st',Rel K m st H/\IsD K m H a x/\IsD K m H b y/\g st a b=Y (d,st')/\Post K m H d st' Q
def rC(K:Qqq)(g:Y1->Z D->Y2 (D×Y1)):Z V->Hp->VK->Prop:=λxs H Q=>∃m st ds d st',Rel K m st H/\IsDs K m H ds xs/\g st ds=Y (d,st')/\Post K m H d st' Q
def rU1(K:Qqq)(g:Y1->D->Y2 (D×Y1)):V->Hp->VK->Prop:=λx H Q=>∃m st a d st',Rel K m st H/\IsD K m H a x/\g st a=Y (d,st')/\Post K m H d st' Q
def Post.of{K:Qqq}(q:Post K m H d s Q)(e:Y (d',a)=Y (d,s)):Post K m H d' a Q:=by cases e; exact q
def PostB.of{K:Qqq}(q:PostB K m H d s Q)(e:Y (d',a)=Y (d,s)):PostB K m H d' a Q:=by cases e; exact q
def PostL.of{K:Qqq}(q:PostL K m H d s Q)(e:Y (d',a)=Y (d,s)):PostL K m H d' a Q:=by cases e; exact q
def rsI{α:Type}{K:Qqq}{f:Sl->Y1->Y2 (α×Y1)}{W:Z Y5->α->Y1->Prop}{st:Y1}{d:α}(R:Rel K m st H)(S:SlotOk K m H τ a)(e:f τ st=Y (d,st'))(w:W m d st'):∃m st τ d st',Rel K m st H/\SlotOk K m H τ a/\f τ st=Y (d,st')/\W m d st':=⟨m,st,τ,d,st',R,S,e,w⟩
def tD.el{K:Qqq}{P:Prop}(h:tD K f g H Q)(k:∀m st τ d st',Rel K m st H->SlotOk K m H τ g->f τ st=Y (d,st')->Post K m H d st' Q->P):P:=by
 rcases h with⟨m,st,τ,d,st',a,b,c,e⟩
 exact k m st τ d st' a b c e
def tTs.el{K:Qqq}{P:Prop}(h:tTs K f a H Q)(k:∀m st τ d st',Rel K m st H->SlotOk K m H τ a->f τ st=Y (d,st')->PostB K m H d st' Q->P):P:=by
 rcases h with⟨m,st,τ,d,st',p0,p1,p2,b⟩
 exact k m st τ d st' p0 p1 p2 b
def tL.el{K:Qqq}{P:Prop}(h:tL K f a H Q)(k:∀m st τ d st',Rel K m st H->SlotOk K m H τ a->f τ st=Y (d,st')->PostL K m H d st' Q->P):P:=by
 rcases h with⟨m,st,τ,d,st',p0,p1,p2,b⟩
 exact k m st τ d st' p0 p1 p2 b
def rD.el{K:Qqq}{P:Prop}(h:rD K f x y H Q)(k:∀m st a b d st',Rel K m st H->IsD K m H a x->IsD K m H b y->f st a b=Y (d,st')->Post K m H d st' Q->P):P:=by
 rcases h with⟨m,st,a,b,d,st',p0,p1,p2,e,c⟩
 exact k m st a b d st' p0 p1 p2 e c
def rC.el{K:Qqq}{P:Prop}(h:rC K f xs H Q)(k:∀m st ds d st',Rel K m st H->IsDs K m H ds xs->f st ds=Y (d,st')->Post K m H d st' Q->P):P:=by
 rcases h with⟨m,st,ds,d,st',p0,p1,p2,a⟩
 exact k m st ds d st' p0 p1 p2 a
def rU1.el{K:Qqq}{P:Prop}(h:rU1 K f x H Q)(k:∀m st a d st',Rel K m st H->IsD K m H a x->f st a=Y (d,st')->Post K m H d st' Q->P):P:=by
 rcases h with⟨m,st,a,d,st',p0,p1,p2,b⟩
 exact k m st a d st' p0 p1 p2 b
def _root_.L2.PE.imp(h:PE X e t)(f:∀σ H Q,t' σ H Q->t σ H Q):PE X e t':=λpins s σ H Q I q=>h pins s σ H Q I (f σ H Q q)
def _root_.L2.PT.imp(h:PT X e t)(f:∀σ H Q,t' σ H Q->t σ H Q):PT X e t':=λpins s σ H Q I q=>h pins s σ H Q I (f σ H Q q)
def _root_.L2.PW.imp(h:PW X e t)(f:∀σ H Q,t' σ H Q->t σ H Q):PW X e t':=λw pins s σ H Q I q=>h w pins s σ H Q I (f σ H Q q)
def _root_.L2.PA.imp(h:PA X e t)(f:∀σ H Q,t' σ H Q->t σ H Q):PA X e t':=λp pins s σ H Q I q=>h p pins s σ H Q I (f σ H Q q)
def _root_.L2.PS.imp(h:PS X e t)(f:∀σ H Q,t' σ H Q->t σ H Q):PS X e t':=λpins s σ H Q I q=>h pins s σ H Q I (f Q σ H q)
def _root_.L2.PSs.imp(h:PSs X e t)(f:∀D σ H,t' D σ H->t D σ H):PSs X e t':=λpins s σ H D I q=>h pins s σ H D I (f D σ H q)
def qzk{α:Type}{g:D×Y1->Y2 α}{r:α}{P:Prop}(e:f.bind g=Y r)(k:∀d st,f=Y (d,st)->g (d,st)=Y r->P):P:=by
 cases f with
 |none=>exact nn e
 |some p=>exact k p.1 p.2 rfl e
def qzd{α a:Type}{f:Y2 α}{g:α->a}{r:a}{P:Prop}(e:f.map g=Y r)(k:∀d,f=Y d->g d=r->P):P:=by
 cases f with
 |none=>exact nn e
 |some p=>exact k p rfl (Option.some.inj e)
def qzx{α a:Type}{f:Y2 α}{g:α->Y2 a}{r:a}{P:Prop}(e:f.bind g=Y r)(k:∀d,f=Y d->g d=Y r->P):P:=by
 cases f with
 |none=>exact nn e
 |some p=>exact k p rfl e
def orO{α:Type}{a b:Y2 α}{r:α}(h:a.or b=Y r):a=Y r\/b=Y r:=by
 cases a with
 |none=>exact .inr h
 |some x=>exact .inl h
def mapD{α a:Type}{f:Y2 α}{g:α->a}{r:a}(e:f.map g=Y r):∃d,f=Y d/\g d=r:=by
 cases f with
 |none=>exact nn e
 |some p=>exact⟨p,rfl,Option.some.inj e⟩
section
variable {K:Qqq}
def qc5(h:tD K (λτ st=>(i τ st).bind λp=>(f τ p.2).bind λq=>g q.2 p.1 q.1) a H Q):tOp (rD K g) (tD K i) (tD K f) a H Q:=by
 exact h.el λm st τ d st' r S0 e q=>qzk e λd1 s n e=>qzk e λd2 j l e=>rsI r S0 n λx m1 H1 b1 c o i1=>rsI o (S0.mono b1 c) l λy k H2 b2 b R2 i2=>
  ⟨k,j,d1,d2,d,st',R2,qzb b2 b _ _ i1,i2,e,q.mono ?qs (c.trans b)⟩
def tD_un(h:tD K (λτ st=>(b τ st).bind λp=>g p.2 p.1) a H Q):tUn (rU1 K g) (tD K b) a H Q:=by
 exact h.el λm st τ d st' k S0 e q=>qzk e λd1 f i e=>rsI k S0 i λx m1 H1 b1 c j i1=>⟨m1,f,d1,d,st',j,i1,e,q.mono b1 c⟩
def qmn(h:tL K (λτ st=>(f τ st).bind λp=>(fr τ p.2).bind λq=>Y (p.1::q.1,q.2)) a H Q):qmo (tD K f) (tL K fr) a H Q:=by
 refine h.el λm st τ d st' l S0 e q=>qzk e λd1 n j e=>qzx e λp i e=>?_;have q:=q.of e;exact rsI l S0 j λx m1 H1 b1 c k i1=>rsI k (S0.mono b1 c) i λxs g H2 b2 b R2 i2=>
  q _ g H2 ?qs (c.trans b) R2 (qzn (qzb b2 b _ _ i1) i2)
def tL_nil(h:tL K (λ_ st=>Y ([],st)) a H Q):tNil a H Q:=by
 refine h.el λm st τ d st' b S0 e q=>?_;have q:=q.of e;exact q [] m H ?N (Tr.refl H) b qqk
def qqc(h:tD K (λτ st=>(b τ st).bind λp=>g p.2 p.1) a H Q):tCB (rC K g) (tL K b) a H Q:=by
 exact h.el λm st τ d st' j S0 e q=>qzx e λp f e=>rsI j S0 f λxs m1 H1 b1 c i i1=>⟨m1,p.2,p.1,d,st',i,i1,e,q.mono b1 c⟩
end
end MS
end
section
namespace MS
open PySem PySem.Spec PyProof.Rows L2
open M (D Ya Y1 Sl)
abbrev Hd:HO->Prop
 |.tup _=>False
 |.own _=>False
 |.tbl _=>False
 |.frz _ u=>¬ Sq u
 |_=>True
def HidS(A:Y5->Prop)(H:Hp)(b:Y5):Prop:=A b\/∃a,A a/\H b=Y (.own a)
open Classical in
abbrev hid(A:Y5->Prop)(H:Hp):Hp:=λb=>if HidS A H b then B else H b
open Classical in
abbrev bak(A:Y5->Prop)(H H':Hp):Hp:=λb=>if HidS A H b then H b else H' b
section
def qiz(h:hid A H b=Y o):¬ HidS A H b/\H b=Y o:=by
 unfold hid at h
 split at h
 ·cases h
 ·rename_i z; exact⟨z,h⟩
def qxa(h:H b=B):hid A H b=none:=by
 unfold hid
 split
 ·rfl
 ·exact h
def qlt(h:HidS A H b):hid A H b=none:=Z9 h
def qq0(h:¬ HidS A H b):hid A H b=H b:=Z8 h
def qk2(h:HidS A H b):bak A H H' b=H b:=Z9 h
def qqe(h:¬ HidS A H b):bak A H H' b=H' b:=Z8 h
end
section
variable {A:Y5->Prop}{H:Hp}(hA:∀a,A a->∃o,H a=Y o/\Hd o)
include hA
theorem qoy(e:H b=Y o)(n:¬ Hd o)(no:∀a,o≠.own a):¬ HidS A H b:=by
 rintro (z|⟨a,_,z⟩)
 ·obtain⟨o',c,d⟩:=hA b z;rw[e]at c; cases c;exact n d
 ·rw[e]at z; cases z;exact no a rfl
theorem qwc(h:HidS A H b):∃o,H b=Y o:=by
 rcases h with z|⟨a,_,z⟩
 ·obtain⟨o,e,_⟩:=hA b z; exact⟨o,e⟩
 ·exact⟨_,z⟩
theorem qj8(e:H b=Y (.tup xs)):¬ HidS A H b:=qoy hA e (λz=>z) (λ_=>nofun)
theorem qpz(e:H b=Y (.own a)):HidS A H b->A a:=by
 rintro (z|⟨f,h,z⟩)
 ·obtain⟨o',c,d⟩:=hA b z;rw[e]at c; cases c;exact d.elim
 ·rw[e]at z; cases z; exact h
section
variable {P:Program}{w:Qj}{K:Qqq}{mg:Y4->Y2 Y7}{base:Heap}{Bq:Qk}{outer:Z Env}{s s':Qz}
theorem Env0.hid(e:Env0 P w K mg base Bq outer s H):Env0 P w K mg base Bq outer s (hid A H):=
 ⟨e.frames,e.mod,λb o q=>⟨(e.bs b o q).1,qxa (e.bs b o q).2⟩,e.bsz,e.funs,λb q=>qxa (e.frf b q),λa o q=>by
  obtain⟨n,q⟩:=qiz q
  exact(e.hok a o q).stay (λ_ _ _ z=>z) (λb z=>(qq0 λy=>n (.inl (qpz hA z y))).trans z) (λb xs z=>(qq0 (qj8 hA z)).trans z),e.bare⟩
theorem ObjOk.get(x:ObjOk P w H h a o):∃ob,h.get? a=Y ob:=by
 cases o with
 |lst xs=>obtain⟨_,_,_,_,e⟩:=x; exact⟨_,e⟩
 |tup xs=>obtain⟨_,_,_,_,e,_⟩:=x; exact⟨_,e⟩
 |dK kvs=>obtain⟨_,_,_,_,o,_,_,e,_⟩:=x; exact⟨_,e⟩
 |dT kvs=>obtain⟨_,_,_,_,o,_,_,e,_⟩:=x; exact⟨_,e⟩
 |set S n=>obtain⟨o,_,_,_,e,_⟩:=x; exact⟨_,e⟩
 |ins C dx fs=>obtain⟨_,_,_,e,_⟩:=x; exact⟨_,e⟩
 |own y=>exact x
 |xd fs=>obtain⟨_,⟨_,_,_,e,_⟩,_⟩:=x; exact⟨_,e⟩
 |rng lo hi=>obtain⟨_,_,_,e⟩:=x; exact⟨_,e⟩
 |frz ob u=>obtain⟨e,_⟩:=x; exact⟨_,e⟩
 |tbl ps=>exact⟨_,(show h.get? a=Y _ from x)⟩
 |met f y=>exact⟨_,(show h.get? a=Y _ from x)⟩
 |ext b=>obtain⟨_,e,_⟩:=x; exact e
theorem CE.bak(e:Env0 P w K mg base Bq outer s H)(h:CE outer P w (hid A H) s (λv H'=>(∀b,HidS A H b->H' b=B)->Q v (bak A H H')) u s'):CE outer P w H s Q u s':=by
 obtain⟨v,H',os,bare,un,hok,r,q⟩:=h;have c:∀b,HidS A H b->H' b=none:=λb z=>by
  obtain⟨o,i⟩:=qwc hA z;obtain⟨ob,d⟩:=ObjOk.get hA (e.hok b o i);exact un.free b ob d (qlt z) nofun
 have no:∀b o,H' b=Y o->¬ HidS A H b:=λb o z y=>by rw[c b y]at z; cases z
 have tup:∀b xs,H b=Y (.tup xs)->MS.bak A H H' b=Y (.tup xs):=λb xs z=>
  (qqe (qj8 hA z)).trans (un.tups b xs ((qq0 (qj8 hA z)).trans z))
 refine⟨v,MS.bak A H H',os,bare,⟨λb o z n=>un.keep b o z (qxa n),λb o z n=>un.slot b o z (qxa n),λb o z n f=>?_,un.there,tup,λb o u z=>?_,λb ps z=>?_⟩,λa o z=>?_,r,q c⟩
 ·by_cases y:HidS A H b
  ·exact(qk2 y).trans n
  ·exact(qqe y).trans (un.free b o z (qxa n) f)
 ·by_cases y:HidS A H b
  ·exact(qk2 y).trans z
  ·exact(qqe y).trans (un.frzs b o u ((qq0 y).trans z))
 ·have y:¬ HidS A H b:=qoy hA z (λz=>z) (λ_=>nofun);obtain⟨m,j⟩:=un.tbls b ps ((qq0 y).trans z);exact⟨m,(qqe y).trans j⟩
 ·by_cases y:HidS A H a
  ·rw[qk2 y]at z;rcases y with y|⟨k,_,y⟩
   ·refine(e.hok a o z).stay (λb u hb g=>?_) (λb g=>(qk2 (.inr ⟨a,y,g⟩)).trans g) tup;have hb:HidS A H b:=by
     rcases hb with rfl|hb
     ·exact .inl y
     ·exact .inr ⟨a,y,hb⟩
    refine un.keep b u g (qlt hb) (λhf=>?_) nofun
    obtain⟨_,q⟩:=qwc hA hb;rw[e.frf b hf]at q; cases q
   ·rw[z]at y; cases y;obtain⟨ob,d⟩:=ObjOk.get hA (e.hok a _ z);exact un.there a ob d nofun
  ·rw[qqe y]at z;exact(hok a o z).stay (λ_ _ _ z=>z) (λb z=>(qqe (no b _ z)).trans z) (λb xs z=>(qqe (no b _ z)).trans z)
end
end
def FnOk.iso{K:Qqq}(F:FnOk P w K mg base CX0 k f l ps g)(h:∀vs H Q E,sp' vs H Q E->g vs H Q E\/∃A,(∀a,A a->∃o,H a=Y o/\Hd o)/\g vs (hid A H) (λv H'=>(∀b,HidS A H b->H' b=B)->Q v (bak A H H')) E):FnOk P w K mg base CX0 k f l ps sp':=
 ⟨λvs H Q E q=>(h vs H Q E q).elim (F.len vs H Q E) λ⟨_,_,q⟩=>F.len vs _ _ E q,λBq outer s H c j vs Q E hr i hb hv hs=>by
  rcases h vs H Q E hs with q|⟨A,hA,q⟩
  ·exact F.run Bq outer s H c j vs Q E hr i hb hv q
  ·refine Q5 (F.run Bq outer s (hid A H) c j vs _ E hr (Env0.hid hA i) hb hv q) λr s' d=>?_
   cases r with
   |error e=>exact d
   |ok m=>
    cases m with
    |ret u=>exact CE.bak hA i d
    |next=>exact d
    |brk=>exact d
    |cont=>exact d⟩
section
variable {K:Qqq}{m:Z Y5}{H:Hp}{N:Y0}
mutual
theorem qa0:∀(d:D) (v:V),IsD K m H (M.mp (· + N) d) v↔IsD K (m.drop N) H d v
 |.non,_=>Iff.rfl
 |.bl _,_=>Iff.rfl
 |.int _,_=>Iff.rfl
 |.str _,_=>Iff.rfl
 |.tup ds,_=>by
  rw[M.mp,IsD,IsD];exact exists_congr λa=>exists_congr λxs=>and_congr_right λ_=>and_congr_right λ_=>qj5 ds xs
 |.lst ds,_=>by
  rw[M.mp,IsD,IsD];exact exists_congr λa=>exists_congr λxs=>and_congr_right λ_=>and_congr_right λ_=>qj5 ds xs
 |.loc l,_=>by
  rw[M.mp,IsD,IsD];exact exists_congr λa=>by rw[Qjb,Nat.add_comm]
theorem qj5:∀(ds:Z D) (xs:Z V),IsDs K m H (M.mps (· + N) ds) xs↔IsDs K (m.drop N) H ds xs
 |[],_=>Iff.rfl
 |d::r,_=>by
  rw[M.mps,IsDs,IsDs];exact exists_congr λx=>exists_congr λxs=>and_congr_right λ_=>and_congr (qa0 d x) (qj5 r xs)
end
theorem qye:∀(kvs:Z (D×D)) (xs:Z (Key×V)),IsKV K m H (kvs.map λp=>(p.1,M.mp (· + N) p.2)) xs↔IsKV K (m.drop N) H kvs xs
 |[],_=>Iff.rfl
 |p::r,_=>exists_congr λk=>exists_congr λv=>exists_congr λa=>and_congr_right λ_=>and_congr_right λ_=>and_congr (qa0 p.2 v) (qye r a)
theorem qem:∀(fs:Z (Y4×D)) (xs:Z (Y4×V)),IsFs K m H (fs.map λp=>(p.1,M.mp (· + N) p.2)) xs↔IsFs K (m.drop N) H fs xs
 |[],_=>Iff.rfl
 |p::r,_=>exists_congr λv=>exists_congr λa=>and_congr_right λ_=>and_congr (qa0 p.2 v) (qem r a)
def qlo(c)(a):IsC K m H (M.mpC (· + N) c) a↔IsC K (m.drop N) H c a:=by
 cases c with
 |lst w ds=>cases w<;>exact exists_congr λxs=>and_congr_right λ_=>qj5 ds xs
 |dic w kvs=>
  cases w with
  |true=>exact exists_congr λxs=>and_congr_right λ_=>qye kvs xs
  |false=>exact exists_congr λo=>exists_congr λxs=>and_congr_right λ_=>qye kvs xs
 |obj C fs=>exact exists_congr λdx=>exists_congr λys=>and_congr_right λ_=>qem fs ys
def qvi(c):Wr (M.mpC (· + N) c)=Wr c:=by cases c<;>rfl
end
def AhS(m:Z Y5)(st:Y1)(N:Y0)(a:Y5):Prop:=∃l c,l<N/\m[l]?=Y a/\st[l]?=Y c/\Wr c=L
def IsC.hd{K:Qqq}(h:IsC K m H c a)(w:Wr c=L):∃o,H a=Y o/\Hd o:=by
 cases c with
 |lst b ds=>
  have e:=w;subst e;obtain⟨xs,e,_⟩:=h;exact⟨_,e,trivial⟩
 |dic b kvs=>
  cases b with
  |true=>obtain⟨xs,e,_⟩:=h; exact⟨_,e,trivial⟩
  |false=>obtain⟨o,xs,e,_⟩:=h; exact⟨_,e,λz=>z⟩
 |obj C fs=>obtain⟨dx,ys,e,_⟩:=h; exact⟨_,e,trivial⟩
section
variable {K:Qqq}{m:Z Y5}{st S:Y1}{H:Hp}{N:Y0}(R:Rel K m st H)(hS:M.up N S=st.drop N)
include R
theorem qit:∀a,AhS m st N a->∃o,H a=Y o/\Hd o:=λa ⟨l,c,_,d,b,w⟩=>(R.cell l c a b d).hd w
theorem qls:Tw H (hid (AhS m st N) H):=
 ⟨λb xs e=>(qq0 (qj8 (qit R) e)).trans e,λb o u h e=>(qq0 (qoy (qit R) e (λz=>z h) (λ_=>nofun))).trans e⟩
include hS
theorem qnw:Rel K (m.drop N) S (hid (AhS m st N) H):=by
 have at_:∀{l:Y0}{c:Ya},S[l]?=Y c->st[N+l]?=Y (M.mpC (· + N) c):=λ{l c} e=>by
  rw[<- Qjb,<- hS,Qqv,e]; rfl
 have g:∀{l:Y0}{a:Y5},(m.drop N)[l]?=Y a->m[N+l]?=Y a:=λ{l a} e=>by rw[<- Qjb]; exact e
 refine⟨?_,λl k a c j f b p n w h=>?_,λl c a f b=>?_⟩
 ·have e:=congrArg List.length hS;rw[Qqz,Qxm]at e;rw[Qxm,R.len,e]
 ·have:=R.nd _ _ a _ _ (g f) (g b) (at_ p) (at_ n) ((qvi c).trans w) ((qvi j).trans h);omega
 ·have q:=R.cell _ _ a (at_ f) (g b);refine qxv (λ_ _ z=>z) (qls R) ((qlo c a).mp q) λw=>qq0 ?_;rintro (⟨k,j,hl,z1,z2,h⟩|⟨r,_,z⟩)
  ·have:=R.nd _ _ a _ _ z1 (g b) z2 (at_ f) h ((qvi c).trans w);omega
  ·obtain⟨o,i,d⟩:=q.hd ((qvi c).trans w);rw[z]at i; cases i;exact d
omit hS in
theorem qhe(W:N<=st.length)(p:Post K m H (M.mp (· + N) d) (st.take N++M.up N S') Q):
  Post K (m.drop N) (hid (AhS m st N) H) d S' λv H'=>(∀b,HidS (AhS m st N) H b->H' b=B)->Q v (bak (AhS m st N) H H'):=λv m1 H1 V t P i k=>by
 have F:(m.take N).length=N:=by rw[Qzy,R.len]; omega
 have hs:(st.take N).length=N:=by rw[Qzy]; omega
 have no:∀b o,H1 b=Y o->¬ HidS (AhS m st N) H b:=λb o z y=>by rw[k b y]at z; cases z
 have up:Tw H1 (bak (AhS m st N) H H1):=⟨λb xs e=>(qqe (no b _ e)).trans e,λb o u _ e=>(qqe (no b _ e)).trans e⟩
 have U:Tr H (bak (AhS m st N) H H1):=⟨λb xs e=>by
  have y:=qj8 (qit (N:=N) R) e;exact(qqe y).trans (t.tup b xs ((qq0 y).trans e)),λb o u e=>by
  by_cases y:HidS (AhS m st N) H b
  ·exact(qk2 y).trans e
  ·exact(qqe y).trans (t.frz b o u ((qq0 y).trans e))⟩
 have dr:(m.take N++m1).drop N=m1:=by
  have z:=List.drop_left (l₁:=m.take N) (l₂:=m1);rw[F]at z;exact z
 have x:Sub m (m.take N++m1):=λl a e=>by
  by_cases hl:l<N
  ·rw[Qq9 ?q,Qx9,Z9 hl]; exact e
  ·rw[Qzf ?q,F];exact V _ a (by rw[Qjb,show N+(l - N)=l by omega]; exact e)
 have E:∀{l:Y0}{c:Ya},(st.take N++M.up N S')[l]?=Y c->(l<N/\st[l]?=Y c)\/(N<=l/\∃h,S'[l - N]?=Y h/\c=M.mpC (· + N) h):=λ{l c} e=>by
  by_cases hl:l<N
  ·rw[Qq9 ?q,Qx9,Z9 hl]at e;exact .inl ⟨hl,e⟩
  ·rw[Qzf ?q,hs,Qqv]at e;refine .inr ⟨?q,?_⟩
   cases hc:S'[l - N]? with
   |none=>rw[hc]at e; cases e
   |some h=>rw[hc]at e; cases e; exact⟨h,rfl,rfl⟩
 have f:∀{l:Y0}{a:Y5},(m.take N++m1)[l]?=Y a->(l<N->m[l]?=Y a)/\(N<=l->m1[l - N]?=Y a):=λ{l a} e=>by
  refine⟨λhl=>?_,λhl=>?_⟩
  ·rw[Qq9 ?q,Qx9,Z9 hl]at e; exact e
  ·rw[Qzf ?q,F]at e; exact e
 have A:∀{l C:Y0}{a:Y5}{c h:Ya},l<N->m[l]?=Y a->st[l]?=Y c->Wr c=L->m1[C - N]?=Y a->S'[C - N]?=Y h->Wr h=L->False:=λ{l C a c h} hl n g w T I s=>by
  obtain⟨o,G⟩:=(P.cell _ _ a I T).wr s;rw[k a (.inl ⟨l,c,hl,n,g,w⟩)]at G; cases G
 refine p v (m.take N++m1) _ x U ⟨?_,λl C a c h n g T I w s=>?_,λl c a n g=>?_⟩ ((qa0 d v).mpr ?_)
 ·rw[Qqr,Qqr,F,hs,Qqz,P.len]
 ·rcases E T with⟨h1,h2⟩|⟨h1,c1,h2,rfl⟩
  ·rcases E I with⟨j,r⟩|⟨j,c2,r,rfl⟩
   ·exact R.nd l C a c h ((f n).1 h1) ((f g).1 j) h2 r w s
   ·exact(A h1 ((f n).1 h1) h2 w ((f g).2 j) r ((qvi c2).symm.trans s)).elim
  ·rcases E I with⟨j,r⟩|⟨j,c2,r,rfl⟩
   ·exact(A j ((f g).1 j) r s ((f n).2 h1) h2 ((qvi c1).symm.trans w)).elim
   ·have:=P.nd _ _ a c1 c2 ((f n).2 h1) ((f g).2 j) h2 r ((qvi c1).symm.trans w) ((qvi c2).symm.trans s);omega
 ·rcases E n with⟨h1,h2⟩|⟨h1,c1,h2,rfl⟩
  ·exact qxw x U (R.cell l c a h2 ((f g).1 h1)) λw=>qk2 (.inl ⟨l,c,h1,(f g).1 h1,h2,w⟩)
  ·refine(qlo c1 a).mpr ?_;rw[dr];have q:=P.cell _ c1 a h2 ((f g).2 h1);exact qxv (λ_ _ z=>z) up q λw=>by
    obtain⟨o,G⟩:=q.wr w;exact qqe (no a o G)
 ·rw[dr];exact qz7 (λ_ _ z=>z) up d v i
end
end MS
end
section
namespace MS
open PySem PySem.Spec PyProof.Rows L2
open M (D Ya Y1 Sl)
section
variable {X:Cx}
def qqy:(sizeLine:Y0)=M.lim:=Q2
def qd3:OpR X (Q4 .FloorDiv) (rI (λ_ j=>0<j/\j<2 ^ 64) λi j=>.int (i / j)):=opI λi j _ _ _ _ _ hc q=>by
 refine floordiv_int ?q (by rw[Int.fdiv_eq_ediv_of_nonneg i ?q]; exact q) (.inl (PyProof.noPylong_of_log2 ?_));have b:j.natAbs<2 ^ 64:=by omega
 have a:j.natAbs≠0:=by omega
 have c:=(Nat.log2_lt a).mpr b;omega
theorem _root_.MS.IsDs.rep{K:Qqq}(h:IsDs K m H ds xs):∀k:Y0,IsDs K m H (List.replicate k ds).flatten (List.replicate k xs).flatten
 |0=>by simp only[List.replicate_zero]; exact qqk
 |k+1=>by
  rw[Qz8,Qz8,Qxh,Qxh];exact h.append (IsDs.rep h k)
def qoj(I:Inv X a m H s)(y:SqL X.K H l xs)(i:SqL X.K H b ys)(C:xs.length+ys.length<=sizeLine)(q:∀p,H p=B->Q (.ref p) (upd H p (.lst (xs++ys)))):
  wpAny ?v X.A (Q4 .Add (.ref l) (.ref b)) (EP X a m Q) X.xe s:=by
 obtain⟨vs,r,pl,_⟩:=I.list y;obtain⟨ws,o,h,_⟩:=I.list i;have l1:=r.length;have l2:=o.length;obtain⟨⟨cls,A,v,sl⟩,n,t,hc,z,hd⟩:=pl;obtain⟨⟨w,j,k,g⟩,x,c,f,u,d⟩:=h;simp only at hc hd f d;subst hc hd f d;have e:vs.toArray++ws.toArray=(vs++ws).toArray:=by simp
 refine concat_meets ⟨_,t,rfl⟩ ⟨_,c,rfl⟩ noFill_list_add seq_list_add PySem.F.slot_list_add PySem.F.entry_list_add (PySem.F.args_list_add_2 _ _) (list_addW l b vs.toArray ws.toArray n x A j sl g (by simp; omega)) ⟨t,c,?_⟩;rw[e];exact⟨.ref _,_,I.lnew (r.append o) (by rw[Qqr]; omega),rfl,q _ I.fresh⟩
def qok(D):OpR X (Q4 D) (rD X.K λst a b=>M.binop st D a b):=by
 intro pins s σ H x y v u Q I i g h;refine h.el λm st a b d st' c i1 i2 e q=>?_;have e:=e;unfold M.binop at e
 split at e
 ·have q:=q.of e;exact op_add pins s σ H x y v u Q I i g ⟨_,_,i1.int,i2.int,q.here c (mkInt _)⟩
 ·rename_i P bs
  split at e
  ·exact nn e
  ·rename_i hc;have q:=q.of e;rw[Qxt,decide_eq_true_eq,not_or,List.isEmpty_iff]at hc;obtain⟨A,xs,rfl,n,f⟩:=i1.tup;obtain⟨C,ys,rfl,t,r⟩:=i2.tup;have l1:=f.length;have l2:=r.length;have E:=qqy;refine qox pins s σ H _ _ v u Q I i g ⟨A,C,xs,ys,rfl,rfl,n,t,?_,?q,λz=>?_,λz p w=>?_⟩
   ·intro z;subst z;exact hc.1 (Qzs.mp l1)
   ·have j:=f.append r;rw[z,Qqs]at j;exact q.here c (qq2 n j)
   ·have l:=qza (o:=.tup (xs++ys)) w;exact q _ m _ ?N (Tr.of_same l) (c.same l) (qq2 (SqT.of qzw) (qzc ?N (Tr.of_same l) _ _ (f.append r)))
 ·rename_i la R _ _;refine qzx e λN G e=>qzx e λK F e=>?_
  split at e
  ·exact nn e
  ·rename_i hc;have q:=q.of e;obtain⟨A,xs,_,rfl,n,f⟩:=c.seq G i1;obtain⟨C,ys,_,rfl,t,r⟩:=c.seq F i2;have l1:=f.length;have l2:=r.length;have E:=qqy;cases i;cases g;refine qoj I n t ?q λp w=>?_;exact q _ (m++[p]) _ (Sub.app m [p]) (Tr.of_same (qza w)) (c.new w (f.append r)) c.newLoc
 ·have q:=q.of e;exact op_sub pins s σ H x y v u Q I i g ⟨_,_,i1.int,i2.int,q.here c (mkInt _)⟩
 ·split at e
  ·rename_i hc;have q:=q.of e;refine op_mul pins s σ H x y v u Q I i g ⟨_,_,i1.int,i2.int,?_,q.here c (mkInt _)⟩;unfold M.mulOk at hc;simp only[Qxt,Qqt,decide_eq_true_eq]at hc;exact hc
  ·exact nn e
 ·rename_i P k _
  split at e
  ·exact nn e
  ·rename_i hc;have q:=q.of e;simp only[Qxt,decide_eq_true_eq]at hc;obtain⟨A,xs,rfl,n,f⟩:=i1.tup;have l1:=f.length;have E:=qqy;refine qoz pins s σ H _ _ v u Q I i g ⟨A,k,xs,rfl,i2.int,n,?q,?q,by rw[<- l1]; omega,λys t=>⟨λz=>?_,λp w=>?_⟩⟩
   ·have j:=f.rep k.toNat
    rw[<- t,z]at j;exact q.here c (qq2 n j)
   ·have l:=qza (o:=.tup ys) w;have j:=f.rep k.toNat
    rw[<- t]at j;exact q _ m _ ?N (Tr.of_same l) (c.same l) (qq2 (SqT.of qzw) (qzc ?N (Tr.of_same l) _ _ j))
 ·split at e
  ·rename_i hc;have q:=q.of e;exact qd3 pins s σ H x y v u Q I i g ⟨_,_,i1.int,i2.int,hc,q.here c (mkInt _)⟩
  ·exact nn e
 ·split at e
  ·rename_i hc;have q:=q.of e;exact op_mod pins s σ H x y v u Q I i g ⟨_,_,i1.int,i2.int,hc,q.here c (mkInt _)⟩
  ·exact nn e
 ·split at e
  ·rename_i hc;have q:=q.of e;exact op_pow pins s σ H x y v u Q I i g ⟨_,_,i1.int,i2.int,⟨hc.1,?q,hc.2.2⟩,q.here c (mkInt _)⟩
  ·exact nn e
 ·exact nn e
def qz6(I:Inv X c e H s)(h:IsD X.K m H (.tup ds) v):∃a xs b,v=.ref a/\SqT X.K H a xs/\IsDs X.K m H ds xs/\Vals xs b/\IsTup s.heap a b.toArray:=by
 obtain⟨a,xs,rfl,d,f⟩:=h.tup;obtain⟨b,r,p,_⟩:=I.tuple d;exact⟨a,xs,b,rfl,d,f,r,p⟩
section
variable {H:Hp}{m:Z Y5}
theorem qyf:∀{ds es}{xs},ds.all M.isI=L->es.all M.isI=L->IsDs X.K m H ds xs->IsDs X.K m H es xs->ds=es
 |[],es,xs,_,_,h,h'=>by
  rw[h.nil]at h';exact(Qzs.mp h'.length).symm
 |d::ds,es,xs,f,c,h,h'=>by
  obtain⟨x,r,rfl,q,t⟩:=h.cons
  cases es with
  |nil=>cases h'.nil
  |cons e es=>
   obtain⟨j,r',z,i,g⟩:=h'.cons;cases z;rw[Qz4,Qqt]at f c;rw[qyf f.2 c.2 t g]
   cases d with
   |int a=>
    cases e with
    |int b=>cases q.int; cases i.int; rfl
    |_=>cases c.1
   |_=>cases f.1
def qo3(I:Inv X pins σ H s)(f:M.flat n d=L)(c:M.flat n e=L)(h:IsD X.K m H d v)(h':IsD X.K m H e v):d=e:=by
 cases d with
 |int b=>
  rw[h.int]at h'
  cases e with
  |tup ds=>obtain⟨a,xs,z,_⟩:=h'.tup; cases z
  |int b=>cases h'.int; rfl
  |str b=>cases h'.str
  |_=>cases c
 |str b=>
  rw[h.str]at h'
  cases e with
  |tup ds=>obtain⟨a,xs,z,_⟩:=h'.tup; cases z
  |int b=>cases h'.int
  |str b=>cases h'.str; rfl
  |_=>cases c
 |tup ds=>
  obtain⟨a,xs,rfl,k,i⟩:=h.tup
  cases e with
  |tup es=>
   obtain⟨b,ys,z,j,g⟩:=h'.tup;cases z;cases I.tuple_inj k j;rw[qyf f c i g]
  |int b=>cases h'.int
  |str b=>cases h'.str
  |_=>cases c
 |_=>cases f
theorem qwf:∀{ds},ds.all M.isI=L->M.eqTs ds ds=L
 |[],_=>rfl
 |d::ds,f=>by
  rw[Qz4,Qqt]at f;unfold M.eqTs;rw[qwf f.2,Qx8]
  cases d with
  |int a=>exact beq_self_eq_true a
  |_=>cases f.1
abbrev pairE(ds es:Z D)(j:Y0):Bool:=match ds[j]?,es[j]? with
 |some d,Y e=>M.eqT d e
 |_,_=>L
theorem qwg:∀(ds es:Z D),M.eqTs ds es=((List.range (min ds.length es.length)).all (pairE ds es)&&ds.length==es.length)
 |[],[]=>rfl
 |[],e::es=>by simp[M.eqTs]
 |d::ds,[]=>by simp[M.eqTs]
 |d::ds,e::es=>by
  simp only[M.eqTs];rw[qwg ds es,Qqm,Qqm,Nat.add_min_add_right,List.range_succ_eq_map,Qz4,List.all_map,Bool.and_assoc]
  congr 1
  congr 1
  rw[Qkm,beq_iff_eq,beq_iff_eq];omega
def int_at(f:ds.all M.isI=L)(c:IsDs X.K m H ds xs)(r:Vals xs b)(h:j<b.toArray.size):∃a t,ds[j]?=Y (.int a)/\b.toArray[j]=Value.int a t:=by
 have l1:=c.length;have l2:=r.length;rw[Qqe]at h;obtain⟨d,g⟩:∃d,ds[j]?=Y d:=⟨_,Qqb ?q⟩
 obtain⟨x,k,q⟩:=c.get g;obtain⟨u,w,z⟩:=r.get k;have e:=Qze.mp f _ (Qqn g)
 cases d with
 |int a=>
  cases q.int;obtain⟨t,rfl⟩:=z;exact⟨a,t,g,(Qj2 _).trans (Qqk.mp w).2⟩
 |_=>cases e
def ql6(I:Inv X pins σ H s)(n)(A)(d e)(x y)(u v)(U:A.units+n<cLine)(f:M.flat n d=L)(z:M.flat n e=L)(G:IsD X.K m H d x)(l:IsD X.K m H e y)(E:RelV x u)(k:RelV y v):SeqAt.EqAt A s u v (M.eqT d e)/\SeqAt.RcAt A s u v (M.eqT d e):=by
 have c:A.units<cLine:=by omega
 cases d with
 |int a=>
  cases G.int; obtain⟨h,rfl⟩:=E
  cases e with
  |tup es=>obtain⟨b,ys,o,rfl,p,q,C,p2⟩:=qz6 I l; cases k; exact⟨SeqAt.EqAt.int_tuple a h p2 c,SeqAt.RcAt.int_tuple a h p2 c⟩
  |int b=>cases l.int; obtain⟨t,rfl⟩:=k; exact⟨SeqAt.EqAt.int_int a h b t,SeqAt.RcAt.int_int a h b t⟩
  |str b=>cases l.str; obtain⟨t,rfl⟩:=k; exact⟨SeqAt.EqAt.int_str a h b t,SeqAt.RcAt.int_str a h b t⟩
  |_=>cases z
 |str a=>
  cases G.str; obtain⟨h,rfl⟩:=E
  cases e with
  |tup es=>obtain⟨b,ys,o,rfl,p,q,C,p2⟩:=qz6 I l; cases k; exact⟨SeqAt.EqAt.str_tuple a h p2 c,SeqAt.RcAt.str_tuple a h p2 c⟩
  |int b=>cases l.int; obtain⟨t,rfl⟩:=k; exact⟨SeqAt.EqAt.str_int a h b t,SeqAt.RcAt.str_int a h b t⟩
  |str b=>cases l.str; obtain⟨t,rfl⟩:=k; exact⟨SeqAt.EqAt.str_str a h b t,SeqAt.RcAt.str_str a h b t⟩
  |_=>cases z
 |tup ds=>
  obtain⟨a,xs,Q,rfl,S,F,N,p1⟩:=qz6 I G;cases E
  cases e with
  |int b=>cases l.int; obtain⟨t,rfl⟩:=k; exact⟨SeqAt.EqAt.tuple_int b t p1 c,SeqAt.RcAt.tuple_int b t p1 c⟩
  |str b=>cases l.str; obtain⟨t,rfl⟩:=k; exact⟨SeqAt.EqAt.tuple_str b t p1 c,SeqAt.RcAt.tuple_str b t p1 c⟩
  |tup es=>
   obtain⟨b,ys,o,rfl,p,q,C,p2⟩:=qz6 I l;cases k;have K:SeqAt.RcAt A s (.ref a) (.ref b) (M.eqTs ds es):=by
    have:=SeqAt.RcAt.tuples p1 p2 c (e:=pairE ds es) λj h1 h2=>by
     obtain⟨i,t,g,w⟩:=int_at f F N h1;obtain⟨R,h,T,P⟩:=int_at z q C h2;rw[w,P];unfold pairE;rw[g,T];exact SeqAt.EqAt.int_int i t R h
    rw[qwg,F.length,q.length,N.length,C.length];simpa using this
   refine⟨?_,K⟩
   by_cases r:a=b
   ·subst r;cases I.tuple_inj S p;cases qyf f z F q;show SeqAt.EqAt A s _ _ (M.eqTs ds ds);rw[qwf f];exact SeqAt.EqAt.same _
   ·exact SeqAt.EqAt.of_refs r K
  |_=>cases z
 |_=>cases f
end
end
end MS
end
section
namespace MS
open PySem PySem.Spec PyProof.Rows L2
section
end
end MS
end
section
namespace MS
open PySem PySem.Spec PyProof.Rows L2
open M (D Ya Y1 Sl)
section
variable {X:Cx}
section
def qgy(I:Inv X pins σ H s)(A)(F:A.units+9<cLine)(K:M.flat 9 d0=L)(G:IsD X.K m H d0 g)(v:RelV g c):
  ∃e:Y7->Yb,∀(ds:Z D) (xs:Z V) (a:Z Y7),M.flats 9 ds=L->IsDs X.K m H ds xs->Vals xs a->(∀w∈a,SeqAt.EqAt A s w c (e w))/\a.any e=ds.any λy=>M.eqT y d0:=by
 classical
 refine⟨λw=>decide (∃d x,M.flat 9 d=L/\IsD X.K m H d x/\RelV x w/\M.eqT d d0=L),λds=>?_⟩;have b:∀d x w,M.flat 9 d=L->IsD X.K m H d x->RelV x w->decide (∃d x,M.flat 9 d=L/\IsD X.K m H d x/\RelV x w/\M.eqT d d0=L)=M.eqT d d0:=by
  intro d x w f i r
  cases q:M.eqT d d0 with
  |true=>exact Z6 ⟨d,x,f,i,r,q⟩
  |false=>
   refine Z7 ?_;rintro⟨U,T,N,E,r',l⟩;have Q:=r.inj r';subst Q;have P:=qo3 I f N i E;subst P;rw[q]at l;cases l
 induction ds with
 |nil=>
  intro xs a _ j r;rw[j.nil]at r;cases r;exact⟨λw k=>(by cases k),rfl⟩
 |cons d ds C=>
  intro xs a f j r;obtain⟨x,n,rfl,q,t⟩:=j.cons;simp only[ Qz4,Qqt]at f
  cases r with
  |@cons _ u _ o h p=>
   obtain⟨S,R⟩:=C n o f.2 t p;refine⟨λw k=>?_,?_⟩
   ·rcases Qqc.mp k with z|z
    ·subst z;show SeqAt.EqAt A s w c (decide _);rw[b d x w f.1 q h];exact(ql6 I 9 A d d0 x g w c F f.1 K q G h v).1
    ·exact S w z
   ·rw[Qxb,Qxb,R]
    congr 1
    exact b d x u f.1 q h
end
def qlc(n)(E:X.A.units+64<cLine):OpR X (Qg (cond n .NotIn .In)) (rD X.K λst a b=>(M.inD st a b).map λk=>(.bl (cond n (!k) k),st)):=by
 intro pins s σ H x y v u Q I z t h;refine h.el λm st a b d st' C i1 i2 e q=>qzd e λk f o=>?_;cases o;have i:X.A.in1.units+9<cLine:=by have D:X.A.in1.units=X.A.units+1:=rfl; lia
 have q:=q.here C (mkBl _)
 cases b with
 |tup ds=>
  simp only[M.inD]at f
  split at f
  ·rename_i hf;cases f;rw[Qqt]at hf;obtain⟨p,xs,c,rfl,A,j,r,pl⟩:=qz6 I i2;cases t;obtain⟨ef,ha⟩:=qgy I X.A.in1 i hf.1 i1 z;obtain⟨h1,h2⟩:=ha ds xs c hf.2 j r;have e:c.toArray.any ef=c.any ef:=by simp
   rw[<- h2,<- e]at q;cases n
   ·exact SeqAt.in_tupleAt ef pl (λw g=>h1 w (by simpa using g)) ⟨.bl _,H,I,rfl,q⟩
   ·exact SeqAt.notIn_tupleAt ef pl (λw g=>h1 w (by simpa using g)) ⟨.bl _,H,I,rfl,q⟩
  ·exact nn f
 |loc l|lst l=>
  simp only[M.inD]at f;refine qzx f λds o f=>?_
  split at f
  ·rename_i hf;cases f;rw[Qqt]at hf;obtain⟨p,xs,_,rfl,A,j⟩:=C.seq o i2;cases t;obtain⟨c,r,pl,_⟩:=I.list A;obtain⟨ef,ha⟩:=qgy I X.A.in1 i hf.1 i1 z;obtain⟨h1,h2⟩:=ha ds xs c hf.2 j r;have e:c.toArray.any ef=c.any ef:=by simp
   rw[<- h2,<- e]at q;cases n
   ·exact SeqAt.in_listAt ef pl.isList (λw g=>h1 w (by simpa using g)) ⟨.bl _,H,I,rfl,q⟩
   ·exact SeqAt.notIn_listAt ef pl.isList (λw g=>h1 w (by simpa using g)) ⟨.bl _,H,I,rfl,q⟩
  ·exact nn f
 |_=>simp[M.inD,M.seqAt]at f
def op_eqD(r:X.A.units+64<cLine):OpR X (Qg .Eq) (rD X.K λst a b=>(M.eqD st a b).map λk=>(.bl k,st)):=by
 intro pins s σ H x y v u Q I f g h;refine h.el λm st a b d st' j i1 i2 e q=>qzd e λk c n=>?_;cases n;unfold M.eqD at c
 split at c
 ·cases c; cases i1.bl; cases i2.bl; cases f; cases g; exact SeqAt.RcAt.bool_bool _ _ _ _ _ _ ⟨.bl _,H,I,rfl,q.here j (mkBl _)⟩
 ·cases c; cases i1.non; cases i2.non; cases f; cases g; exact SeqAt.RcAt.none_none _ _ _ _ ⟨.bl _,H,I,rfl,q.here j (mkBl _)⟩
 ·split at c
  ·rename_i hf;cases c;rw[Qqt]at hf;have K:=q.here j (mkBl _)
   cases hb:M.flat 9 b with
   |true=>exact(ql6 I 9 X.A a b x y v u ?d hf.1 hb i1 i2 f g).2 _ _ _ _ ⟨.bl _,H,I,rfl,K⟩
   |false=>
    rw[hb]at hf
    cases b with
    |non=>
     cases i2.non; cases g
     cases a with
     |int i=>cases i1.int; obtain⟨t,rfl⟩:=f; exact SeqAt.RcAt.int_none i t _ _ _ _ ⟨.bl _,H,I,rfl,K⟩
     |str i=>cases i1.str; obtain⟨t,rfl⟩:=f; exact SeqAt.RcAt.str_none i t _ _ _ _ ⟨.bl _,H,I,rfl,K⟩
     |tup ds=>
      obtain⟨a,xs,l,rfl,w,p,o,p1⟩:=qz6 I i1;cases f;exact SeqAt.RcAt.tuple_none p1 ?d _ _ _ _ ⟨.bl _,H,I,rfl,K⟩
     |_=>cases hf.1
    |_=>cases hf.2
  ·exact nn c
def op_neD:OpR X (Qg .NotEq) (rD X.K λst a b=>(M.neD st a b).map λk=>(.bl k,st)):=by
 intro pins s σ H x y v u Q I i g h;refine h.el λm st a b d st' j i1 i2 e q=>qzd e λk c l=>?_;cases l;unfold M.neD at c
 split at c
 ·cases c;cases i1.int; cases i2.int;obtain⟨t,rfl⟩:=i;obtain⟨f,rfl⟩:=g;exact SeqAt.RcNeAt.int_int _ t _ f _ _ _ _ ⟨.bl _,H,I,rfl,q.here j (mkBl _)⟩
 ·cases c;cases i1.str; cases i2.str;obtain⟨t,rfl⟩:=i;obtain⟨f,rfl⟩:=g;exact SeqAt.RcNeAt.str_str _ t _ f _ _ _ _ ⟨.bl _,H,I,rfl,q.here j (mkBl _)⟩
 ·exact nn c
def qas{K:Qqq}(h:IsD K m H d x):decide (x=.non)=M.isNon d:=by
 cases d with
 |non=>rw[h.non]; rfl
 |bl b=>rw[h.bl]; rfl
 |int b=>rw[h.int]; rfl
 |str b=>rw[h.str]; rfl
 |tup ds=>obtain⟨a,xs,rfl,_⟩:=h.tup; rfl
 |loc l=>obtain⟨a,_,rfl⟩:=h.loc; rfl
 |lst l=>obtain⟨a,xs,rfl,_⟩:=h.lst; rfl
def qxm(j:X.A.units+64<cLine)(n):OpR X (Qg n) (rD X.K λst a b=>(M.cmpD st n a b).map λk=>(.bl k,st)):=by
 intro pins s σ H x y v u Q I g f h;obtain⟨m,st,a,b,d,st',i,i1,i2,e,q⟩:=h;refine qzd e λk c l=>?_;cases l;unfold M.cmpD at c
 split at c
 ·cases c;exact op_lt pins s σ H x y v u Q I g f ⟨_,_,i1.int,i2.int,q.here i (mkBl _)⟩
 ·cases c;exact op_le pins s σ H x y v u Q I g f ⟨_,_,i1.int,i2.int,q.here i (mkBl _)⟩
 ·cases c;exact op_gt pins s σ H x y v u Q I g f ⟨_,_,i1.int,i2.int,q.here i (mkBl _)⟩
 ·cases c;exact op_ge pins s σ H x y v u Q I g f ⟨_,_,i1.int,i2.int,q.here i (mkBl _)⟩
 ·exact op_eqD j pins s σ H x y v u Q I g f ⟨m,st,a,b,_,_,i,i1,i2,by dsimp only; rw[c]; rfl,q⟩
 ·exact op_neD pins s σ H x y v u Q I g f ⟨m,st,a,b,_,_,i,i1,i2,by dsimp only; rw[c]; rfl,q⟩
 ·cases c;refine op_isN pins s σ H x y v u Q I g f ⟨i2.non,?_⟩;rw[qas i1];exact q.here i (mkBl _)
 ·cases c;refine qoq pins s σ H x y v u Q I g f ⟨i2.non,?_⟩;rw[qas i1];exact q.here i (mkBl _)
 ·exact qlc Y6 j pins s σ H x y v u Q I g f ⟨m,st,a,b,_,_,i,i1,i2,by dsimp only; rw[c]; rfl,q⟩
 ·obtain⟨k,l,rfl⟩:=mapD c;exact qlc L j pins s σ H x y v u Q I g f ⟨m,st,a,b,_,_,i,i1,i2,by dsimp only; rw[l]; rfl,q⟩
 ·exact nn c
def qmd{K:Qqq}{st:Y1}(j:Rel K m st H)(h:IsD K m H d x)(e:M.truth st d=Y k):TruV K x H k:=by
 cases d with
 |non=>rw[h.non]; simp only[M.truth]at e; exact(Option.some.inj e).symm
 |bl b=>rw[h.bl]; simp only[M.truth]at e; exact(Option.some.inj e).symm
 |int b=>rw[h.int]; simp only[M.truth]at e; exact(Option.some.inj e).symm
 |str b=>exact nn e
 |tup ds=>
  obtain⟨a,xs,rfl,f,c⟩:=h.tup;simp only[M.truth]at e;refine .inr (.inl ⟨xs,f,?_⟩);have:=c.length;cases e;cases ds<;>cases xs<;>simp_all
 |loc l=>
  simp only[M.truth]at e;refine qzd e λds i g=>?_;obtain⟨a,xs,_,rfl,f,c⟩:=j.seq i h;refine .inl ⟨xs,f,?_⟩;have:=c.length;subst g;cases ds<;>cases xs<;>simp_all
 |lst l=>
  simp only[M.truth]at e;refine qzd e λds i g=>?_;obtain⟨a,xs,_,rfl,f,c⟩:=j.seq i h;refine .inl ⟨xs,f,?_⟩;have:=c.length;subst g;cases ds<;>cases xs<;>simp_all
def qmq{K:Qqq}(a:IsDs K m H ds xs)(e:M.atI ds i=Y d):∃x,L2.atI xs i=Y x/\IsD K m H d x:=by
 unfold M.atI at e;refine qzx e λj g f=>?_;obtain⟨x,c,q⟩:=a.get f;refine⟨x,?_,q⟩;unfold L2.atI;have b:L2.ixN xs.length i=Y j:=by rw[<- a.length]; exact g
 rw[b];exact c
def ix_D:IxR X (rD X.K λst a b=>(M.idxD st a b).map λd=>(d,st)):=by
 intro value c pins s σ H x y v u Q I t r h hs;obtain⟨m,st,a,b,d,st',o,i1,i2,e,q⟩:=h;refine qzd e λk f n=>?_;cases n;unfold M.idxD at f
 split at f
 ·obtain⟨p,xs,rfl,j,g⟩:=i1.tup;obtain⟨w,l,i⟩:=qmq g f;exact ix_tup value c pins s σ H _ _ v u Q I t r ⟨p,xs,_,w,rfl,i2.int,j,l,q.here o i⟩ hs
 ·refine qzx f λds n f=>?_;obtain⟨p,xs,_,rfl,j,g⟩:=o.seq n i1;obtain⟨w,l,i⟩:=qmq g f;exact qou value c pins s σ H _ _ v u Q I t r ⟨p,xs,_,w,rfl,i2.int,j,l,q.here o i⟩ hs
 ·exact nn f
def qb3:MtM X "list.append" (λx xs H Q=>∃m st a ds d st',Rel X.K m st H/\IsD X.K m H a x/\IsDs X.K m H ds xs/\M.mAppend st a ds=Y (d,st')/\Post X.K m H d st' Q):=by
 intro pins s σ H x xs v g Q I i j h;obtain⟨m,st,a,ds,d,st',f,i1,i2,e,q⟩:=h;unfold M.mAppend at e
 split at e
 ·refine qzx e λo n e=>?_
  split at e
  ·rename_i hl;have q:=q.of e;obtain⟨p,ys,l,rfl,b,c,hs⟩:=f.wlist n i1;obtain⟨y,rfl,k⟩:=i2.one;have l1:=c.length;have l2:=qqy;refine qez pins s σ H _ _ v g Q I i j ⟨p,ys,y,rfl,rfl,b,?d,?_⟩;exact q _ m _ ?N (Tr.put b) (f.put hs l b (c.append (qzn k qqk))) qvj
  ·exact nn e
 ·exact nn e
def rSlD(K:Qqq):V->Y2 J->Y2 J->Hp->VK->Prop:=λx lo hi H Q=>∃m st a d st',Rel K m st H/\IsD K m H a x/\M.sliD st a lo hi=Y (d,st')/\Post K m H d st' Q
theorem _root_.MS.IsDs.take{K:Qqq}:∀{ds:Z D}{xs:Z V}(n:Y0),IsDs K m H ds xs->IsDs K m H (ds.take n) (xs.take n)
 |_,_,0,_=>by simp only[Qkr]; exact qqk
 |[],_,n+1,h=>by rw[h.nil]; simp only[List.take_nil]; exact qqk
 |d::ds,_,n+1,h=>by
  obtain⟨x,r,rfl,q,t⟩:=h.cons;simp only[List.take_succ_cons];exact qzn q (IsDs.take n t)
theorem _root_.MS.IsDs.drop{K:Qqq}:∀{ds:Z D}{xs:Z V}(n:Y0),IsDs K m H ds xs->IsDs K m H (ds.drop n) (xs.drop n)
 |_,_,0,h=>by simp only[List.drop_zero]; exact h
 |[],_,n+1,h=>by rw[h.nil]; simp only[List.drop_nil]; exact qqk
 |d::ds,_,n+1,h=>by
  obtain⟨x,r,rfl,q,t⟩:=h.cons;simp only[List.drop_succ_cons];exact IsDs.drop n t
def qbw(n d)(o):M.cutIx n d o=HT.sIx n d o:=by
 cases o<;>rfl
def ql8{K:Qqq}(h:IsDs K m H ds xs)(a b):IsDs K m H (M.cut ds a b) (cutV xs a b):=by
 unfold M.cut cutV;rw[qbw,qbw,h.length];exact(h.drop _).take _
def sl_D:SlR X (rSlD X.K):=by
 intro pins s σ H x v vl w lo hi sl Q I i hs pl pu h;obtain⟨m,st,a,d,st',c,i1,e,q⟩:=h;unfold M.sliD at e
 split at e
 ·have q:=q.of e;obtain⟨p,xs,rfl,t,j⟩:=i1.tup;have n:=ql8 j lo hi
  by_cases f:HT.sIx xs.length 0 lo=0/\HT.sIx xs.length xs.length hi=xs.length
  ·cases i;obtain⟨k,r,y,E⟩:=I.tuple t;refine⟨"tuple",_,PyProof.Rows.slot_tuple_getitem.lookup,y.typeIs,?_⟩;have b:k.toArray.size=xs.length:=by rw[Qqe]; exact r.length.symm
   refine qq6 y hs pl pu (by rw[b]; exact f) ?_;refine⟨.ref p,H,I,rfl,q.here c (qq2 t ?_)⟩;have u:cutV xs lo hi=xs:=by
    unfold cutV;rw[f.1,f.2];simp
   rw[u]at n;exact n
  ·refine sl_tup pins s σ H _ v vl w lo hi sl Q I i hs pl pu ⟨p,xs,rfl,t,f,λD A=>?_⟩;have g:=qza (o:=.tup (cutV xs lo hi)) A;exact q _ m _ ?N (Tr.of_same g) (c.same g) (qq2 (SqT.of qzw) (qzc ?N (Tr.of_same g) _ _ n))
 ·refine qzd e λds u C=>?_;cases C;obtain⟨p,xs,_,rfl,z,j⟩:=c.seq u i1;exact qm2 pins s σ H _ v vl w lo hi sl Q I i hs pl pu ⟨p,xs,rfl,z,λl hl=>q _ (m++[l]) _ (Sub.app m [l]) (Tr.of_same (qza hl)) (c.new hl (ql8 j lo hi)) c.newLoc⟩
def qf2:qqv X (.builtin "len") (rC X.K M.bLen):=by
 intro pins s σ H xs f Q I r h;refine h.el λm st ds d st' c g e q=>?_;unfold M.bLen at e
 split at e
 ·have q:=q.of e;obtain⟨x,rfl,i⟩:=g.one;obtain⟨p,ys,rfl,b,a⟩:=i.tup;refine qx8 pins s σ H _ f Q I r ⟨p,ys,rfl,.inr b,?_⟩;rw[<- a.length];exact q.here c (mkInt _)
 ·refine qzd e λl k j=>?_;cases j;obtain⟨x,rfl,i⟩:=g.one;obtain⟨p,ys,_,rfl,b,a⟩:=c.seq k i;refine qx8 pins s σ H _ f Q I r ⟨p,ys,rfl,.inl b,?_⟩;rw[<- a.length];exact q.here c (mkInt _)
 ·exact nn e
def qfs(hc:X.calm=L):qqv X (.builtin "min") (rC X.K M.bMin):=by
 intro pins s σ H xs a Q I r h;refine h.el λm st ds d st' c b e q=>?_;unfold M.bMin at e
 split at e
 ·have q:=q.of e;obtain⟨x,y,rfl,i,j⟩:=b.two;cases i.int; cases j.int;exact qft hc pins s σ H _ a Q I r ⟨_,_,rfl,q.here c (mkInt _)⟩
 ·exact nn e
def qfu(hc:X.calm=L):qqv X (.builtin "max") (rC X.K M.bMax):=by
 intro pins s σ H xs a Q I r h;refine h.el λm st ds d st' c b e q=>?_;unfold M.bMax at e
 split at e
 ·have q:=q.of e;obtain⟨x,y,rfl,i,j⟩:=b.two;cases i.int; cases j.int;exact qf0 hc pins s σ H _ a Q I r ⟨_,_,rfl,q.here c (mkInt _)⟩
 ·exact nn e
def qyr:qqv X (.type "tuple") (rC X.K M.bTuple):=by
 intro pins s σ H xs g Q I r h;refine h.el λm st ds d st' f j e q=>?_;unfold M.bTuple at e
 split at e
 ·have q:=q.of e;obtain⟨x,rfl,i⟩:=j.one;obtain⟨p,ys,rfl,a,c⟩:=i.tup;exact qxf pins s σ H _ g Q I r ⟨p,ys,rfl,.inr ⟨a,q.here f (qq2 a c)⟩⟩
 ·refine qzd e λt n k=>?_;cases k;obtain⟨x,rfl,i⟩:=j.one;obtain⟨p,ys,_,rfl,a,c⟩:=f.seq n i;refine qxf pins s σ H _ g Q I r ⟨p,ys,rfl,.inl ⟨a,λl hl=>?_⟩⟩;have b:=qza (o:=.tup ys) hl;exact q _ m _ ?N (Tr.of_same b) (f.same b) (qq2 (SqT.of qzw) (qzc ?N (Tr.of_same b) _ _ c))
 ·exact nn e
theorem qj1:∀{xs}{vs}{Lq},KV xs vs->Lq.length=vs.length->(∀(j:Y0) (v:Y7),Lq[j]?=Y v->∃k x,vs[j]?=Y (k,x)/\(?q4).is k v=L)->Vals (xs.map λp=>kV p.1) Lq
 |[],_,Lq,.nil,hl,_=>by
  rw[Qzs.mp hl];exact .nil
 |(k,x)::xs,(f,u)::vs,[],.cons _ _,hl,_=>by cases hl
 |(k,x)::xs,(f,u)::vs,v::Lq,.cons h r,hl,hv=>by
  obtain⟨k2,m,e,hk⟩:=hv 0 v rfl;cases e;have a:=h.1;subst a;refine .cons ?_ (qj1 (P:=P) (w:=w) r (by simpa using hl) λj c e=>?_)
  ·rcases qze hk with⟨i,t,rfl,rfl⟩|⟨z,t,rfl,rfl⟩
   ·exact⟨t,rfl⟩
   ·exact⟨t,rfl⟩
  ·obtain⟨d,b,l,g⟩:=hv (j+1) c (by simpa using e);exact⟨d,b,by simpa using l,g⟩
theorem IsKV.keys{K:Qqq}:∀{kvs}{xs},IsKV K m H kvs xs->IsDs K m H (M.keysOf kvs) (xs.map λp=>kV p.1)
 |[],_,h=>by rw[show _=[] from h]; exact qqk
 |p::r,_,⟨k,v,a,e,hk,hv,hr⟩=>by
  subst e;refine qzn ?_ hr.keys;obtain⟨d,e⟩:=p
  cases d with
  |int i=>cases hk; exact mkInt i
  |str z=>cases hk; exact mkStr z
  |_=>exact nn hk
theorem Rel.dkeys{K:Qqq}{st:Y1}(h:Rel K m st H)(e:M.dkeys st d=Y ds)(hv:IsD K m H d v):∃a xs,v=.ref a/\Rd H a (.dK xs)/\IsDs K m H ds (xs.map λp=>kV p.1):=by
 cases d with
 |loc l=>
  obtain⟨kvs,b,rfl⟩:=mapD e;obtain⟨a,xs,_,rfl,hr,hk⟩:=h.dict b hv;exact⟨a,xs,rfl,hr,hk.keys⟩
 |_=>exact nn e
def qfc(I:Inv X b d H s)(e:Rd H a (.dK xs)):∃vs c,KV xs vs/\s.heap.DictAt (mixKind X.prog X.w) a vs c/\(a==Qo)=Y6/\vs.length<=sizeLine:=by
 obtain⟨f,lo,vs,kv,o,es,c,r⟩:=qwh I.hok e;exact⟨vs,c,kv,⟨o,es,r⟩,lo,by rw[<- kv.length]; exact f⟩
def qkd(i:X.A.handled=B):qqv X (.type "list") (λxs H Q=>∃p ys,xs=[.ref p]/\Rd H p (.dK ys)/\∀l,H l=B->Q (.ref l) (upd H l (.lst (ys.map λq=>kV q.1)))):=by
 intro pins s σ H xs m Q I r h;obtain⟨p,ys,rfl,g,q⟩:=h;obtain⟨u,rfl,d⟩:=vals1 r;cases d;obtain⟨vs,n,kv,k,lo,hn⟩:=qfc I g;refine PySem.W.kdl_call (PySem.W.kdl_dict lo) i k hn λh' tk a c hk hS b=>?_;have f:=qj1 kv (by rw[Qzu]; exact b.1) λj v e=>b.2 j v (by rw[<- Qzc]; exact e);refine⟨.ref s.heap.objs.size,_,I.laid hk (Qqw _) (show ObjOk X.prog X.w _ h' _ (.lst (ys.map λq=>kV q.1)) from⟨?_,a.toList,c,f,hS⟩),rfl,q _ (I.hok.fresh (Qqw _))⟩;rw[Qqz,kv.length]; exact hn
def qyo(K:PySem.W.KdlSrc X.prog X.w T r d n P t)(z:A.handled=B)(hok:t s.heap)(hn:n<=sizeLine)(h:∀(a:Heap) (k:Y0) (vs:Array Y7),(∀b o,s.heap.get? b=Y o->a.get? b=Y o)->s.heap.objs.size<a.objs.size->ItemsOf P vs n->R vs.toList { s with heap:=a,toks:=k }):wpAny ?v A (collect (.ref r)) R E s:=by
 have lt:=K.there _ hok
 let g:=s.heap.objs.size
 let p:=s.heap.push { cls:=.type "list",data:=.seq ([]:Z Y7).toArray }
 have C:p.get? g=Y { cls:=.type "list",data:=.seq #[] }:=Qqh _ rfl;have ext:=PySem.W.kdl_extend (s:={ s with heap:=p }) (R:=λq m=>∃(a:Heap) (k:Y0) (vs:Array Y7) (c:Y0),q=.ok (.ret (.ref g))/\m={ s with heap:=a,toks:=k }/\(∀b o,s.heap.get? b=Y o->a.get? b=Y o)/\a.get? g=Y { cls:=.type "list",dict:=B,data:=.seq vs c,slots:=#[] }/\ItemsOf P vs n)
  K z (K.keep _ _ hok λb _ o e=>Qqx _ e) g (Qxr lt.1) (Qxr lt.2) (.ref g) 0 C
  (λa k vs c l i j=>⟨a,k,vs,c,rfl,rfl,λb o e=>l b o (Qq1 (Qqf e)) (Qqx _ e),i,j⟩) hn
 unfold collect;apply Qq;apply wpAny_runValue;apply Qu entry_proto_collect';rw[Around.under_plainId PySem.F.plain_proto_collect _];apply Qq;refine Qi (Qx ⟨Z3 PySem.F.plain_list_iadd _,?_⟩);apply Qu entry_list_iadd';rw[Around.under_plainId PySem.F.plain_list_iadd _];refine Qh (ext) (λD m x=>?_) λe m x=>?_
 ·cases D with
  |done f=>
   rcases x with⟨a,k,vs,c,e,rfl,l,i,j⟩
   cases e;apply Qq;apply wpAny_load i;exact Qx (h a k vs l (Qqf i) j)
  |again c=>
   rcases x with⟨v,u⟩
   refine⟨v,Q5 u λw F y=>?_⟩
   rcases y with⟨a,k,vs,c,rfl,rfl,l,i,j⟩
   apply Qq;apply wpAny_load i;exact Qx (h a k vs l (Qqf i) j)
 ·rcases x with⟨_,_,_,_,e,_⟩
  cases e
def qbm(K:PySem.W.KdlSrc X.prog X.w T r d n P p)(t:A.handled=B)(hok:p s.heap)(hn:n<64)(w:∀vs:Z Y7,vs.length=n->(∀(j:Y0) (v:Y7),vs[j]?=Y v->P j v)->Zu vs ns)(h:∀(a:Y5) (h':Heap) (tk e:Y0) (f:Array Y7) (c:Z J),(∀b o,s.heap.get? b=Y o->h'.get? b=Y o)->s.heap.objs.size<=a->h'.get? a=Y (seqObj "list" f e)->Zu f.toList c->c.Perm ns->c.Pairwise (· <= ·)->Q (.ref a) { s with heap:=h',toks:=tk }):
  wpAny ?v A (call (.builtin "sorted") [.ref r]) Q E s:=by
 have i:n<=sizeLine:=by rw[Q2]; lia
 apply PySem.Calls.call_function_entry kind_sorted plain_sorted entry_sorted (args_sorted1 _);unfold Qs.«sorted»;apply Qq;apply Qx;apply Qq;apply qyo (A:=A.in1) K t hok i;intro h1 tk g hk k m;have hl:g.toList.length=n:=by rw[Qzu]; exact m.1
 have hi:=w g.toList hl λj v e=>m.2 j v (by rw[<- Qzc]; exact e);apply Qq;refine wpAny_newList ?_ (by rw[hl]; exact i);have l:(h1.push (seqObj "list" g.toList.toArray 0)).get? h1.objs.size=Y (seqObj "list" g.toList.toArray 0):=Qqh _ rfl;apply Qq;apply Qt;refine Qd slot_list_sort ⟨_,l,rfl⟩ entry_list_sort (list_sort_tree l hi ?d λf c z y x=>⟨_,rfl,?_⟩) (args_list_sort _);obtain⟨e,u⟩:=sortedHeap_at l;refine Qx ⟨_,rfl,h _ _ _ e f c (λb o q=>?_) ?_ u z y x⟩
 ·have hb:=Qqf (hk b o q);exact(sortedHeap_old (Qq1 hb) (by rw[size_push']; exact Qjx hb)).trans (Qqx _ (hk b o q))
 ·exact Qjj k
def qcv(k:X.A.handled=B):qqv X (.type "list") (rC X.K M.bList):=by
 intro pins s σ H xs g Q I r h;refine h.el λm st ds d st' a j e q=>?_;unfold M.bList at e
 split at e
 ·have q:=q.of e;obtain⟨x,rfl,i⟩:=j.one;obtain⟨p,ys,rfl,c,b⟩:=i.tup;exact qx7 pins s σ H _ g Q I r ⟨p,ys,rfl,.inr c,λl hl=>q _ (m++[l]) _ (Sub.app m [l]) (Tr.of_same (qza hl)) (a.new hl b) a.newLoc⟩
 ·refine qzd e λo f n=>?_;cases n;obtain⟨x,rfl,i⟩:=j.one;rcases orO f with f|f
  ·obtain⟨p,ys,_,rfl,c,b⟩:=a.seq f i;exact qx7 pins s σ H _ g Q I r ⟨p,ys,rfl,.inl c,λl hl=>q _ (m++[l]) _ (Sub.app m [l]) (Tr.of_same (qza hl)) (a.new hl b) a.newLoc⟩
  ·obtain⟨p,ys,rfl,c,b⟩:=a.dkeys f i;exact qkd k pins s σ H _ g Q I r ⟨p,ys,rfl,c,λl hl=>q _ (m++[l]) _ (Sub.app m [l]) (Tr.of_same (qza hl)) (a.new hl b) a.newLoc⟩
 ·exact nn e
theorem qvf{K:Qqq}:∀{ds}{xs}{a}{bs},M.asBools ds=Y bs->IsDs K m H ds xs->Vals xs a->LSm.BoolsAre a bs
 |[],_,_,_,e,c,r=>by
  rw[c.nil]at r;cases r;cases e;exact .nil
 |d::ds,_,_,_,e,c,r=>by
  obtain⟨x,k,rfl,q,t⟩:=c.cons
  cases d with
  |bl b=>
   simp only[M.asBools]at e;refine qzd e λj i h=>?_;subst h;cases q.bl
   cases r with
   |cons g f=>
    cases g;exact .cons b (qvf i t f)
  |_=>simp[M.asBools]at e
theorem ints_of{K:Qqq}:∀{ds}{xs}{ns},M.asInts ds=Y ns->IsDs K m H ds xs->xs=ns.map V.int/\ds=ns.map D.int
 |[],_,_,e,a=>by
  cases e;exact⟨a.nil,rfl⟩
 |d::ds,_,_,e,a=>by
  obtain⟨x,h,rfl,q,t⟩:=a.cons
  cases d with
  |int b=>
   simp only[M.asInts]at e;refine qzd e λg f c=>?_;subst c;cases q.int;obtain⟨h1,h2⟩:=ints_of f t;rw[h1,h2];exact⟨rfl,rfl⟩
  |_=>simp[M.asInts]at e
def qf6(hc:X.calm=L):qqv X (.builtin "all") (rC X.K M.bAll):=by
 intro pins s σ H xs D Q I r h;refine h.el λm st ds d st' g n e q=>?_;unfold M.bAll at e
 split at e
 ·refine qzx e λC z e=>qzd e λbs y w=>?_;cases w;obtain⟨x,rfl,i⟩:=n.one;obtain⟨p,ys,_,rfl,o,l⟩:=g.seq z i;obtain⟨u,rfl,k⟩:=vals1 r;cases k;obtain⟨a,j,pl,_⟩:=I.list o;have hb:=qvf y l j;have hl:=pl.isList;have c:p<s.heap.objs.size:=by obtain⟨_,e,_⟩:=id hl; exact Qqf e
  refine call_all_walk (Zq hl ?_)
  refine⟨s.heap.objs.size,[s.heap.objs.size,p],[s.heap.objs.size],a.toArray.size,_,_,λi=>(bs[i]?).getD L,rfl,Walks.list (A:=X.A.in1) (I.ok.hd hc) _ p (Qq1 c) a.toArray,
   ⟨⟨_,Qqh _ rfl,rfl,rfl⟩,hl.push _⟩,λi v s' E F t f=>?_,λh' tk hk=>?_⟩
  ·obtain⟨b,e,rfl⟩:=hb.get i v (by simpa using t);simp only[e]at f;exact Qe f
  ·have e:((List.range a.toArray.size).all λi=>(bs[i]?).getD L)=bs.all id:=by
    rw[Qqe,hb.length]; exact LSm.range_all bs
   rw[e];exact⟨.bl _,H,I.kept (LSm.kept_iter hk),rfl,q.here g (mkBl _)⟩
 ·exact nn e
def range_any(bs:Z Yb):((List.range bs.length).any λi=>(bs[i]?).getD Y6)=bs.any id:=by
 rw[Qkm,Qz2,Qz2];constructor
 ·rintro⟨i,hi,h⟩;have hi:=Qz6.mp hi;rw[Qqb hi]at h;exact⟨bs[i],Qxn hi,h⟩
 ·rintro⟨b,hb,h⟩;obtain⟨i,hi,rfl⟩:=Qx4 hb;exact⟨i,Qz6.mpr hi,by rw[Qqb hi]; exact h⟩
def qf5(hc:X.calm=L):qqv X (.builtin "any") (rC X.K M.bAny):=by
 intro pins s σ H xs D Q I r h;refine h.el λm st ds d st' g n e q=>?_;unfold M.bAny at e
 split at e
 ·refine qzx e λC z e=>qzd e λbs y w=>?_;cases w;obtain⟨x,rfl,i⟩:=n.one;obtain⟨p,ys,_,rfl,o,l⟩:=g.seq z i;obtain⟨u,rfl,k⟩:=vals1 r;cases k;obtain⟨a,j,pl,_⟩:=I.list o;have hb:=qvf y l j;have hl:=pl.isList;have c:p<s.heap.objs.size:=by obtain⟨_,e,_⟩:=id hl; exact Qqf e
  refine call_any_walk (Zq hl ?_)
  refine⟨s.heap.objs.size,[s.heap.objs.size,p],[s.heap.objs.size],a.toArray.size,_,_,λi=>(bs[i]?).getD Y6,rfl,Walks.list (A:=X.A.in1) (I.ok.hd hc) _ p (Qq1 c) a.toArray,
   ⟨⟨_,Qqh _ rfl,rfl,rfl⟩,hl.push _⟩,λi v s' E F t f=>?_,λh' tk hk=>?_⟩
  ·obtain⟨b,e,rfl⟩:=hb.get i v (by simpa using t);simp only[e]at f;exact Qe f
  ·have e:((List.range a.toArray.size).any λi=>(bs[i]?).getD Y6)=bs.any id:=by
    rw[Qqe,hb.length]; exact range_any bs
   rw[e];exact⟨.bl _,H,I.kept (LSm.kept_iter hk),rfl,q.here g (mkBl _)⟩
 ·exact nn e
theorem qq5(x):∀l:Z J,(M.insInt x l).Perm (x::l)
 |[]=>.refl _
 |y::r=>by
  unfold M.insInt
  split
  ·exact .refl _
  ·exact((qq5 x r).cons y).trans (.swap x y r)
theorem sortInt_perm:∀l:Z J,(M.sortInt l).Perm l
 |[]=>.refl _
 |x::r=>by
  unfold M.sortInt;exact(qq5 x _).trans ((sortInt_perm r).cons x)
theorem qxy(x):∀l:Z J,l.Pairwise (· <= ·)->(M.insInt x l).Pairwise (· <= ·)
 |[],_=>by unfold M.insInt; simp
 |y::r,h=>by
  unfold M.insInt
  split
  ·rename_i b;refine List.Pairwise.cons (λz a=>?_) h;rcases Qqc.mp a with e|e
   ·rw[e]; exact b
   ·exact Int.le_trans b ((Qxj.mp h).1 z e)
  ·rename_i b;have h':=Qxj.mp h;refine List.Pairwise.cons (λz a=>?_) (qxy x r h'.2);rcases Qqc.mp ((qq5 x r).mem_iff.mp a) with e|e
   ·rw[e]; lia
   ·exact h'.1 z e
theorem sortInt_sorted:∀l:Z J,(M.sortInt l).Pairwise (· <= ·)
 |[]=>by unfold M.sortInt; simp
 |x::r=>by
  unfold M.sortInt;exact qxy x _ (sortInt_sorted r)
theorem qxk{K:Qqq}:∀(ns:Z J),IsDs K m H (ns.map D.int) (ns.map V.int)
 |[]=>qqk
 |n::r=>qzn (mkInt n) (qxk r)
def qwo(U:X.A.handled=B):qqv X (.builtin "sorted") (rC X.K M.bSorted):=by
 intro pins s σ H xs us Q I r h;refine h.el λm st ds d st' g T e q=>?_;unfold M.bSorted at e
 split at e
 ·refine qzx e λE k e=>qzd e λns l e3=>?_;cases e3
  split at l
  ·exact nn l
  ·rename_i a0;obtain⟨x,rfl,i⟩:=T.one;rcases orO k with k|k
   case inr=>
    obtain⟨p,ys,rfl,z,j⟩:=g.dkeys k i;obtain⟨u,rfl,n⟩:=vals1 r;cases n;obtain⟨vs,R,kv,da,lo,hn⟩:=qfc I z;obtain⟨D,S⟩:=ints_of l j;have l1:=j.length;rw[Qqz]at l1;have l5:=kv.length;refine qbm (ns:=ns) (PySem.W.kdl_dict lo) U da ?d (λLq hl hv=>?_) λa h1 tk c f t hk ha A K G F=>?_
    ·have P:=qj1 kv hl hv;rw[D]at P;exact intsAre_of P
    ·have C:=PySem.W.ksm_same (G.trans (sortInt_perm ns).symm) F (sortInt_sorted ns);subst C;have w:=(sortInt_perm ns).length_eq;have v:=qqy;have l6:ns.length=E.length:=by
      have:=congrArg List.length S;rw[Qqz]at this;exact this.symm
     have fr:=I.hok.fresh ha;refine⟨.ref a,upd H a (.lst ((M.sortInt ns).map V.int)),I.laid hk ha ⟨?_,f.toList,c,qq9 K,?_⟩,rfl,?_⟩
     ·rw[Qqz,w,v];unfold M.lim
      lia
     ·rw[A]
     ·exact q _ (m++[_]) _ (Sub.app m _) (Tr.of_same (qza fr)) (g.new fr (qxk _)) g.newLoc
   obtain⟨p,ys,_,rfl,z,j⟩:=g.seq k i;obtain⟨u,rfl,n⟩:=vals1 r;cases n;obtain⟨y,N,pl,_⟩:=I.list z;obtain⟨D,S⟩:=ints_of l j;have l1:=j.length;have l2:=N.length;subst D;have W:=intsAre_of N;refine sorted_ints pl.isList W ?d λf t K G F=>?_;have C:=PySem.W.ksm_same (G.trans (sortInt_perm ns).symm) F (sortInt_sorted ns);subst C;obtain⟨R,A⟩:=sortedAll_at s.heap y f;have fr:=I.hok.fresh (Qxo _);have w:=(sortInt_perm ns).length_eq;have v:=qqy;rw[Qqz]at l1;refine⟨.ref ?O,upd H ?O (.lst ((M.sortInt ns).map V.int)),I.laid (λb o e=>sortedAll_old e) (Qxo _) ?_,rfl,?_⟩
   ·refine⟨?_,f.toList,R,qq9 K,?_⟩
    ·rw[Qqz,w,v];unfold M.lim
     lia
    ·rw[A]
   ·exact q _ (m++[_]) _ (Sub.app m _) (Tr.of_same (qza fr)) (g.new fr (qxk _)) g.newLoc
 ·exact nn e
def qee(K)(n t)(a:t≠.non):PySem.W.kitOne K (.type n.name) (.type t.name)=Y (M.tyIs t n):=by
 cases n<;>cases t<;>first
  |exact absurd rfl a
  |rfl
  |decide +kernel
theorem qef(K)(n):∀ts:Z M.Ty,(∀t∈ts,t≠.non)->PySem.W.kitAny K (.type n.name) (ts.map λt=>Value.type t.name)=Y (ts.any λt=>M.tyIs t n)
 |[],_=>rfl
 |t::ts,h=>by
  rw[Qqd,Qxb];unfold PySem.W.kitAny;rw[qee K n t (h t Qzk)]
  cases M.tyIs t n with
  |true=>rfl
  |false=>exact qef K n ts λa b=>h a (Qq6 _ b)
def qll{st:Y1}(I:Inv X c v H s)(p:Rel X.K m st H)(h:IsD X.K m H d x)(r:RelV x u)(e:M.tyName st d=Y n):
  ∃q:Heap->Prop,PySem.W.KitX X.K u (.type n.name) q/\q s.heap/\u≠.builtin "__main__.__loader__#opaque":=by
 cases d with
 |non=>cases h.non; cases r; cases e; exact⟨_,PySem.W.kitx_none,True.intro,λz=>nomatch z⟩
 |bl b=>cases h.bl; cases r; cases e; exact⟨_,PySem.W.kitx_bool,True.intro,λz=>nomatch z⟩
 |int b=>cases h.int; obtain⟨t,rfl⟩:=r; cases e; exact⟨_,PySem.W.kitx_int,True.intro,λz=>nomatch z⟩
 |str b=>cases h.str; obtain⟨t,rfl⟩:=r; cases e; exact⟨_,PySem.W.kitx_str,True.intro,λz=>nomatch z⟩
 |tup ds=>
  obtain⟨a,xs,f,rfl,g,k,y,p1⟩:=qz6 I h;cases r;cases e;obtain⟨o,h1,h2,_⟩:=p1;exact⟨_,PySem.W.kitx_tuple,⟨o,h1,h2⟩,λz=>nomatch z⟩
 |loc l=>
  simp only[M.tyName]at e;refine qzd e λds j i=>?_;subst i;obtain⟨a,xs,_,rfl,g,k⟩:=p.seq j h;cases r;obtain⟨f,w,pl,_⟩:=I.list g;obtain⟨o,h1,h2,_⟩:=pl.isList;exact⟨_,PySem.W.kitx_list,⟨o,h1,h2⟩,λz=>nomatch z⟩
 |lst l=>
  simp only[M.tyName]at e;refine qzd e λds j i=>?_;subst i;obtain⟨a,xs,_,rfl,g,k⟩:=p.seq j h;cases r;obtain⟨f,w,pl,_⟩:=I.list g;obtain⟨o,h1,h2,_⟩:=pl.isList;exact⟨_,PySem.W.kitx_list,⟨o,h1,h2⟩,λz=>nomatch z⟩
def rIsi1(K:Qqq)(t:M.Ty):Z V->Hp->VK->Prop:=λxs H Q=>∃m st d n x,xs=[x,.ty t.name]/\Rel K m st H/\IsD K m H d x/\M.tyName st d=Y n/\Q (.bl (M.tyIs t n)) H
def qf4(t)(f:t≠.non):qqv X (.builtin "isinstance") (rIsi1 X.K t):=by
 intro pins s σ H xs j Q I r h;obtain⟨m,st,d,n,x,rfl,g,i,e,q⟩:=h;obtain⟨u,w,rfl,b,a⟩:=vals2 r;cases a;obtain⟨k,Zq,p,c⟩:=qll I g i b e;exact PySem.W.kia_one Zq I.kIn p (qee X.K n t f) c λtk=>⟨.bl _,H,I.tok tk,rfl,q⟩
def rIsiN(K:Qqq)(ts:Z M.Ty):Z V->Hp->VK->Prop:=λxs H Q=>∃m st d n x p,xs=[x,.ref p]/\H p=Y (.tup (ts.map λt=>V.ty t.name))/\Rel K m st H/\IsD K m H d x/\M.tyName st d=Y n/\Q (.bl (ts.any λt=>M.tyIs t n)) H
theorem qyt:∀{a:Z M.Ty}{us:Z Y7},Vals (a.map λt=>V.ty t.name) us->us=a.map λt=>Value.type t.name
 |[],_,.nil=>rfl
 |t::a,_,.cons r q=>by
  cases r;rw[qyt q]
  rfl
def qf3(a)(v:∀t∈a,t≠.non):qqv X (.builtin "isinstance") (rIsiN X.K a):=by
 intro pins s σ H xs C Q I r h;obtain⟨m,st,d,n,x,p,rfl,y,A,i,e,q⟩:=h;obtain⟨u,w,rfl,j,b⟩:=vals2 r;cases b;obtain⟨E,Zq,k,o⟩:=qll I A i j e;obtain⟨_,l,g,⟨cls,D,f,sl⟩,h1,h2,nn,c⟩:=I.hok p _ y;have z:=qyt g;subst z;simp only at h2 c;subst h2 c;exact PySem.W.kia_tup Zq I.kIn k h1 (qef X.K n a v) o λtk=>⟨.bl _,H,I.tok tk,rfl,q⟩
end
end MS
end
section
namespace DP
open PySem PySem.Spec
def qoa:typeLookup (.type "list") "keys" = pure none:=am_miss_of_fast ?j
def qks:entryFor table "dict.update.loop" = Y Qs.«dict.update.loop»:=entryFor_of_tree (by kernel_rfl)
def qqo:plainId "dict.update.loop" = true:=by decide +kernel
section
variable {prog:Program}{w:Qj}{A:Qk}{E:Y7->Qz->Prop}{s:Qz}
def qeh(i:s.heap.get? a=Y { cls:=.type "list",data:=.seq xs k,slots:=sl })(m:A.handled=B)(h:∀h' tk,(∀b o,s.heap.get? b=Y o->h'.get? b=Y o)->Q B { s with heap:=h',toks:=tk }):
  wpAny ?A A (getAttr? (.ref a) "keys") Q E s:=by
 obtain⟨l,g,d,tk,os⟩:=s;have j:∀c,(⟨l,g,d,c,os⟩:Qz).TypeIs (.ref a) "list":=λ_=>⟨_,i,rfl⟩
 have v:=sub_AttributeError;have u:=F.slot_list_getattribute.lookup;have t:=F.slot_list_getattribute.bind (.ref a);have r:=am_list_getattr_none;unfold getAttr? getAttrBy? getAttrBy
 repeat (any_goals (first|assumption|exact j _|((with_reducible show wpAny _ _ (call (Value.builtin "list.__getattribute__") _ _) _ _ _); refine Qr F.slot_list_getattribute (j _) am_entry_list_getattribute (F.args_list_getattribute_2 _ _) (meets_getattribute_miss_list a xs k sl "keys" _ qoa ?j) ⟨i,m,λh' c e f=>?_⟩)|wp_step))
 obtain⟨p,n,q⟩:=f.there;show wpAny _ _ (getattributeRaised _ _ _ _ _ _ _) _ _ _;unfold getattributeRaised
 repeat (any_goals (first|assumption|wp_step))
 exact h _ _ f.keeps
variable [DecidableEq K]{knd:KeyKind prog w K}{R:Result->Qz->Prop}
def Up(g h:Heap):Prop:=∀b o,g.get? b=Y o->h.get? b=Y o
def Up.tup(u:Up g h)(x:g.IsTuple b xs):h.IsTuple b xs:=by
 obtain⟨o,a,r⟩:=x;exact⟨o,u _ _ a,r⟩
def qgb(knd:KeyKind prog w K)(g:Heap)(items:Array Y7)(kvs:Z (K×Y7)):Prop:=
 kvs.length=items.size/\∀(i:Y0) (p:K×Y7),kvs[i]?=Y p->∃b key,items[i]?=Y (Value.ref b)/\knd.is p.1 key=L/\g.IsTuple b #[key,p.2]
def stored_new{k:K}(h:k ∉ kvs.map (·.1)):stored kvs k v=kvs++[(k,v)]:=by
 unfold stored;rw[Z8];intro a;obtain⟨p,b,e⟩:=Qz2.mp a;exact h (of_decide_eq_true e▸List.mem_map_of_mem b)
def qyy(W:A.handled=B)(hl:l<g.objs.size)(S:g.objs.size<=D)(N:g.objs.size<=I)(q:D≠I)(P:qgb knd g items kvs)(nd:(kvs.map (·.1)).Nodup)(hsz:kvs.length<=sizeLine):
  ∀(k i:Y0) (s:Qz),kvs.length - i=k->i<=kvs.length->s.heap.IsListIter I l i->s.heap.IsList l items->s.heap.DictOf knd D (kvs.take i)->Up g s.heap->
  (∀h' tk,h'.DictOf knd D kvs->Up g h'->R (.ok (.ret .none)) { s with heap:=h',toks:=tk })->
  Zk ?A A (.builtin "dict.update.loop" ⟨[.ref D,.ref I,rawInt i,.none],[]⟩) R s:=by
 have C:l≠I:=Qq1 (Qq0 hl N);intro k
 induction k with
 |zero=>
  intro i s hk hi hit d hd up H;have:i=kvs.length:=by omega
  subst this;refine Qu qks ?_;rw[Around.under_plainId qqo _];show wpAny _ A.in1 (pyNext (.ref I) >>= _) _ _ s;refine Qq (wpAny_pyNext_list_end (by simp[W]) hit d (Qji (Qky P.1.symm)) λh' Q=>?_);rw[Qzb]at hd;show wpAny _ A.in1 (Builtin.Dict.addKeywords D [] >>= _) _ _ _;refine Qq (Qx (Qx (H h' s.toks ?_ ?_)))
  ·obtain⟨o,es,ep,z,r⟩:=hd;exact⟨o,es,ep,Q _ _ q z,r⟩
  ·exact λb o e=>Q b o (Qq1 (Qq0 (Qqf e) N)) (up b o e)
 |succ k U=>
  intro i s hk hi hit d hd up H;have c:i<kvs.length:=by omega
  obtain⟨b,u,e1,e2,e3⟩:=P.2 i _ (Qqb c);refine Qu qks ?_;rw[Around.under_plainId qqo _];show wpAny _ A.in1 (pyNext (.ref I) >>= _) _ _ s;refine Qq (wpAny_pyNext_list_item hit d e1 λh1 x h=>?_);have t:Up g h1:=λb o e=>h.extBut b o (Qq1 (Qq0 (Qqf e) N)) (up b o e);have v:h1.IsList l items:=d.extBut h.extBut C;have G:h1.DictOf knd D (kvs.take i):=hd.extBut h.extBut q;obtain⟨ob,z,hc,n,y⟩:=t.tup e3;show wpAny _ A.in1 (Zo [Value.ref b] _ >>= _) _ _ _;refine Qq (Qt ?_);refine Qq (wpAny_tryCatch ?_);unfold Builtin.Dict.pairItems;refine Qq (Ze (T:="tuple") ⟨ob,z,hc⟩ ?_);rw[Z9 ?c];refine Qq (Qm z y (Qx ?_));show wpAny _ A.in1 (Zo [u,kvs[i].2] (dictSet D u kvs[i].2)) _ _ _;refine Qt ?_;have nm:kvs[i].1 ∉ (kvs.take i).map (·.1):=by
   intro m;rw[List.map_take]at m;obtain⟨j,hj,e⟩:=List.mem_take_iff_getElem.mp m;have V:j<i:=by omega
   refine Qxe.mp nd j i (by simp; omega) (by simpa using c) ?q ?_;rw[e,Qkc]
  refine wpAny_dictSet_pairs (s:={ s with heap:=h1 }) e2 G (λh2 p f=>?_) (by rw[Qzy]; omega);rw[stored_new nm]at p;have X:kvs.take i++[(kvs[i].1,kvs[i].2)]=kvs.take (i+1):=by rw[Qjf,Qqb c]; rfl
  rw[X]at p;have F:l≠D:=Qq1 (Qq0 hl S);refine Qx ⟨Z3 qqo _,?_⟩;refine U (i+1) _ ?q c ?_ ?_ p ?_ ?_
  ·exact x.at λo e=>(f.2 I (Ne.symm q)).trans e
  ·exact v.at λo e=>(f.2 l F).trans e
  ·exact λb o e=>(f.2 b (Qq1 (Qq0 (Qqf e) S))).trans (t b o e)
  ·exact λh' tk a b=>H h' tk a b
def call_pairs(q:A.handled=B)(hl:s.heap.get? l=Y { cls:=.type "list",data:=.seq items n,slots:=sl })(P:qgb knd s.heap items kvs)(nd:(kvs.map (·.1)).Nodup)(hsz:kvs.length<=sizeLine)(h:∀h' tk,h'.DictOf knd s.heap.objs.size kvs->Up s.heap h'->Q ?Z { s with heap:=h',toks:=tk }):
  wpAny ?A A (call (.type "dict") [.ref l]) Q E s:=by
 refine callType_codes (Q₁:=λobj f=>obj=.ref s.heap.objs.size/\f={ s with heap:=s.heap.push { cls:=.type "dict",data:=.dict #[] } }) F.kt_called_dict (F.kt_typeCall_dict_1 _) F.entry_dict_init (kt_code_dict_new _ ⟨rfl,rfl⟩) ?_;rintro obj f ⟨rfl,rfl⟩;have c:(s.heap.push { cls:=.type "dict",data:=.dict #[] }).DictOf knd s.heap.objs.size []:=Heap.DictOf.new s.heap;have j:Up s.heap (s.heap.push { cls:=.type "dict",data:=.dict #[] }):=λb o e=>Qqx _ e;refine⟨c.typeIs,F.args_dict_init_2 _ _,?_⟩;unfold Qs.«dict.__init__»;refine Qq ?_;unfold Builtin.Dict.selfAndRest;refine Qq (wpAny_notOrdered_dict c.typeIs ?_);show wpAny _ _ (pure (s.heap.objs.size,[Value.ref l])) _ _ _;refine Qx ?_;show wpAny _ _ (Builtin.Dict.updateFrom "dict.__init__" s.heap.objs.size (.ref l) [] .none) _ _ _;unfold Builtin.Dict.updateFrom;have i:=j _ _ hl;refine Qq (Ze (T:="list") ⟨_,i,rfl⟩ ?_);rw[Z9 ?c];refine Qq (qeh i (by simp[q]) λh1 x d=>?_);rw[Z9 (show(B:Y2 Y7).isNone=L from rfl)];refine Qq (Q9 ?_);have m:=d _ _ i;have k:s.heap.objs.size<h1.objs.size:=by
  have:(s.heap.push { cls:=.type "dict",data:=.dict #[] }).get? s.heap.objs.size=Y { cls:=.type "dict",data:=.dict #[] }:=Qqh _ rfl;exact Qqf (d _ _ this)
 have t:l<s.heap.objs.size:=Qqf hl;refine Qq (Zq (l:=l) (items:=items) ⟨_,m,rfl,n,rfl⟩ ?_);have p:h1.DictOf knd s.heap.objs.size []:=by
  obtain⟨o,es,v,u,r⟩:=c;exact⟨o,es,v,d _ _ u,r⟩
 refine Qx ⟨Z3 qqo _,?_⟩;refine qyy (g:=s.heap) (I:=h1.objs.size) (l:=l) (items:=items) (by simp[q]) t (Qqw _) (Qjj k) (Qq1 k) P nd hsz kvs.length 0 _ rfl (Qzg _) ⟨_,Qqh _ rfl,rfl,rfl⟩
  ⟨_,Qqx _ m,rfl,n,rfl⟩ (p.push _) (λb o e=>Qqx _ (d _ _ (j _ _ e))) λh' tk a b=>?_
 exact⟨rfl,h h' tk a b⟩
end
end DP
end
section
namespace MS
open PySem PySem.Spec PyProof.Rows L2
open M (D Ya Y1 Sl)
section
theorem qaw(I:Inv X f l H s):∀{ds}{kvs}{xs}{a},M.pairsI ds=Y kvs->IsDs X.K m H ds xs->Vals xs a->
  ∃(ks:Z (Key×V)) (c:Z (Key×Y7)),IsKV X.K m H (kvs.map λp=>(.int p.1,p.2)) ks/\KV ks c/\c.map (·.1)=kvs.map (λp=>(.inl p.1:Key))/\c.length=a.length/\
   ∀(i:Y0) (p:Key×Y7),c[i]?=Y p->∃b g,a[i]?=Y (Value.ref b)/\(mixKind X.prog X.w).is p.1 g=L/\s.heap.IsTuple b #[g,p.2]
 |[],kvs,xs,a,e,j,r=>by
  cases e;rw[j.nil]at r;cases r;exact⟨[],[],rfl,.nil,rfl,rfl,λi p h=>by simp at h⟩
 |d::ds,kvs,xs,a,e,j,r=>by
  unfold M.pairsI at e
  split at e
  ·rename_i h; cases h
  ·rename_i i v r' h;cases h;obtain⟨kr,T,rfl⟩:=Qqy.mp e;obtain⟨x,xr,rfl,i1,i2⟩:=j.cons
   cases r with
   |@cons _ u _ ur z y=>
   obtain⟨ks,c,a1,a2,a3,W,U⟩:=qaw I T i2 y;obtain⟨F,ys,rfl,S,R⟩:=i1.tup;cases z;obtain⟨y1,yr,rfl,Q,P⟩:=R.cons;obtain⟨o,rfl,N⟩:=P.one;obtain⟨G,w,q,_⟩:=I.tuple S
   cases w with
   |@cons _ k1 _ jr k E=>
   cases E with
   |@cons _ k2 _ K C A=>
   cases A;rw[Q.int]at k;obtain⟨t,rfl⟩:=k;refine⟨(.inl i,o)::ks,(.inl i,k2)::c,⟨_,_,_,rfl,rfl,N,a1⟩,.cons ⟨rfl,C⟩ a2,?_,?_,λn p h=>?_⟩
   ·rw[Qqd,Qqd,a3]
   ·rw[Qqm,Qqm,W]
   ·cases n with
    |zero=>
     cases h;exact⟨F,.int i t,rfl,qjs _ _ _ _,q⟩
    |succ n=>exact U n p h
  ·exact nn e
def qcy(F:X.A.handled=B):qqv X (.type "dict") (rC X.K M.bDict):=by
 intro pins s σ H xs T Q I r h;refine h.el λm st ds d st' c A e q=>?_;unfold M.bDict at e
 split at e
 ·refine qzx e λN K e=>qzx e λkvs G e=>?_
  split at e
  ·rename_i hc;have q:=q.of e;obtain⟨x,rfl,i⟩:=A.one;obtain⟨p,ys,_,rfl,D,z⟩:=c.seq K i;obtain⟨u,rfl,t⟩:=vals1 r;cases t;obtain⟨C,v,⟨o,n,E,j,g,f⟩,_⟩:=I.list D;obtain⟨V,U,w,os⟩:=o;dsimp only at j g f;subst j g f;obtain⟨ks,b,S,l,k,R,P⟩:=qaw I G z v;have nd:(b.map (·.1)).Nodup:=by
    rw[k];exact Qjg.mpr ((Qjg.mp hc.1).imp λh e=>h (Sum.inl.inj e))
   have y:b.length=kvs.length:=by simpa using congrArg List.length k
   have hl:b.length<=sizeLine:=by rw[y]; exact hc.2
   refine DP.call_pairs (knd:=mixKind X.prog X.w) F E ⟨by rw[R]; simp,λi p h=>by simpa using P i p h⟩ nd hl λh' tk hd up=>?_;have fresh:=I.hok.fresh (Qqw s.heap.objs.size);refine⟨.ref s.heap.objs.size,_,I.laid (a:=s.heap.objs.size) (o:=.dK ks) up (Qqw _) ⟨?_,beq_eq_false_iff_ne.mpr (Ne.symm (Qq1 I.big)),b,l,hd⟩,rfl,q _ (m++[s.heap.objs.size]) _ (Sub.app m _) (Tr.of_same (qza fresh)) (c.newD fresh S) c.newLoc⟩;rw[Paired.length l];exact hl
  ·exact nn e
 ·exact nn e
end
end MS
end
section
namespace MS
open PySem PySem.Spec PyProof.Rows L2
abbrev qxe(cells:Z (Y4×Y5)):Z (Y4×Ql)->Z (Y4×Y5)->Z (Y4×Y5)
 |[],acc=>acc
 |(n,k)::r,acc=>qxe cells r (if k==.free then(match cells.lookup n with|some a=>(n,a)::acc|none=>acc) else acc)
def qfl:∀(names:Z (Y4×Ql)) (b:Z (Y4×Y5)),(∀x∈names,x.2=.free->∃c,env.cells.lookup x.1=Y c)->
  (forIn names b λx r=>match x,r with
   |(name,kind),cs=>if (kind==.free)=L then do let a <- cellOf env name; pure (ForInStep.yield ((name,a)::cs)) else pure (ForInStep.yield cs):Sem (Z (Y4×Y5)))=pure (qxe env.cells names b):=by
 intro names
 induction names with
 |nil=>intro b _; rfl
 |cons x r e=>
  intro b h;obtain⟨n,k⟩:=x;rw[List.forIn_cons];have hr:=λb=>e b λy f=>h y (Qq6 _ f)
  by_cases hk:k=.free
  ·subst hk;obtain⟨c,hc⟩:=h (n,.free) Qzk rfl;simp only[ cellOf,hc];simp only[pure_bind];refine(hr ((n,c)::b)).trans ?_;have d:=hc;simp[qxe,d]
  ·have hb:(k==NameKind.free)=false:=by simpa using hk
   simp only[hb,pure_bind];refine(hr b).trans ?_;simp[qxe,hb]
def qvc(h:∀x∈a.names,x.2=.free->∃c,env.cells.lookup x.1=Y c):closureFor a env=pure (qxe env.cells a.names []):=by
 unfold closureFor;have:=qfl a.names [] h;simp only[this]
 rfl
theorem qvd(hc:a.lookup x=Y c):∀(names:Z (Y4×Ql)) (b:Z (Y4×Y5)),((x,NameKind.free)∈names\/b.lookup x=Y c)->(qxe a names b).lookup x=Y c
 |[],b,h=>by
  rcases h with h|h
  ·cases h
  ·exact h
 |(n,k)::r,b,h=>by
  unfold qxe;refine qvd hc r _ ?_
  by_cases hk:k=.free
  ·subst hk;simp only[beq_self_eq_true,if_true]
   by_cases hn:n=x
   ·subst hn;rw[hc];exact .inr ?g
   ·rcases h with h|h
    ·rcases Qqc.mp h with e|e
     ·cases e; exact absurd rfl hn
     ·exact .inl e
    ·refine .inr ?_
     split
     ·have:(x==n)=false:=by simpa using Ne.symm hn
      rw[Qzl,this]; exact h
     ·exact h
  ·have hb:(k==NameKind.free)=false:=by simpa using hk
   rw[hb,Z8 Qzx];rcases h with h|h
   ·rcases Qqc.mp h with e|e
    ·cases e; exact absurd rfl hk
    ·exact .inl e
   ·exact .inr h
theorem qz8:∀(names:Z (Y4×Ql)) (f:Z (Y4×Y5)),(∀x c,f.lookup x=Y c->b.lookup x=Y c)->∀x c,(qxe b names f).lookup x=Y c->b.lookup x=Y c
 |[],f,h,x,c,e=>h x c e
 |(n,k)::r,f,h,x,c,e=>by
  unfold qxe at e;refine qz8 r _ ?_ x c e;intro y d q
  by_cases hk:(k==NameKind.free)=L
  ·rw[Z9 hk]at q
   split at q
   ·rename_i a ha
    by_cases g:(y==n)=L
    ·rw[Qzl,g]at q;rw[eq_of_beq g,ha]; exact q
    ·have:(y==n)=false:=by simpa using g
     rw[Qzl,this]at q;exact h y d q
   ·exact h y d q
  ·rw[Z8 hk]at q;exact h y d q
theorem qqj(env:Env):∀(names:Z (Y4×Ql)) (x:Y4),(names.map λ(n,k)=>if (k==NameKind.free&&env.scope.kind==.function&&env.kindOf n==Y .cell) then(n,NameKind.cell) else(n,k)).lookup x =
  (names.lookup x).map λk=>if (k==NameKind.free&&env.scope.kind==.function&&env.kindOf x==Y .cell) then NameKind.cell else k
 |[],x=>rfl
 |(n,k)::r,x=>by
  have c:=qqj env r x;rw[Qqd]
  by_cases b:(x==n)=L
  ·have e:=eq_of_beq b;subst e;dsimp only
   split
   ·rename_i hc;rw[Qzl,b,Qzl,b];dsimp only[oMs];rw[Z9 hc]
   ·rename_i hc;rw[Qzl,b,Qzl,b];dsimp only[oMs];rw[Z8 hc]
  ·have a:(x==n)=false:=by simpa using b
   dsimp only
   split
   ·rw[Qzl,a,Qzl,a]; exact c
   ·rw[Qzl,a,Qzl,a]; exact c
section
def qwn(E:∀e s',o e s'->notedBy ?A A env (λe s'=>R (.error e) s') e s')(I:Y0->Qz->Prop)(turn:∀n s,I n s->wpAny ?A A (pyNext it) (λr d=>match r with
   |none=>R (.ok .next) d
   |some v=>wpAny ?A A (Zp a it v) (λ_ s₀=>wpAny ?A A (assign a env v) (λ_ i=>
     wpAny ?A A (forIn ifs L λc r=>if r=L then do let ok <- isTrue c env (Qa c env); pure (ForInStep.yield ok) else pure (ForInStep.yield r)) (λok b=>
      if ok=L then wpAny ?A A (Qa elt env) (λx g=>wpAny ?A A (call (.builtin "list.append") [D,x]) (λ_ f=>∃m,m<n/\I m f) o g) o b
      else ∃m,m<n/\I m b) o i) o s₀) o d) o s)(n)(h:I n s):Zk ?A A (.compLoop (.ListComp elt [⟨a,p,ifs,0⟩] l pos) 0 it D env) R s:=by
 refine codeAny_loop rfl I (λn s F=>?_) n h;refine wpAny_noted (Qh ?_ (λ_ _ q=>q) E);rw[compTurn_list];refine Qq (wpAny_standAt (Qq (Qh (turn n s F) (λr d k=>?_) λ_ _ z=>z)))
 cases r with
 |none=>exact Qx k
 |some v=>
  refine Qq (Qh k (λ_ s₀ C=>?_) λ_ _ z=>z);refine Qq (Qh C (λ_ i y=>Qq (Qh y (λok b j=>?_) λ_ _ z=>z)) λ_ _ z=>z)
  cases ok with
  |false=>exact Qx ⟨rfl,j⟩
  |true=>
   exact Qq (Qq (Qh j (λx g u=>Qq (Qh u (λ_ f t=>Qx (Qx ⟨rfl,t⟩)) λ_ _ z=>z)) λ_ _ z=>z))
end
def HOk.track(x:HOk P w H h)(hn:H a=B)(new:ObjOk P w (upd H a o) h a o):HOk P w (upd H a o) h:=λb u e=>by
 by_cases hb:b=a
 ·subst hb; rw[qzw]at e; cases e; exact new
 ·rw[qzq hb]at e;exact(x b u e).stay (λc v _ q=>q) (λc q=>by rw[qzq (qzg q hn)]; exact q) λc xs q=>by rw[qzq (qzg q hn)]; exact q
theorem Inv.track(I:Inv X c f H s)(hf:FpOk X c H a)(new:ObjOk X.prog X.w (upd H a o) s.heap a o):Inv X c f (upd H a o) s:=by
 obtain⟨d,k,l,j,i,g⟩:=hf;refine I.step (ch:=[a]) (λb hb=>?_) (λb o _ _ _ e _=>e) (λb o _ _ _ e _=>⟨o.slots,e⟩) (λb o hb e n=>?_) (λb o _ e=>⟨o,e⟩)
  (λb xs e=>by rw[qzq (qzg e d)]; exact e) (λb o u e=>by rw[qzq (qzg e d)]; exact e) (λb ps e=>⟨#[],by rw[qzq (qzg e d),e]; simp⟩) (λm h=>h) (HOk.track I.hok d new) I.bare
 ·have e:b=a:=by simpa using hb
  subst e;exact⟨j,k,i,g⟩
 ·rw[qzq (by simpa using hb)]; exact n
abbrev qzi(X:Cx)(N:Z Y4)(scope:Scope)(C:Y5)(fp:Z Y5)(s:Qz)(H:Hp):Cx:=
 { X with N:=N,s₀:=s,H₀:=H,env:=compEnvC scope (qxe X.env.cells scope.names []) C X.env,outer:=X.stack,ex:=fp,fn:=λ_=>Y6,pn:=[],xe:=λ_ _=>False }
abbrev qqu(src:Z (Y2 Y0))(σ:L2.St):L2.St:=src.map λo=>o.bind λi=>(σ[i]?).bind id
structure CompScope (X:Cx) (N:Z Y4) (src:Z (Y2 Y0)) (scope:Scope):Prop where
 kind:scope.kind=.function
 cell:∀y∈scope.names,y.2≠.cell
 free:∀y∈scope.names,y.2=.free->X.env.kindOf y.1=Y .cell\/X.env.kindOf y.1=Y .free
 loc:∀y∈scope.names,y.2=.local->scope.names.lookup y.1=Y .local
 len:src.length=N.length
 src:∀(j i:Y0),src[j]?=Y (Y i)->∃x,N[j]?=Y x/\X.N[i]?=Y x/\scope.names.lookup x=Y .free
section
def mem_lookup{names:Z (Y4×Ql)}(h:names.lookup x=Y k):(x,k)∈names:=PySem.mem_of_lookup h
def qwm(S:CompScope X N src a)(I:Inv X pins σ H s):closureFor a X.env=pure (qxe X.env.cells a.names []):=
 qvc λx b hk=>I.ok.has x.1 (S.free x b hk)
def qpo(S:CompScope X N src a)(I:Inv X pins σ H s)(j:s.heap.objs.size<=C)(d:∀b∈fp,FpOk X pins H b)(g:∀b∈fp,b<s.heap.objs.size):(qzi X N a C fp s H).Ok where
 mod:=I.ok.mod
 kind:=S.kind
 glob:=I.ok.glob
 blt:=I.ok.blt
 above:=j
 inj:=λx y c h1 h2=>I.ok.inj x y c (qz8 _ [] (λ_ _ z=>nomatch z) x c h1) (qz8 _ [] (λ_ _ z=>nomatch z) y c h2)
 has:=λx h=>by
  have e:(qzi X N a C fp s H).env.kindOf x=(a.names.lookup x).map λk=>if (k==NameKind.free&&X.env.scope.kind==.function&&X.env.kindOf x==Y .cell) then NameKind.cell else k:=qqj X.env a.names x
  rw[e]at h
  cases q:a.names.lookup x with
  |none=>rw[q]at h; rcases h with h|h<;>cases h
  |some k=>
   have hk:k=.free:=by
    rw[q]at h;simp only[oMs,Option.some.injEq]at h
    by_cases hc:(k==NameKind.free&&X.env.scope.kind==.function&&X.env.kindOf x==Y .cell)=L
    ·simp only[Qqt]at hc;exact eq_of_beq hc.1.1
    ·rw[Z8 hc]at h;rcases h with h|h
     ·subst h; exact absurd rfl (S.cell _ (mem_lookup q))
     ·exact h
   subst hk;have i:=mem_lookup q;obtain⟨c,hc⟩:=I.ok.has x (S.free _ i rfl);exact⟨c,qvd hc _ _ (.inl i)⟩
 cab:=λx c h=>by cases h
 hd:=I.ok.hd
 frames:=I.ok.frames
 stk:=.inl rfl
 exf:=λb hb=>⟨Qq1 (Qq0 (g b hb) j),λx c e=>(d b hb).2.2.2.2.1 x c (qz8 _ [] (λ_ _ z=>nomatch z) x c e)⟩
 bs:=I.bs
 bsz:=Qzn I.ok.bsz I.sz
 noex:=λb o e hb=>by
  rcases (d b hb).2.2.2.1 with z|z
  ·exact I.ok.noex b o e z
  ·exact absurd (Qq0 (Qqf e) (Qzn I.ok.bsz z)) (Qxa _)
 exfs:=λb hb hf=>by
  have f:=d b hb;rcases Qqc.mp (I.stkSub b hf) with z|z
  ·exact f.2.1 z
  ·exact f.2.2.1 z
 funs:=I.stack
 frf:=I.stkFree
def qck(S:CompScope X N src a)(I:Inv X pins σ H s)(D:s.heap.objs.size<=C)(n:∀b∈fp,FpOk X pins H b)(l:∀b∈fp,b<s.heap.objs.size)(kp:∀b o,s.heap.get? b=Y o->h'.get? b=Y o)(ns:h'.Ns C A):Inv (qzi X N a C fp s H) [] (qqu src σ) H { s with heap:=h',toks:=tk }:=by
 have R:=qpo S I D n l;refine⟨R,rfl,I.bare,Un.kept kp,⟨A,ns,λj x v r d hv=>?_⟩,λx c e=>?_,I.hok.fresh D,λx c e=>?_,λp G=>absurd (show p∈([]:Z ?qi) from G) ?g,I.hok.kept kp,?_⟩
 ·unfold qqu at d;rw[Qqv]at d
  cases q:src[j]? with
  |none=>rw[q]at d; cases d
  |some o=>
   rw[q]at d
   cases o with
   |none=>cases d
   |some i=>
    obtain⟨T,E,P,t⟩:=S.src j i q;have r:N[j]?=Y x:=r;rw[r]at E;cases E;have hi:σ[i]?=Y (Y v):=by
     cases z:σ[i]? with
     |none=>simp[z]at d
     |some w=>
      cases w with
      |none=>simp[z]at d
      |some w=>simpa[z] using d
    obtain⟨U,K,m⟩:=I.loc;have hk:=S.free _ (mem_lookup t) rfl;have g:Vis X.env.scope x:=by
     rcases hk with z|z
     ·exact .inr (.inl z)
     ·exact .inr (.inr z)
    obtain⟨u,F,lk⟩:=m i x v P hi g;refine⟨u,F,?_⟩;rcases lk with⟨z,_⟩|⟨_,c,hc,f⟩
    ·rcases hk with y|y
     ·rw[y]at z; cases z
     ·rw[y]at z; cases z
    ·refine .inr ⟨?_,c,qvd hc _ _ (.inl (mem_lookup t)),?_⟩
     ·have e:(qzi X N a C fp s H).env.kindOf x=(a.names.lookup x).map λk=>if (k==NameKind.free&&X.env.scope.kind==.function&&X.env.kindOf x==Y .cell) then NameKind.cell else k:=qqj X.env a.names x
      rw[e,t];simp only[oMs]
      by_cases hc:(NameKind.free==NameKind.free&&X.env.scope.kind==.function&&X.env.kindOf x==Y .cell)=L
      ·rw[Z9 hc]; exact .inl rfl
      ·rw[Z8 hc]; exact .inr rfl
     ·obtain⟨o,h,hd⟩:=f;exact⟨o,kp c o h,hd⟩
 ·have Q:=qz8 _ [] (λ_ _ z=>nomatch z) x c e;obtain⟨v,o,h,hd⟩:=I.cell x c Q;exact⟨v,o,kp c o h,hd⟩
 ·exact I.freeC x c (qz8 _ [] (λ_ _ z=>nomatch z) x c e)
 ·unfold qqu;rw[Qqz];exact S.len
end
def qce(X:Cx)(ifs:Z Expr)(tt:TT):Prop:=∀(pins:Z ?qi) (s:Qz) (σ:L2.St) (H:Hp) (Q:Yb->Hp->Prop),Inv X pins σ H s->tt σ H Q->
 wpAny ?v X.A (forIn ifs L λc r=>if r=L then do let ok <- isTrue c X.env (Qa c X.env); pure (ForInStep.yield ok) else pure (ForInStep.yield r)) (TP X pins σ Q) X.xe s
def qgu:qce X [] (λ_ H Q=>Q L H):=λpins s σ H Q I h=>by
 exact Qx ⟨H,I,h⟩
def qgt(hc:PT X c tc):qce X [c] tc:=λpins s σ H Q I h=>by
 rw[List.forIn_cons];simp only[if_true];refine Qq (Qq (thn (hc pins s σ H Q I h) λb a q=>Qx ?_));exact Qx q
def qku{c4:Z V->Hp->Prop}{RR:Y7->Y5->Result->Qz->Prop}{Ex:Y5->Y5->Y7->Qz->Prop}(hc:X.calm=L)(I:Inv X t σ H s)(T:Turn X.prog X.w X.K tg Jq fp it tn)(a5:tn 0 s.heap)(A:∀b∈fp,FpOk X t H b)(S:CompScope X N src scope)(hg:∀C,PG (qzi X N scope C fp s H) tg g)(ht:∀C,qce (qzi X N scope C fp s H) ifs tt)(he:∀D C,PE ((qzi X N scope C fp s H).wish (Ex D C)) elt te)(c9:∀D C,s.heap.objs.size<=C->∀e s',Ex D C e s'->notedBy ?v X.A (compEnvC scope (qxe X.env.cells scope.names []) C X.env) (λe s'=>RR (.ref D) C (.error e) s') e s')(W:Y0->Y0->Z V->L2.St->Hp->Prop)(w0:∃k,W 0 k [] (qqu src σ) H)(step:∀i k f σ H,W i k f σ H->(Jq.stop i H/\f.length<=sizeLine/\c4 f H)\/(Jq.go i H/\f.length<sizeLine/\∀x H',Jq.yld i H x H'->g x σ H' λU H2=>tt U H2 λb H3=>
   if b=L then te U H3 λv H4=>∃k',k'<k/\W (i+1) k' (f++[v]) U H4 else ∃k',k'<k/\W (i+1) k' f U H3))(c8:∀D C s' H' f,c4 f H'->H' D=B->Inv X t σ (upd H' D (.lst f)) s'->FpOk X t (upd H' D (.lst f)) C->(∃m,s'.heap.Ns C m)->RR (.ref D) C (.ok .next) s'):
  wpAny ?v X.A (newList []) (λf s₃=>wpAny ?v X.A (newFunctionEnv scope X.env.globals (qxe X.env.cells scope.names []) [] X.env.qual B .none (Y X.env)) (λa3 b9=>
   Zk ?v X.A (.compStart (.ListComp elt [⟨tg,a0,ifs,0⟩] scope pos) 0 (.ref it) f { a3 with scope:=relabel scope X.env }) (RR f a3.locals) b9) E s₃) E s:=by
 have c1:∀b∈fp,b<s.heap.objs.size:=λb hb=>by obtain⟨o,e,_⟩:=T.obj 0 _ a5 b hb; exact Qqf e
 refine Qi (wpAny_newFunctionEnv S.cell (by intro y hy; simp at hy) (λa1 l j=>?_) S.kind);generalize a9:s.heap.push { cls:=.type "list",dict:=B,data:=.seq ([]:Z Y7).toArray }=H2 at l j ⊢;have hC:H2.objs.size=s.heap.objs.size+1:=by rw[<- a9,Qxc]
 have G:s.heap.objs.size≠H2.objs.size:=by rw[hC]; exact Qq1 (Qzp _)
 have R:s.heap.objs.size<=H2.objs.size:=by rw[hC]; exact Qxo _
 have a6:=λb o e=>j.extBut b o (by rw[hC]; exact Qq1 (Qjx (Qqf e))) (Qqx _ (a9▸Qqx _ e));have a2:=j.extBut _ _ G (Qqx _ (a9▸Qqh _ rfl));generalize Q:s.heap.objs.size=Dd at G R a2;generalize d5:H2.objs.size=Cc at G R l j hC ⊢;have b0:=Qky Q;have b5:s.heap.objs.size<=Cc:=by rw[Q]; exact R
 have fD:=I.hok.fresh b0;have I1:Inv ?qc [] (qqu src σ) H { s with heap:=a1,toks:=s.toks+([]:Z (Y4×Y7)).length }:=qck S I b5 A c1 a6 l;have c0:∀b∈fp,b≠Dd:=λb hb=>by rw[<- Q]; exact Qq1 (c1 b hb)
 have b6:∀x c,(?qc).env.cells.lookup x=Y c->c≠Dd:=λx c e z=>by
  have e':=qz8 _ [] (λ_ _ z=>nomatch z) x c e;obtain⟨v,o,ho,_⟩:=I.cell x c e';rw[z,<- Q]at ho;exact Qxa _ (Qqf ho)
 have fsD:Dd ∉ (?qc).fs:=λz=>by
  obtain⟨_,o,ho,_⟩:=I1.ok.funs.mem z;rw[<- Q]at ho;exact Qxa _ (Qqf ho)
 have P:∀{pl:Z ?qi}{H':Hp},(∀p∈pl,p.1=Dd)->(∀b∈fp,H' b=B)->∀b∈fp,FpOk ?qc pl H' b:=λ{pl H'} c5 hn b hb=>
  ⟨hn b hb,(I1.ok.exf b hb).1,I1.ok.exfs b hb,.inl hb,(I1.ok.exf b hb).2,λp n=>by
   have c6:=n
   rw[c5 p c6]; exact(c0 b hb).symm⟩
 obtain⟨k0,w0⟩:=w0;have loop:∀s₃:Qz,s₃={ s with heap:=a1,toks:=s.toks+([]:Z (Y4×Y7)).length }->
   Zk ?v X.A (.compLoop (.ListComp elt [⟨tg,a0,ifs,0⟩] scope pos) 0 (.ref it) (.ref Dd) (compEnvC scope (qxe X.env.cells scope.names []) Cc X.env)) (RR (.ref Dd) Cc) s₃:=by
  rintro s₃ rfl;refine qwn (c9 Dd Cc b5) (λk s'=>∃i f h nn b8 H',Inv ?qc [] b8 H' s'/\tn i s'.heap/\(∀b∈fp,H' b=B)/\W i k f b8 H'/\Vals f h/\s'.heap.get? Dd=Y { cls:=.type "list",data:=.seq h.toArray nn }/\H' Dd=B) ?_ k0
   ⟨0,[],[],0,qqu src σ,H,I1,T.keep _ _ _ a5 λb _ o e=>a6 b o e,λb hb=>(A b hb).1,w0,.nil,a2,fD⟩
  rintro k s3 ⟨i,f,h,nn,K,H3,I3,t3,c2,w3,rv,c7,a7⟩;have c3:Inv ?qc [(Dd,{ cls:=.type "list",data:=.seq h.toArray nn })] K H3 s3:=I3.pins_of λp n=>by
   have e:p=(Dd,{ cls:=.type "list",data:=.seq h.toArray nn }):=by simpa using n
   subst e
   exact⟨c7,a7,G,fsD,λv z=>by
    have z':=z
    cases z'⟩
  rcases step i k f K H3 w3 with⟨stop,hz,d2⟩|⟨go,hz,next⟩
  ·refine thn (T.done ?qc rfl rfl rfl hc i _ s3 K H3 (Ex Dd Cc) c3 (P (λp n=>by rw[Qqa.mp n]) c2) t3 stop) λr s4 ⟨hr,I4⟩=>?_;subst hr;have p4:=I4.pin (Dd,{ cls:=.type "list",data:=.seq h.toArray nn }) (Qql _ ?g);have I5:=I.call' I4.os I4.base I4.hok I4.bare λb hb=>⟨(A b hb).2.2.2.1,(A b hb).2.1,(A b hb).2.2.2.2.1,(A b hb).2.2.2.2.2⟩
   have d1:=I.fpOk b0 a7;refine c8 Dd Cc s4 H3 f d2 a7 (Inv.track I5 d1 ⟨hz,h,nn,rv,p4.1⟩) (I.fpOk b5 (by rw[qzq (Ne.symm G)]; exact I4.free)) ?_;obtain⟨m4,n4,_⟩:=I4.loc;exact⟨m4,n4⟩
  ·refine thn (T.item ?qc rfl rfl rfl hc i _ s3 K H3 (Ex Dd Cc) c3 (P (λp n=>by rw[Qqa.mp n]) c2) t3 go) λr s4 ⟨u,hr,h4⟩=>?_;subst hr;refine thn h4 λ_ s5 ⟨x,H5,I5,r5,y5,t5,d0⟩=>?_;have d3:=I5.pinned (P (λp n=>by rw[Qqa.mp n]) d0) (T.obj _ _ t5);refine Qh (hg Cc _ s5 K H5 x u _ d3 r5 (next x H5 y5)) (λ_ s6 ⟨w,H6,I6,q6⟩=>?_) λ_ _ z=>z.elim;refine Qh (ht Cc _ s6 w H6 _ I6 q6) (λb s7 ⟨H7,I7,q7⟩=>?_) λ_ _ z=>z.elim;have a4:∀{b7:L2.St}{H8:Hp}{s8:Qz},Inv ?qc ([(Dd,{ cls:=.type "list",data:=.seq h.toArray nn })]++qv1 fp s5.heap) b7 H8 s8->
     tn (i+1) s8.heap/\(∀b∈fp,H8 b=B)/\s8.heap.get? Dd=Y { cls:=.type "list",data:=.seq h.toArray nn }/\H8 Dd=none:=λ{b7 H8 s8} I8=>by
    refine⟨T.keep _ _ _ t5 λb hb o e=>(I8.pin (b,o) (Qql _ (Qql _ (qqr hb e)))).1,λb hb=>?_,?_,?_⟩
    ·obtain⟨o,e,d⟩:=T.obj _ _ t5 b hb;exact(I8.pin (b,o) (Qql _ (Qql _ (qqr hb e)))).2.1
    ·exact(I8.pin (Dd,_) (Qql _ (Qzq _ ?g))).1
    ·exact(I8.pin (Dd,{ cls:=.type "list",data:=.seq h.toArray nn }) (Qql _ (Qzq _ ?g))).2.1
   cases b with
   |false=>
    simp only[Qzo]at q7 ⊢;obtain⟨k',hk,w7⟩:=q7;obtain⟨b1,b2,b3,b4⟩:=a4 I7;exact⟨k',hk,i+1,f,h,nn,w,H7,I7.pins_of λp n=>absurd n ?g,b1,b2,w7,rv,b3,b4⟩
   |true=>
    simp only[if_true]at q7 ⊢;refine thn (he Dd Cc _ s7 w H7 _ (I7.wish _) q7) λy s8 ⟨v8,H8,I8,r8,k',hk,w8⟩=>?_;have I8:=I8.unwish;obtain⟨b1,b2,b3,b4⟩:=a4 I8;have l1:=rv.length;refine Qr F.slot_list_append ⟨_,b3,rfl⟩ F.entry_list_append (F.args_list_append_2 _ _) (PySem.list_append Dd h.toArray nn y (by rw[Qqe]; lia)) ⟨b3,?_⟩;have q:=PySem.IsL.update b3 (λa=>a.push y);have a8:h.toArray.push y=(h++[y]).toArray:=by simp
    rw[a8]at q;have I9:Inv ?qc [] w H8 s8:=I8.pins_of λp n=>absurd n ?g;have d4:Inv ?qc [] w H8 { s8 with heap:=s8.heap.update Dd (Obj.mapSeq (·.push y)) }:=
     I9.turned (λb o hb e=>(Qjh s8.heap _ (Ne.symm hb)).trans e) b4 G (.inr b0) b6 λp n=>absurd (show p∈([]:Z ?qi) from n) ?g
    exact⟨k',hk,i+1,f++[v8],h++[y],_,w,H8,d4,T.keep _ _ _ b1 λb hb o e=>(Qjh s8.heap _ (Ne.symm (c0 b hb))).trans e,b2,w8,rv.append (.cons r8 .nil),q,b4⟩
 exact codeAny_compStart_list (loop _ rfl) (T.self _ 0 _ _ _ (T.keep _ _ _ a5 λb _ o e=>a6 b o e) (loop _ rfl))
abbrev qmp(src:Z (Y2 Y0))(wi:TI)(g:TG)(tt:TT)(te:TE):TE:=λσ H Q=>wi σ H λJq H1=>∃W:Y0->Y0->Z V->L2.St->Hp->Prop,(∃k,W 0 k [] (qqu src σ) H1)/\
 ∀i k acc σ' H',W i k acc σ' H'->(Jq.stop i H'/\acc.length<=sizeLine/\∀p,H' p=B->Q (.ref p) (upd H' p (.lst acc)))\/(Jq.go i H'/\acc.length<sizeLine/\∀x H2,Jq.yld i H' x H2->g x σ' H2 λσ2 H3=>tt σ2 H3 λb H4=>
  if b=L then te σ2 H4 λv H5=>∃k',k'<k/\W (i+1) k' (acc++[v]) σ2 H5 else ∃k',k'<k/\W (i+1) k' acc σ2 H4)
def qn2(hc:X.calm=L)(S:CompScope X N src a)(y:PI X tg c l)(A:∀C fp s H,PG (qzi X N a C fp s H) tg g)(u:∀C fp s H,qce (qzi X N a C fp s H) ifs m)(E:∀C fp s H,PE (qzi X N a C fp s H) elt n)(hs:∀x,foldedSetIterable c X.env x=pure x):PE X (.ListComp elt [⟨tg,c,ifs,0⟩] a pos) (qmp src l g m n):=by
 intro pins s σ H Q I h;rw[eval_ListComp];refine wpAny_comprehension_free rfl hs (qwm S I) S.kind S.loc (thn (y pins s σ H _ I h) λv U h1=>thn h1 λt i h2=>?_);obtain⟨it,fp,R,V,H2,e,K,T,f,G,W,p,d⟩:=h2;subst e;refine qku hc K T f G S (λC=>A C fp i H2) (λC=>u C fp i H2) (λ_ C=>E C fp i H2) (λ_ _ _ _ _ z=>z.elim) W p d ?_;intro D C s' H' k j r P F w;obtain⟨m',hn⟩:=w;refine⟨m',hn,λh' q=>⟨.ref D,upd H' D (.lst k),?_,rfl,j D r⟩⟩;obtain⟨c0,c1,c2,c3,c4,c5⟩:=F;exact P.turned (λb o hb e=>(q.2 b hb).trans e) c0 c1 c3 c4 c5
def Inv.turnedL{ch:Z Y5}(I:Inv X a f H s)(k:∀b o,b ∉ ch->s.heap.get? b=Y o->h'.get? b=Y o)(hf:∀b∈ch,FpOk X a H b):Inv X a f H { s with heap:=h',toks:=t' }:=by
 have d:∀b u,H b=Y u->b ∉ ch:=λb u e z=>by rw[(hf b z).1]at e; cases e
 refine I.step (λb hb=>?_) (λb o _ _ hc e _=>k b o hc e) (λb o _ _ hc e _=>⟨o.slots,k b o hc e⟩) (λ_ _ _ _ n=>n) (λb o hc e=>⟨o,k b o hc e⟩) (λ_ _ e=>e) (λ_ _ _ e=>e) (λb ps e=>⟨#[],by rw[e]; simp⟩) (λm h=>?_) (λb u e=>?_) I.bare
 ·obtain⟨x,p,w,l,j,i⟩:=hf b hb;exact⟨l,p,j,i⟩
 ·obtain⟨o,es,t,g,r⟩:=h;exact⟨o,es,t,k _ o (λz=>(hf _ z).2.1 rfl) g,r⟩
 ·refine(I.hok b u e).stay (λc v hc q=>k c v ?_ q) (λ_ q=>q) λ_ _ q=>q;rcases hc with z|z
  ·rw[z]; exact d b u e
  ·exact d c _ z
inductive RK where
 |lst|tup
abbrev RK.It:RK->Heap->Y5->Y5->Y0->Prop
 |.lst,h,it,a,i=>h.IsListIter it a i
 |.tup,h,it,a,i=>h.IsTupleIter it a i
abbrev RK.Sq:RK->Heap->Y5->Array Y7->Prop
 |.lst,h,a,xs=>h.IsList a xs
 |.tup,h,a,xs=>h.IsTuple a xs
def RK.It.on{k:RK}(x:k.It h it a i)(e:∀o,h.get? it=Y o->h'.get? it=Y o):k.It h' it a i:=by
 cases k with
 |lst=>exact Heap.IsListIter.at x e
 |tup=>obtain⟨o,b,r⟩:=x; exact⟨o,e o b,r⟩
def RK.Sq.on{k:RK}(x:k.Sq h a xs)(e:∀o,h.get? a=Y o->h'.get? a=Y o):k.Sq h' a xs:=by
 cases k with
 |lst=>exact Heap.IsList.at x e
 |tup=>obtain⟨o,b,r⟩:=x; exact⟨o,e o b,r⟩
def RK.It.obj{k:RK}(x:k.It h it a i):∃o,h.get? it=Y o/\∀v,o.data≠.cell v:=by
 cases k with
 |lst=>obtain⟨o,b,_,d⟩:=x; exact⟨o,b,λv z=>by rw[d]at z; cases z⟩
 |tup=>obtain⟨o,b,_,d⟩:=x; exact⟨o,b,λv z=>by rw[d]at z; cases z⟩
section
def qxc{k:RK}(d:k.It s.heap it a i)(hs:k.Sq s.heap a xs)(f:xs[i]?=Y x)(g:∀h',k.It h' it a (i+1)->(∀b o,b≠it->s.heap.get? b=Y o->h'.get? b=Y o)->h'.objs.size=s.heap.objs.size->Q x { s with heap:=h' }):wpAny ?A A (Builtin.SmallTypes.nextOf (.ref it)) Q E s:=by
 cases k with
 |lst=>exact wpAny_nextOf_list_item d hs f λh' p h=>g h' p h.extBut h.1
 |tup=>
  obtain⟨o,e,n,c⟩:=id d;obtain⟨q,l,_,m,j⟩:=hs;unfold Builtin.SmallTypes.nextOf;refine Qq (Qb (Heap.IsTupleIter.typeIs d) F.slot_tuple_iterator_next (Qd F.slot_tuple_iterator_next (Heap.IsTupleIter.typeIs d) F.entry_tuple_iterator_next ?_ (F.args_tuple_iterator_next_1 _)));show wpAny _ _ (field (.ref it) 0 >>= _) _ _ _;refine Qq (Qv e c rfl ?_);rw[Z8 (λz=>nomatch z)];refine Qq (Qv e c rfl ?_);refine Qq (Qm l j ?_);simp only[Int.toNat_natCast,f];refine Qq (wpAny_setField e c ?g (Qx ⟨x,rfl,Qx (g _ ?_ (Heap.SameBut.update ..).extBut (Heap.SameBut.update ..).1)⟩));exact⟨_,Qjr _ e (Obj.isFreed_of_fields (Obj.data_mapFields c _)),(Obj.cls_mapFields ..).trans n,by rw[Obj.data_mapFields c]; simp[rawInt]⟩
def qkz{k:RK}(d:A.handled=B)(c:k.It s.heap it a i)(hs:k.Sq s.heap a xs)(h:xs[i]?=B)(j:∀h' e,(∀b o,b≠it->s.heap.get? b=Y o->h'.get? b=Y o)->(∃o,h'.get? e=Y o/\o.cls=.type "StopIteration")->E (.ref e) { s with heap:=h' }):wpAny ?A A (Builtin.SmallTypes.nextOf (.ref it)) Q E s:=by
 cases k with
 |lst=>exact wpAny_nextOf_list_end d c hs h λh' e r p=>j h' e r p
 |tup=>
  obtain⟨o,g,t,f⟩:=id c;obtain⟨q,n,_,m,l⟩:=hs;unfold Builtin.SmallTypes.nextOf;refine Qq (Qb (Heap.IsTupleIter.typeIs c) F.slot_tuple_iterator_next (Qd F.slot_tuple_iterator_next (Heap.IsTupleIter.typeIs c) F.entry_tuple_iterator_next ?_ (F.args_tuple_iterator_next_1 _)));show wpAny _ _ (field (.ref it) 0 >>= _) _ _ _;refine Qq (Qv g f rfl ?_);rw[Z8 (λz=>nomatch z)];refine Qq (Qv g f rfl ?_);refine Qq (Qm n l ?_);simp only[Int.toNat_natCast,h];refine Qq (Q9 (Qq (wpAny_setField g f ?g ?_))); show wpAny _ _ (newExc (.type "StopIteration") [] >>= _) _ _ _;refine Qq ?_; simp only[newExc];refine Qq (Qi ?_ (by size_fits)); refine Qq (Zy (by first|rfl|(simp only[firstArgMember]; rfl)) ?_);refine Qi ?_ (by size_fits); simp only[raiseNew];refine Qq (wpAny_handled ?_)
  first|rw[show A.in1.handled=B from d]|(rw[d])
  refine Qq (Qx (wpAny_throw ?_));exact j _ _ (((Heap.SameBut.update ..).extBut.push _).push _) ⟨_,Qqh _ rfl,by rfl⟩
end
section
def qvx(e:IsPair s.heap T a b)(h:∀h',h'.get? T=Y { cls:=.type "tuple",data:=.seq ((#[a,b]:Array Y7).setIfInBounds j x) }->(∀c o,c≠T->s.heap.get? c=Y o->h'.get? c=Y o)->h'.objs.size=s.heap.objs.size->Q () { s with heap:=h' }):
  wpAny ?A A (updateSeq T (·.setIfInBounds j x)) Q E s:=
 wpAny_updateSeq_pair e λh' f d=>h h' f d.extBut d.1
def zip_get{t r:RK}(n1:l1<n)(n2:l2<n)(d:IsZip s.heap (n+4) (n+2) (n+3) .none)(N:IsPair s.heap (n+2) (.ref n) (.ref (n+1)))(hO:IsPair s.heap (n+3) a b)(h1:t.It s.heap n l1 i)(h2:r.It s.heap (n+1) l2 i)(U:t.Sq s.heap l1 xs)(T:r.Sq s.heap l2 ys)(hx:xs[i]?=Y x)(hy:ys[i]?=Y y)(hQ:∀h',IsZip h' (n+4) (n+2) (n+3) (rawInt s.heap.objs.size)->IsPair h' (n+2) (.ref n) (.ref (n+1))->IsPair h' (n+3) x y->t.It h' n l1 (i+1)->r.It h' (n+1) l2 (i+1)->IsPair h' s.heap.objs.size x y->
   (∀c o,c≠n+4->c≠n+3->c≠n->c≠n+1->s.heap.get? c=Y o->h'.get? c=Y o)->Q (Y ?Z) { s with heap:=h' }):
  wpAny ?A A (pyNext (.ref (n+4))) Q E s:=by
 have K:s.TypeIs (.ref (n+4)) "zip":=⟨_,d,rfl⟩
 unfold pyNext;refine Qq (Q6 (Qb K F.slot_zip_next (Qd F.slot_zip_next K F.entry_zip_next ?_ (F.args_zip_next_1 _))));show wpAny _ _ (field (.ref (n+4)) 2 >>= _) _ _ _;refine Qq (Qv d rfl rfl ?_);refine Qq (Qv d rfl rfl ?_);refine Qq (Qm N rfl ?_);refine Qq ?_;unfold Builtin.SmallTypes.ownedTupleIsFree;refine Qq (Qv d rfl rfl (Qx ?_));simp only[if_true];refine Qq (Q9 ?_);refine Qq (Qv d rfl rfl ?_);refine Qq (Qw d ?g λg1 z1 G=>?_)
 replace z1:IsZip g1 (n+4) (n+2) (n+3) .ellipsis:=z1
 have v1:=G.extBut;refine Qq ?_;simp only[List.zipIdx_cons,List.forIn_nil];refine Qq (Qq (Z4 ?_)); show wpAny _ _ (Builtin.SmallTypes.nextOf (.ref n) >>= _) _ _ _;refine Qq (qxc (h1.on λo e=>v1 _ o ?e e) (U.on λo e=>v1 _ o ?e e) hx λg2 i2 h c2=>Qx ?_);have R:=h _ _ ?e (v1 _ _ ?e hO);refine Qq (Qm R rfl ?_);refine Qq (qvx R λg3 v g c3=>?_)
 replace v:IsPair g3 (n+3) x b:=v
 refine Qq (wpAny_letGo (Qx ?_));refine Qq (Qq (Z4 ?_)); show wpAny _ _ (Builtin.SmallTypes.nextOf (.ref (n+1)) >>= _) _ _ _;refine Qq (qxc (h2.on λo e=>g _ o ?e (h _ o ?e (v1 _ o ?e e))) (T.on λo e=>g _ o ?e (h _ o ?e (v1 _ o ?e e))) hy λg4 X m c4=>Qx ?_);have P:=m _ _ ?e v;refine Qq (Qm P rfl ?_);refine Qq (qvx P λf p l c5=>?_)
 replace p:IsPair f (n+3) x y:=p
 refine Qq (wpAny_letGo (Qx (Qx ?_)));refine Qq (Qm p rfl ?_);refine Qq (wpAny_newTuple ?_);have sz:=c5.trans (c4.trans (c3.trans (c2.trans G.1)));have z:=l _ _ ?e (m _ _ ?e (g _ _ ?e (h _ _ ?e z1)));have j:∀c o,c≠n+4->c≠n+3->c≠n->c≠n+1->s.heap.get? c=Y o->f.get? c=Y o:=λc o c1 c2 c3 c4 e=>l _ _ c2 (m _ _ c4 (g _ _ c2 (h _ _ c3 (v1 _ _ c1 e))));have W:=i2.on λo e=>l _ o ?e (m _ o ?e (g _ o ?e e));have V:=X.on λo e=>l _ o ?e e;have I:=Qqf z;refine Qq ?_;unfold Builtin.SmallTypes.ownedTupleHandOut;have S:IsZip (f.push { cls:=.type "tuple",data:=.seq #[x,y] }) (n+4) (n+2) (n+3) .ellipsis:=Qqx _ z;refine Qq (Qw S ?g λg7 q D=>?_)
 replace q:IsZip g7 (n+4) (n+2) (n+3) (rawInt f.objs.size):=q
 refine Qw q ?g λu k C=>?_
 replace k:IsZip u (n+4) (n+2) (n+3) (rawInt f.objs.size):=k
 have up:∀c o,c≠n+4->f.get? c=Y o->u.get? c=Y o:=λc o c1 e=>C.extBut _ _ c1 (D.extBut _ _ c1 (Qqx _ e));have H:=C.extBut _ _ (Qxr I) (D.extBut _ _ (Qxr I) (Qqh _ rfl));rw[sz]at k H;refine Qx ⟨_,rfl,Qx ?_⟩;rw[sz];exact hQ u k (up _ _ ?d (j _ _ ?d ?d ?d ?d N)) (up _ _ ?d p) (W.on λo e=>up _ o ?d e) (V.on λo e=>up _ o ?d e) H λc o c1 c2 c3 c4 e=>up c o c1 (j c o c1 c2 c3 c4 e)
def qgc{G D:RK}(H:A.handled=B)(n1:l1<n)(n2:l2<n)(g:IsZip s.heap (n+4) (n+2) (n+3) .none)(W:IsPair s.heap (n+2) (.ref n) (.ref (n+1)))(V:IsPair s.heap (n+3) a b)(K:G.It s.heap n l1 i)(X:D.It s.heap (n+1) l2 i)(C:G.Sq s.heap l1 xs)(S:D.Sq s.heap l2 ys)(j:xs[i]?=B\/ys[i]?=B)(U:∀h',(∀c o,c≠n+4->c≠n+3->c≠n->c≠n+1->s.heap.get? c=Y o->h'.get? c=Y o)->Q B { s with heap:=h' }):
  wpAny ?A A (pyNext (.ref (n+4))) Q E s:=by
 have I:s.TypeIs (.ref (n+4)) "zip":=⟨_,g,rfl⟩
 have l:∀(h':Heap) (e:Y5),(∀c o,c≠n+4->c≠n+3->c≠n->c≠n+1->s.heap.get? c=Y o->h'.get? c=Y o)->(∃o,h'.get? e=Y o/\o.cls=.type "StopIteration")->
   wpAny ?A A (do if (<- isInstance (.ref e) (.type "StopIteration")) then pure B else(throw (Value.ref e):Sem (Y2 Y7))) Q E { s with heap:=h' }:=λh' e hk k=>by
  obtain⟨o,d,hc⟩:=k;refine Qq (Zm ⟨o,d,hc⟩ isSubtype_stop ?_);exact Qx (U _ hk)
 unfold pyNext;refine Qq (Q6 (Qb I F.slot_zip_next (Qd F.slot_zip_next I F.entry_zip_next ?_ (F.args_zip_next_1 _))));show wpAny _ _ (field (.ref (n+4)) 2 >>= _) _ _ _;refine Qq (Qv g rfl rfl ?_);refine Qq (Qv g rfl rfl ?_);refine Qq (Qm W rfl ?_);refine Qq ?_;unfold Builtin.SmallTypes.ownedTupleIsFree;refine Qq (Qv g rfl rfl (Qx ?_));simp only[if_true];refine Qq (Q9 ?_);refine Qq (Qv g rfl rfl ?_);refine Qq (Qw g ?g λg1 z1 R=>?_)
 replace z1:IsZip g1 (n+4) (n+2) (n+3) .ellipsis:=z1
 have v1:=R.extBut;refine Qq ?_;simp only[List.zipIdx_cons,List.forIn_nil];refine Qq (Qq (Z4 ?_)); show wpAny _ _ (Builtin.SmallTypes.nextOf (.ref n) >>= _) _ _ _
 cases r:xs[i]? with
 |none=>
  refine Qq (qkz H (K.on λo e=>v1 _ o ?e e) (C.on λo e=>v1 _ o ?e e) r λg2 e f k=>?_);obtain⟨p,d,hc⟩:=k;have z2:=f _ _ ?e z1;have t:e≠n+4:=λq=>by subst q; rw[z2]at d; cases d; simp at hc
  exact Qw z2 ?g λN _ z=>l N e (λc o c1 _ c3 _ q=>z.extBut _ _ c1 (f _ _ c3 (v1 _ _ c1 q))) ⟨p,z.extBut _ _ t d,hc⟩
 |some x=>
  have T:ys[i]?=none:=by
   rcases j with h|h
   ·rw[r]at h; cases h
   ·exact h
  refine Qq (qxc (K.on λo e=>v1 _ o ?e e) (C.on λo e=>v1 _ o ?e e) r λg2 i2 f c2=>Qx ?_);have P:=f _ _ ?e (v1 _ _ ?e V);refine Qq (Qm P rfl ?_);refine Qq (qvx P λN O3 m c3=>Qq (wpAny_letGo (Qx ?_)));refine Qq (Qq (Z4 ?_)); show wpAny _ _ (Builtin.SmallTypes.nextOf (.ref (n+1)) >>= _) _ _ _;refine Qq (qkz H (X.on λo e=>m _ o ?e (f _ o ?e (v1 _ o ?e e))) (S.on λo e=>m _ o ?e (f _ o ?e (v1 _ o ?e e))) T λg4 e v k=>?_);obtain⟨p,d,hc⟩:=k;have u:=v _ _ ?e (m _ _ ?e (f _ _ ?e z1));have t:e≠n+4:=λq=>by subst q; rw[u]at d; cases d; simp at hc
  exact Qw u ?g λg5 _ y=>l g5 e (λc o c1 c2 c3 c4 q=>y.extBut _ _ c1 (v _ _ c4 (m _ _ c2 (f _ _ c3 (v1 _ _ c1 q))))) ⟨p,y.extBut _ _ t d,hc⟩
end
abbrev RK.itO(k:RK)(a:Y5):Obj:=match k with
 |.lst=>{ cls:=.type "list_iterator",data:=.fields #[.ref a,.int 0 0] }
 |.tup=>{ cls:=.type "tuple_iterator",data:=.fields #[.ref a,.int 0 0] }
def qjv{k:RK}(hs:k.Sq s.heap a xs)(b:Q ?Z { s with heap:=s.heap.push (k.itO a) }):wpAny ?A A (pyIter (.ref a)) Q E s:=by
 cases k with
 |lst=>exact Zq hs b
 |tup=>exact wpAny_pyIter_tuple hs b
def row_new{h:Heap}{k:RK}:k.It (h.push (k.itO a)) h.objs.size a 0:=by
 cases k with
 |lst=>exact⟨_,Qqh _ rfl,rfl,rfl⟩
 |tup=>exact⟨_,Qqh _ rfl,rfl,rfl⟩
noncomputable abbrev zh1(k1:RK)(h:Heap)(l1:Y5):Heap:=h.push (k1.itO l1)
noncomputable abbrev zh2(k1 k2:RK)(h:Heap)(l1 l2:Y5):Heap:=(zh1 k1 h l1).push (k2.itO l2)
noncomputable abbrev zh3(k1 k2:RK)(h:Heap)(l1 l2:Y5):Heap:=(zh2 k1 k2 h l1 l2).push { cls:=.type "tuple",data:=.seq #[.ref h.objs.size,.ref (zh1 k1 h l1).objs.size] }
noncomputable abbrev zh4(k1 k2:RK)(h:Heap)(l1 l2:Y5):Heap:=(zh3 k1 k2 h l1 l2).push { cls:=.type "tuple",data:=.seq #[.none,.none] }
noncomputable abbrev zh5(k1 k2:RK)(h:Heap)(l1 l2:Y5):Heap:=(zh4 k1 k2 h l1 l2).push { cls:=.type "zip",data:=.fields #[.none,.bool Y6,.bool Y6,.ref (zh2 k1 k2 h l1 l2).objs.size,.ref (zh3 k1 k2 h l1 l2).objs.size] }
def qgd(b a)(l1 l2)(xs ys):Meets (Qs.«zip.__new__» ⟨[.type "zip",.ref l1,.ref l2],[]⟩) (λ_ R s=>b.Sq s.heap l1 xs/\a.Sq s.heap l2 ys/\R (.ok (.ret (.ref (zh4 b a s.heap l1 l2).objs.size))) { s with heap:=zh5 b a s.heap l1 l2 }):=
 .of_wp λprog w A R s h=>by
  obtain⟨j,g,d,tk,os⟩:=s;obtain⟨i,f,h⟩:=h;have c:=sub_zip;have k:=i;have L2:a.Sq (Shared.heap ⟨j.push (b.itO l1),g,d,tk,os⟩) l2 ys:=f.on λo e=>Qqx _ e
  wp_walk using qjv k,qjv L2
  exact⟨_,rfl,h⟩
def ZipAt(k1 k2:RK)(n l1 l2:Y0)(i:Y0)(h:Heap):Prop:=
 l1<n/\l2<n/\IsZip h (n+4) (n+2) (n+3) .none/\IsPair h (n+2) (.ref n) (.ref (n+1))/\(∃a b,IsPair h (n+3) a b)/\k1.It h n l1 i/\k2.It h (n+1) l2 i
def qfo(m:a.Sq s.heap l1 xs)(l:b.Sq s.heap l2 ys)(b1:l1<s.heap.objs.size)(b2:l2<s.heap.objs.size)(h:∀h',ZipAt a b s.heap.objs.size l1 l2 0 h'->(∀c o,s.heap.get? c=Y o->h'.get? c=Y o)->Q (.ref (s.heap.objs.size+4)) { s with heap:=h' }):wpAny ?A A (call (.type "zip") [.ref l1,.ref l2]) Q E s:=by
 refine callType_new F.called_zip ?c (F.typeCall_zip_2 _ _) (F.newCall_zip_2 _ _) (λobj=>F.args_object_init_3 obj _ _) F.entry_zip_new (qgd a b l1 l2 xs ys) ⟨m,l,?_⟩;have z1:(zh1 a s.heap l1).objs.size=s.heap.objs.size+1:=Qxc ..;have z2:(zh2 a b s.heap l1 l2).objs.size=s.heap.objs.size+2:=by rw[Qxc,z1]
 have d:(zh3 a b s.heap l1 l2).objs.size=s.heap.objs.size+3:=by rw[Qxc,z2]
 have g:(zh4 a b s.heap l1 l2).objs.size=s.heap.objs.size+4:=by rw[Qxc,d]
 have f:(zh5 a b s.heap l1 l2).get? (zh4 a b s.heap l1 l2).objs.size=Y _:=Qqh _ rfl;have i:(zh5 a b s.heap l1 l2).get? (zh3 a b s.heap l1 l2).objs.size=Y _:=Qqx _ (Qqh _ rfl);have j:(zh5 a b s.heap l1 l2).get? (zh2 a b s.heap l1 l2).objs.size=Y _:=Qqx _ (Qqx _ (Qqh _ rfl));have k:b.It (zh5 a b s.heap l1 l2) (zh1 a s.heap l1).objs.size l2 0:=row_new.on λo e=>Qqx _ (Qqx _ (Qqx _ e));have n:a.It (zh5 a b s.heap l1 l2) s.heap.objs.size l1 0:=row_new.on λo e=>Qqx _ (Qqx _ (Qqx _ (Qqx _ e)));rw[z2,d,g]at f;rw[z1,z2]at j;rw[d]at i;rw[z1]at k;rw[g];exact⟨⟨_,f,rfl⟩,h _ ⟨b1,b2,f,j,⟨_,_,i⟩,n,k⟩ λc o x=>Qqx _ (Qqx _ (Qqx _ (Qqx _ (Qqx _ x))))⟩
def RK.sq(k:RK)(K:Qqq)(H:Hp)(a:Y5)(xs:Z V):Prop:=match k with
 |.lst=>SqL K H a xs
 |.tup=>SqT K H a xs
abbrev Itz(K:Qqq)(k1 k2:RK)(a b:Y5):It:=
 ⟨λi H=>∃xs ys x y,k1.sq K H a xs/\k2.sq K H b ys/\xs[i]?=Y x/\ys[i]?=Y y,
  λi H v H'=>∃p x y,v=.ref p/\H p=B/\H'=upd H p (.tup [x,y])/\(∀xs,k1.sq K H a xs->xs[i]?=Y x)/\∀ys,k2.sq K H b ys->ys[i]?=Y y,
  λi H=>∃xs ys,k1.sq K H a xs/\k2.sq K H b ys/\(xs.length<=i\/ys.length<=i)⟩
section
def qqs{k:RK}(I:Inv X pins σ H s)(q:k.sq X.K H a xs):∃b,Vals xs b/\k.Sq s.heap a b.toArray:=by
 cases k with
 |lst=>obtain⟨b,c,p,d⟩:=I.list q; exact⟨b,c,p.isList⟩
 |tup=>obtain⟨b,c,p,d⟩:=I.tuple q; exact⟨b,c,show s.heap.IsTuple a b.toArray from p⟩
def qvq{k:RK}(I:Inv X pins σ H s)(q:k.sq X.K H a xs)(b:k.sq X.K H a ys):xs=ys:=by
 cases k with
 |lst=>exact I.list_inj q b
 |tup=>exact I.tuple_inj q b
end
abbrev fpZ(n:Y0):Z Y5:=[n+4,n+2,n+3,n,n+1]
def qgh{K:Qqq}(W V)(n a b):Turn P w K (.Tuple p c pos) (Itz K W V a b) (fpZ n) (n+4) (ZipAt W V n a b) where
 mem:=by simp[fpZ]
 obj:=λi h st e he=>by
  obtain⟨b1,b2,f,j,⟨x,y,g⟩,h1,h2⟩:=st;simp only[fpZ,Qqc,Qzm,or_false]at he;rcases he with rfl|rfl|rfl|rfl|rfl
  ·exact⟨_,f,λv z=>nomatch z⟩
  ·exact⟨_,j,λv z=>nomatch z⟩
  ·exact⟨_,g,λv z=>nomatch z⟩
  ·exact h1.obj
  ·exact h2.obj
 keep:=λi h h' st k=>by
  obtain⟨b1,b2,f,j,⟨x,y,g⟩,h1,h2⟩:=st;exact⟨b1,b2,k _ (by simp[fpZ]) _ f,k _ (by simp[fpZ]) _ j,⟨x,y,k _ (by simp[fpZ]) _ g⟩,h1.on λo e=>k _ (by simp[fpZ]) o e,h2.on λo e=>k _ (by simp[fpZ]) o e⟩
 item:=by
  intro X T N U hc i pins s σ H E I hf st S;subst T N U;obtain⟨xs,ys,x,y,t,r,ex,ey⟩:=S;obtain⟨b1,b2,f,j,⟨ua,ub,g⟩,h1,h2⟩:=st;obtain⟨vx,D,A⟩:=qqs I t;obtain⟨vy,C,u⟩:=qqs I r;obtain⟨u1,R,G⟩:=D.get ex;obtain⟨u2,Q,F⟩:=C.get ey;refine zip_get b1 b2 f j g h1 h2 A u (by simpa using R) (by simpa using Q) λh' a1 a2 a3 a4 a5 a6 kp=>⟨_,rfl,?_⟩
  refine wpAny_letOwnedTupleGo_zip a1 λh9 c1 c2=>?_;have d:=c2.extBut;have lt:∀b∈fpZ n,b≠s.heap.objs.size:=λb hb z=>by
   have q:b<s.heap.objs.size:=by
    simp only[fpZ,Qqc,Qzm,or_false]at hb;rcases hb with rfl|rfl|rfl|rfl|rfl
    ·exact Qqf f
    ·exact Qqf j
    ·exact Qqf g
    ·obtain⟨o,e,_⟩:=h1.obj; exact Qqf e
    ·obtain⟨o,e,_⟩:=h2.obj; exact Qqf e
   rw[z]at q;exact Qxa _ q
  have nz:s.heap.objs.size≠n+4:=λz=>lt (n+4) (by simp[fpZ]) z.symm;have I1:Inv X pins σ H { s with heap:=h9,toks:=s.toks }:=Inv.turnedL I (λb o hb e=>d _ _ (λz=>hb (by simp[fpZ,z])) (kp b o (λz=>hb (by simp[fpZ,z])) (λz=>hb (by simp[fpZ,z])) (λz=>hb (by simp[fpZ,z])) (λz=>hb (by simp[fpZ,z])) e)) hf;have fr:=I.hok.fresh (Qqw _);have I2:Inv X pins σ (upd H s.heap.objs.size (.tup [x,y])) { s with heap:=h9,toks:=s.toks }:=Inv.track I1 (I.fpOk (Qqw _) fr) ⟨by show 2<=sizeLine; decide,[u1,u2],.cons G (.cons F .nil),⟨_,d _ _ nz a6,rfl,_,rfl⟩⟩;refine⟨.ref s.heap.objs.size,upd H s.heap.objs.size (.tup [x,y]),I2,rfl,⟨_,x,y,rfl,fr,rfl,λzs l=>?_,λzs l=>?_⟩,⟨b1,b2,c1,d _ _ ?e a2,⟨_,_,d _ _ ?e a3⟩,a4.on λo e=>d _ o ?e e,a5.on λo e=>d _ o ?e e⟩,λb hb=>?_⟩
  ·rw[qvq I l t]; exact ex
  ·rw[qvq I l r]; exact ey
  ·rw[qzq (lt b hb)]; exact(hf b hb).1
 done:=by
  intro X T N U hc i pins s σ H E I hf st S;subst T N U;obtain⟨xs,ys,t,r,m⟩:=S;obtain⟨b1,b2,f,j,⟨ua,ub,g⟩,h1,h2⟩:=st;obtain⟨vx,D,A⟩:=qqs I t;obtain⟨vy,C,u⟩:=qqs I r;have lx:=D.length;have ly:=C.length;refine qgc (I.ok.hd hc) b1 b2 f j g h1 h2 A u ?_ λh' kp=>⟨rfl,Inv.turnedL I (λb o hb e=>kp b o (λz=>hb (by simp[fpZ,z])) (λz=>hb (by simp[fpZ,z])) (λz=>hb (by simp[fpZ,z])) (λz=>hb (by simp[fpZ,z])) e) hf⟩
  rcases m with h|h
  ·exact .inl ?r
  ·exact .inr ?r
 self:=λ_ _ _ _ _ st h=>wpAny_pyIter_zip st.2.2.1 h
abbrev iZip(K:Qqq)(ta:TA):TI:=λσ H R=>ta σ H λvs H1=>∃(k1 k2:RK) (a b:Y5),vs=[.ref a,.ref b]/\(∃xs,k1.sq K H1 a xs)/\(∃ys,k2.sq K H1 b ys)/\R (Itz K k1 k2 a b) H1
def pi_zip(C:Gl X "zip")(A:X.mg "zip" = B)(ha:PA X [a,b] m)(hs:starEach [a,b] X.env=[(Y6,Qa a X.env),(Y6,Qa b X.env)]:=by rfl)(i:starEach [b] X.env=[(Y6,Qa b X.env)]:=by rfl):
  PI X (.Tuple j c f) (.Call (.Name "zip" p) [a,b] [] pos) (iZip X.K m):=by
 intro pins s σ H R I h;refine Call_ (qx5 I C A boot_zip (PyProof.Rows.callWith_type1 (thn (ha pos pins s σ H _ I h) λF g ⟨vs,H1,k,v,y⟩=>?_) (by rw[hs,i]) (by rw[i]; rfl)));obtain⟨k1,k2,a,b,e,⟨xs,x⟩,⟨ys,w⟩,q⟩:=y;subst e
 cases v with
 |cons r l=>
  cases l with
  |cons r' l=>
   cases l;cases r;cases r';obtain⟨E,K,t⟩:=qqs k x;obtain⟨D,G,n⟩:=qqs k w;have la:a<g.heap.objs.size:=by
    cases k1<;>(obtain⟨o,e,_⟩:=t; exact Qqf e)
   have z:b<g.heap.objs.size:=by
    cases k2<;>(obtain⟨o,e,_⟩:=n; exact Qqf e)
   refine qfo t n la z λh' st kp=>wpAny_pyIter_zip st.2.2.1 ?_;refine⟨g.heap.objs.size+4,fpZ g.heap.objs.size,_,_,H1,rfl,k.kept kp,qgh k1 k2 _ a b,st,λd hd=>?_,q⟩;have u:g.heap.objs.size<=d:=by
    simp only[fpZ,Qqc,Qzm,or_false]at hd;rcases hd with rfl|rfl|rfl|rfl|rfl<;>(show @LE.le Y0 _ _ _; lia)
   exact k.fpOk u (k.hok.fresh u)
section
end
inductive EntOk (prm:Qp):Z Q3->Z Y4->Z Y7->Prop
 |nil:EntOk prm [] [] []
 |cons {k:Y4}{t:Tok}{u:Y7}{es:Z Q3}{ks:Z Y4}{us:Z Y7}(h:EntOk prm es ks us):EntOk prm (⟨PyData.keyHash prm k,.str k t,u⟩::es) (k::ks) (u::us)
structure FDict (prm:Qp) (K:Qqq) (a:Y5) (ks:Z Y4) (ds:Z M.D):Prop where
 ex:∃(us:Z Y7) (vs:Z V) (es:Array Q3) (ep:Y0),K.lookup a=Y { cls:=.type "dict",data:=.dict es ep }/\EntOk prm es.toList ks us/\Vals vs us/\∀m H,IsDs K m H ds vs
 nd:ks.Nodup
 ne:(a==Qo)=Y6
abbrev kzip{α:Type}(ks:Z Y4)(us:Z α):Z (Key×α):=(ks.map λk=>(Sum.inr k:Key)).zip us
theorem qbq:∀{es}{ks}{us},EntOk w.params es ks us->(∀e∈es,∃k,(?q4).is k e.key=L/\e.hash=(?q4).hash k)/\PySem.Pairs ?q4 es (kzip ks us)/\(kzip ks us).map (·.1)=ks.map λk=>(Sum.inr k:Key)
 |_,_,_,.nil=>⟨(λe h=>nomatch h),.nil,rfl⟩
 |_,_,_,.cons (k:=k) (t:=t) h=>by
  obtain⟨h1,h2,b⟩:=qbq h;refine⟨λe a=>?_,?_,?_⟩
  ·rcases Qqc.mp a with q|q
   ·subst q;exact⟨.inr k,qq3 P w k t,rfl⟩
   ·exact h1 e q
  ·exact .cons (qq3 P w k t) rfl h2
  ·exact congrArg (List.cons (Sum.inr k:Key)) b
def qfz(I:Inv X b f H s)(h:FDict X.w.params X.K a ks ds):
  ∃(us:Z Y7) (vs:Z V),s.heap.DictOf (mixKind X.prog X.w) a (kzip ks us)/\Vals vs us/\(∀m H,IsDs X.K m H ds vs)/\ks.length=us.length:=by
 obtain⟨us,vs,es,l,p,d,o,n⟩:=h.ex;obtain⟨h1,h2,k⟩:=qbq d;refine⟨us,vs,⟨_,es,l,I.kIn a _ p,⟨rfl,rfl,rfl⟩,rfl,λe j=>h1 e (by simpa using j),h2,?_⟩,o,n,?_⟩
 ·rw[k];exact(Qjg.mpr (h.nd.imp λc i=>c (Sum.inr.inj i)))
 ·have:∀{es:Z Q3}{ks:Z Y4}{us:Z Y7},EntOk X.w.params es ks us->ks.length=us.length:=by
   intro es ks us q
   induction q with
   |nil=>rfl
   |cons _ g=>rw[Qqm,Qqm,g]
  exact this d
theorem qon(z):∀(ks:Z Y4) (us:Z α),((kzip ks us).find? λp=>decide (p.1=Sum.inr z)).map (·.2)=((ks.zip us).find? λq=>q.1==z).map (·.2)
 |[],us=>rfl
 |k::ks,[]=>rfl
 |k::ks,u::us=>by
  have a:=qon z ks us;show((((Sum.inr k:Key),u)::kzip ks us).find? λp=>decide (p.1=Sum.inr z)).map (·.2)=(((k,u)::ks.zip us).find? λq=>q.1==z).map (·.2);rw[Qq2,Qq2]
  by_cases h:k=z
  ·have h1:decide ((Sum.inr k:Key)=Sum.inr z)=true:=by rw[h]; simp
   have h2:(k==z)=true:=by rw[h]; simp
   simp only[h1,h2]
   rfl
  ·have h1:decide ((Sum.inr k:Key)=Sum.inr z)=false:=Z7 λq=>h (Sum.inr.inj q);have h2:(k==z)=false:=by simpa using h
   simp only[h1,h2];exact a
theorem qe3{K:Qqq}(z):∀{ks:Z Y4}{ds:Z M.D}{vs:Z V}{us:Z Y7},(∀m H,IsDs K m H ds vs)->Vals vs us->ks.length=us.length->
  (((ks.zip ds).find? λq=>q.1==z)=B/\((ks.zip us).find? λq=>q.1==z)=B/\ks.contains z=Y6)\/∃k d v u,((ks.zip ds).find? λq=>q.1==z)=Y (k,d)/\((ks.zip us).find? λq=>q.1==z)=Y (k,u)/\(∀m H,MS.IsD K m H d v)/\RelV v u/\ks.contains z=L
 |[],ds,vs,us,i,r,h=>.inl ⟨rfl,rfl,rfl⟩
 |k::ks,[],vs,us,i,r,h=>by
  rw[(i [] λ_=>B).nil]at r;cases r;cases h
 |k::ks,d::ds,vs,us,i,r,h=>by
  obtain⟨v,vr,e,_,_⟩:=(i [] λ_=>B).cons;subst e;have i1:∀m H,MS.IsD K m H d v:=λm H=>by
   obtain⟨b,a,e,q,_⟩:=(i m H).cons;cases e;exact q
  have i2:∀m H,IsDs K m H ds vr:=λm H=>by
   obtain⟨b,a,e,_,q⟩:=(i m H).cons;cases e;exact q
  cases r with
  |cons f c=>
   rename_i u us
   by_cases hk:k=z
   ·subst hk;refine .inr ⟨k,d,v,u,?g,?g,i1,f,?g⟩
   ·have h2:(k==z)=false:=by simpa using hk
    have j:(z==k)=false:=by simpa using Ne.symm hk
    have g:=qe3 z i2 c (by simpa using h);rw[List.zip_cons_cons,List.zip_cons_cons,Qq2,Qq2,List.contains_cons];simp only[h2,j];exact g
section
def qnt(C:Gl X x)(A:X.mg x=Y (.ref a))(E:FDict X.w.params X.K a ks ds)(hd:?Y=Y6)(hb:PE X b tb)(hs:NoSl b):
  PE X (.Subscript (.Name x p0) b pos) (λσ H Q=>tb σ H λy H2=>∃z d,y=.str z/\(∃k,((ks.zip ds).find? λq=>q.1==z)=Y (k,d))/\∀v,(∀m,MS.IsD X.K m H2 d v)->Q v H2):=by
 intro pins s σ H Q I h;refine qc8 PySem.F.slot_dict_getitem.lookup hs (thn (qyx C A (show RelV (.ref a) (.ref a) from rfl) hd pins s σ H (λx H1=>x=.ref a/\tb σ H1 _) I ⟨rfl,h⟩) λu j ⟨S,H1,R,n,ex,r⟩=>?_);subst ex;cases n;refine thn (hb pins j σ H1 _ R r) λV T ⟨y,H2,g,l,z,d,P,⟨k,c⟩,p⟩=>?_;subst P;obtain⟨i,vs,f,o,D,hl⟩:=qfz g E;refine⟨f.typeIs,?_⟩;rcases qe3 z D o hl with⟨t,_,_⟩|⟨U,W,e,u',N,K,G,F,_⟩
 ·rw[t]at c; cases c
 ·rw[N]at c;cases c;have w:valueAt (kzip ks i) (Sum.inr z)=Y u':=by
   unfold valueAt;rw[qon,K]
   rfl
  exact wpAny_getItem_of (qkb (k:=.inr z) l) f.mapOf w ⟨e,H2,g.tok _,F,p e λm=>G m H2⟩
def gd_has(I:Inv X c e H s)(j:FDict X.w.params X.K a ks ds)(z):
  ∃d,s.heap.DictOf (mixKind X.prog X.w) a (kzip ks d)/\(valueAt (kzip ks d) (Sum.inr z)).isSome=ks.contains z:=by
 obtain⟨d,vs,m,f,i,hl⟩:=qfz I j;refine⟨d,m,?_⟩;unfold valueAt;rw[qon];rcases qe3 z i f hl with⟨_,h,g⟩|⟨p,u,n,o,t,l,r,q,k⟩
 ·rw[h,g]; rfl
 ·rw[l,k]; rfl
def pc_gin(neg)(n:Gl X x)(m:X.mg x=Y (.ref a))(c:FDict X.w.params X.K a ks ds)(hd:?Y=Y6)(hb:PE X b tb):
  PC X (if neg then .NotIn else .In) b (.Name x p0) (λσ H Q=>tb σ H λy H2=>∃z,y=.str z/\Q (.bl (ks.contains z != neg)) H2):=by
 intro pins s σ H Q I h;refine thn (hb pins s σ H _ I h) λv i ⟨y,H1,p,e,z,o,l⟩=>?_;subst o;refine thn (qyx n m (show RelV (.ref a) (.ref a) from rfl) hd pins i σ H1 (λx H2=>x=.ref a/\Q (.bl (ks.contains z != neg)) H2) p ⟨rfl,l⟩) λu t ⟨q,H2,d,j,ex,f⟩=>?_;subst ex;cases j;obtain⟨r,g,hs⟩:=gd_has d c z
 cases neg with
 |false=>
  refine wpAny_in_of (qkb (k:=.inr z) e) c.ne g.mapOf ?_;rw[hs];refine⟨.bl _,H2,d.tok _,rfl,?_⟩;simpa using f
 |true=>
  refine wpAny_notIn_of (qkb (k:=.inr z) e) c.ne g.mapOf ?_;rw[hs];refine⟨.bl _,H2,d.tok _,rfl,?_⟩;simpa using f
open M (D Ya Y1 Sl)
def qds(neg)(i:Gl X x)(g:X.mg x=Y (.ref a))(j:FDict X.w.params X.K a ks ds)(hd:?Y=Y6)(hb:PE X b (tD X.K c)):
  PC X (if neg then .NotIn else .In) b (.Name x p0) (tD X.K λτ st=>(c τ st).bind λp=>match p.1 with
   |.str z=>Y (.bl (ks.contains z != neg),p.2)
   |_=>B):=by
 intro pins s σ H Q I h;refine pc_gin neg i g j hd hb pins s σ H Q I ?_;refine h.el λm st τ d st' n S0 e q=>qzk e λd1 o k e=>rsI n S0 k λy m1 H1 b1 f l i1=>?_
 cases d1 with
 |str z=>
  have q:=q.of e;exact⟨z,i1.str,q _ m1 H1 b1 f l (mkBl _)⟩
 |_=>exact nn e
def qhn(i:Gl X x)(g:X.mg x=Y (.ref a))(j:FDict X.w.params X.K a ks ds)(hd:?Y=Y6)(hb:PE X b (tD X.K c))(hs:NoSl b):
  PE X (.Subscript (.Name x p0) b pos) (tD X.K λτ st=>(c τ st).bind λp=>match p.1 with
   |.str z=>((ks.zip ds).find? λq=>q.1==z).map λq=>(q.2,p.2)
   |_=>B):=by
 refine(qnt i g j hd hb hs).imp λσ H Q h=>h.el λm st τ d st' r S0 e q=>qzk e λd1 s n e=>rsI r S0 n λy m1 H1 b1 f o i1=>?_
 cases d1 with
 |str z=>
  refine qzd e λw l k=>?_;cases k;exact⟨z,w.2,i1.str,⟨w.1,l⟩,λv hv=>q _ m1 H1 b1 f o (hv m1)⟩
 |_=>exact nn e
def qym{K:Qqq}(hk:M.isKey e=L)(f:IsKV K m H kvs xs)(i:Rd H a (.dK xs))(g:MS.IsD K m H e y):
  ∃o,DGet H a y o/\((M.dget kvs e=B/\o=B)\/∃d v,M.dget kvs e=Y d/\o=Y v/\MS.IsD K m H d v):=by
 obtain⟨k,c⟩:=qqt hk;have h:=qor c g;subst h;refine⟨valV xs k,.inl ⟨xs,k,i,rfl,rfl⟩,?_⟩;rcases f.get c with⟨h1,h2⟩|⟨d,v,h1,h2,j⟩
 ·exact .inl ⟨h1,h2⟩
 ·exact .inr ⟨d,v,h1,h2,j⟩
def qdu(r:X.A.units+1<cLine)(neg)(ha:PE X a (tD X.K i))(hb:PE X b (tD X.K f)):
  PC X (if neg then .NotIn else .In) a b (tD X.K λτ st=>(i τ st).bind λp=>(f τ p.2).bind λq=>match q.1 with
   |.loc l=>(M.dicAt q.2 l).bind λkvs=>if M.isKey p.1 then Y (.bl ((M.dget kvs p.1).isSome != neg),q.2) else B
   |_=>B):=by
 have c:∀{σ:L2.St}{H:Hp}{Q:VK},tD X.K (λτ st=>(i τ st).bind λp=>(f τ p.2).bind λq=>match q.1 with
   |.loc l=>(M.dicAt q.2 l).bind λkvs=>if M.isKey p.1 then Y (.bl ((M.dget kvs p.1).isSome != neg),q.2) else B
   |_=>B) σ H Q->tD X.K i σ H λy H1=>tD X.K f σ H1 λx H2=>∃a o,x=.ref a/\DGet H2 a y o/\Q (.bl (o.isSome != neg)) H2:=by
  intro σ H Q h;refine h.el λm st τ d st' N S0 e q=>qzk e λd1 R F e=>qzk e λd2 P E e=>rsI N S0 F λy m1 H1 b1 n K i1=>rsI K (S0.mono b1 n) E λz t H2 b2 k R2 i2=>?_
  cases d2 with
  |loc l=>
   refine qzx e λkvs C e=>?_
   split at e
   ·rename_i hk;have q:=q.of e;obtain⟨G,xs,_,rfl,w,j⟩:=R2.dict C i2;obtain⟨o,g,u⟩:=qym hk j w (qzb b2 k _ _ i1);refine⟨G,o,rfl,g,?_⟩;have A:o.isSome=(M.dget kvs d1).isSome:=by
     rcases u with⟨h1,h2⟩|⟨d,v,h1,h2,_⟩
     ·rw[h1,h2]; rfl
     ·rw[h1,h2]; rfl
    rw[A];exact q _ t H2 ?qs (n.trans k) R2 (mkBl _)
   ·exact nn e
  |_=>exact nn e
 cases neg with
 |false=>
  intro pins s σ H Q I h;refine pc_din r ha hb pins s σ H Q I ?_;have:=c h;simpa only[tDIn,Bool.bne_false] using this
 |true=>
  intro pins s σ H Q I h;refine qdt r ha hb pins s σ H Q I ?_;have:=c h;simpa only[qc6,Bool.bne_true] using this
def qho(s:X.A.units+1<cLine)(ha:PE X a (tD X.K n))(hb:PE X b (tD X.K k))(hs:NoSl b):
  PE X (.Subscript a b pos) (tD X.K λτ st=>(n τ st).bind λp=>(k τ p.2).bind λq=>match p.1 with
   |.loc l=>(M.dicAt q.2 l).bind λkvs=>if M.isKey q.1 then(M.dget kvs q.1).map λd=>(d,q.2) else B
   |_=>B):=by
 refine(qn1 s ha hb hs).imp λσ H Q h=>h.el λm st τ d st' N S0 e q=>qzk e λd1 R G e=>qzk e λd2 P F e=>rsI N S0 G λy m1 H1 b1 j K i1=>rsI K (S0.mono b1 j) F λz r H2 b2 i R2 i2=>?_
 cases d1 with
 |loc l=>
  refine qzx e λkvs E e=>?_
  split at e
  ·rename_i hk;refine qzd e λw c C=>?_;cases C;obtain⟨I,xs,_,rfl,u,f⟩:=R2.dict E (qzb b2 i _ _ i1);obtain⟨o,g,t⟩:=qym hk f u i2;rcases t with⟨h1,h2⟩|⟨d,v,h1,h2,A⟩
   ·rw[h1]at c; cases c
   ·rw[h1]at c;cases c;subst h2;exact⟨I,v,rfl,g,q _ r H2 ?qs (j.trans i) R2 A⟩
  ·exact nn e
 |_=>exact nn e
def qn0(C:X.A.units+1<cLine)(ha:PE X a (tD X.K t))(hb:PE X b (tD X.K s))(E:M1 X a "get" f b c):
  PE X (.Call (.Attribute a "get" f) [b] [] c) (tD X.K λτ st=>(t τ st).bind λp=>match p.1 with
   |.loc l=>(M.dicAt p.2 l).bind λ_=>(s τ p.2).bind λq=>(M.dicAt q.2 l).bind λkvs=>if M.isKey q.1 then Y ((M.dget kvs q.1).getD .non,q.2) else B
   |_=>B):=by
 refine(qhp C ha hb E).imp λσ H Q h=>h.el λm st τ d st' V S0 e q=>qzk e λd1 s1 S e=>rsI V S0 S λy m1 H1 b1 j u i1=>?_
 cases d1 with
 |loc l=>
  refine qzx e λA T e=>qzk e λd2 W R e=>qzx e λkvs P e=>?_
  split at e
  ·rename_i hk;have q:=q.of e;obtain⟨U,w,G,rfl,n,_⟩:=u.dict T i1;refine⟨U,rfl,.inl ⟨_,n⟩,rsI u (S0.mono b1 j) R λz r H2 b2 i R2 i2=>?_⟩;obtain⟨a',xs,_,N,I,k⟩:=R2.dict P (qzb b2 i _ _ i1);cases N;obtain⟨o,g,F⟩:=qym hk k I i2;refine⟨o,g,?_⟩;rcases F with⟨h1,h2⟩|⟨d,v,h1,h2,K⟩
   ·rw[h1]at q;subst h2;exact q _ r H2 ?qs (j.trans i) R2 qvj
   ·rw[h1]at q;subst h2;exact q _ r H2 ?qs (j.trans i) R2 K
  ·exact nn e
 |_=>exact nn e
end
section
end
section
open M (D Ya Y1 Sl)
end
end MS
end
section
namespace MS
open PySem PySem.Spec PyProof.Rows L2
open M (D Ya Y1 Sl)
section
variable {K:Qqq}{m m1:Z Y5}{H1:Hp}
mutual
theorem qeo:∀(d:D) (v:V),M.noLoc d=L->MS.IsD K m1 H1 d v->MS.IsD K m H1 d v
 |.non,_,_,h=>by rw[h.non]; exact qvj
 |.bl _,_,_,h=>by rw[h.bl]; exact mkBl _
 |.int _,_,_,h=>by rw[h.int]; exact mkInt _
 |.str _,_,_,h=>by rw[h.str]; exact mkStr _
 |.tup ds,_,n,h=>by
  obtain⟨a,xs,rfl,q,r⟩:=h.tup;unfold M.noLoc at n;exact qq2 q (qj6 ds xs n r)
 |.lst ds,_,n,h=>by
  obtain⟨a,xs,rfl,q,r⟩:=h.lst;unfold M.noLoc at n;exact qb4 q (qj6 ds xs n r)
 |.loc l,_,n,h=>by unfold M.noLoc at n; cases n
theorem qj6:∀(ds:Z D) (xs:Z V),M.noLocs ds=L->IsDs K m1 H1 ds xs->IsDs K m H1 ds xs
 |[],_,_,h=>by rw[h.nil]; exact qqk
 |d::ds,_,n,h=>by
  obtain⟨x,r,rfl,q,t⟩:=h.cons;unfold M.noLocs at n;rw[Qqt]at n;exact qzn (qeo d x n.1 q) (qj6 ds r n.2 t)
end
mutual
theorem qjy(s:Sub m m1):∀(d:D) (v g:V),MS.IsD K m H d v->MS.IsD K m1 H1 d g->MS.IsD K m H1 d g
 |.non,_,_,_,h=>by rw[h.non]; exact qvj
 |.bl _,_,_,_,h=>by rw[h.bl]; exact mkBl _
 |.int _,_,_,_,h=>by rw[h.int]; exact mkInt _
 |.str _,_,_,_,h=>by rw[h.str]; exact mkStr _
 |.tup ds,_,_,h0,h=>by
  obtain⟨a,xs,rfl,q,r⟩:=h.tup;obtain⟨f,b,_,_,c⟩:=h0.tup;exact qq2 q (qqm s ds b xs c r)
 |.lst ds,_,_,h0,h=>by
  obtain⟨a,xs,rfl,q,r⟩:=h.lst;obtain⟨f,b,_,_,c⟩:=h0.lst;exact qb4 q (qqm s ds b xs c r)
 |.loc l,_,_,h0,h=>by
  obtain⟨f,i,_⟩:=h0.loc;obtain⟨a,e,rfl⟩:=h.loc;have:=s l f i;rw[e]at this;cases this;exact qh3 i
theorem qqm(s:Sub m m1):∀(ds:Z D) (xs a:Z V),IsDs K m H ds xs->IsDs K m1 H1 ds a->IsDs K m H1 ds a
 |[],_,_,_,h=>by rw[h.nil]; exact qqk
 |d::ds,_,_,h0,h=>by
  obtain⟨x,r,rfl,q,t⟩:=h.cons;obtain⟨b,e,rfl,q0,c⟩:=h0.cons;exact qzn (qjy s d b x q0 q) (qqm s ds e r c t)
end
theorem qj4(s:Sub m m1):∀(kvs:Z (D×D)) (xs a:Z (Key×V)),IsKV K m H kvs xs->IsKV K m1 H1 kvs a->IsKV K m H1 kvs a
 |[],_,_,_,h=>h
 |p::r,_,_,⟨i,v0,d,j,g,b,c⟩,⟨k,v,f,e,hk,hv,hr⟩=>⟨k,v,f,e,hk,qjy s _ _ _ b hv,qj4 s r _ _ c hr⟩
theorem qwa(s:Sub m m1):∀(fs:Z (Y4×D)) (ys a:Z (Y4×V)),IsFs K m H fs ys->IsFs K m1 H1 fs a->IsFs K m H1 fs a
 |[],_,_,_,h=>h
 |p::r,_,_,⟨v0,d,g,b,c⟩,⟨v,f,e,hv,hr⟩=>⟨v,f,e,qjy s _ _ _ b hv,qwa s r _ _ c hr⟩
def qh7(s:Sub m m1)(d:IsC K m H c a)(h:IsC K m1 H1 c a):IsC K m H1 c a:=by
 cases c with
 |lst w ds=>
  cases w with
  |true=>
   obtain⟨xs,e,q⟩:=h;obtain⟨b,_,q0⟩:=d;exact⟨xs,e,qqm s _ _ _ q0 q⟩
  |false=>
   obtain⟨xs,e,q⟩:=h;obtain⟨b,_,q0⟩:=d;exact⟨xs,e,qqm s _ _ _ q0 q⟩
 |dic w kvs=>
  cases w with
  |true=>
   obtain⟨xs,e,q⟩:=h;obtain⟨b,_,q0⟩:=d;exact⟨xs,e,qj4 s _ _ _ q0 q⟩
  |false=>
   obtain⟨o,xs,e,q⟩:=h;obtain⟨_,b,_,q0⟩:=d;exact⟨o,xs,e,qj4 s _ _ _ q0 q⟩
 |obj C fs=>
  obtain⟨dx,ys,e,q⟩:=h;obtain⟨_,f,_,q0⟩:=d;exact⟨dx,ys,e,qwa s _ _ _ q0 q⟩
def pre_at{st a:Y1}(h:a.take st.length=st){l:Y0}(e:st[l]?=Y c):a[l]?=Y c:=by
 have hl:=(Qqk.mp e).1;rw[<- h,Qx9,Z9 hl]at e;exact e
def Rel.cutBack{st:Y1}(f:Rel K m st H)(i:Rel K m1 b H1)(s:Sub m m1)(h:b.take st.length=st)(t:Tr H1 H2)(g:∀(l:Y0) (c:Ya) (a:Y5),st[l]?=Y c->m[l]?=Y a->Wr c=L->H2 a=H1 a):Rel K m st H2:=
 ⟨f.len,f.nd,λl c a e d=>qxw ?N t (qh7 s (f.cell l c a e d) (i.cell l c a (pre_at h e) (s l a d))) λw=>g l c a e d w⟩
mutual
theorem qyg(s:Sub m m1):∀(d:D) (v:V),M.lt m.length d=L->IsD K m1 H d v->IsD K m H d v
 |.non,_,_,h=>h
 |.bl _,_,_,h=>h
 |.int _,_,_,h=>h
 |.str _,_,_,h=>h
 |.tup ds,_,hl,h=>by
  unfold M.lt at hl;obtain⟨a,xs,rfl,q,r⟩:=h.tup;exact qq2 q (qxj s ds xs hl r)
 |.lst ds,_,hl,h=>by
  unfold M.lt at hl;obtain⟨a,xs,rfl,q,r⟩:=h.lst;exact qb4 q (qxj s ds xs hl r)
 |.loc l,_,hl,h=>by
  unfold M.lt at hl;obtain⟨a,e,rfl⟩:=h.loc;have hl:l<m.length:=by simpa[Nat.blt_eq] using hl
  have c:m[l]?=Y m[l]:=by simp
  have b:=s l _ c;rw[e]at b;cases b;exact qh3 c
theorem qxj(s:Sub m m1):∀(ds:Z D) (xs:Z V),M.lts m.length ds=L->IsDs K m1 H ds xs->IsDs K m H ds xs
 |[],_,_,h=>h
 |d::ds,_,hl,h=>by
  unfold M.lts at hl;rw[Qqt]at hl;obtain⟨x,r,rfl,q,t⟩:=h.cons;exact qzn (qyg s d x hl.1 q) (qxj s ds r hl.2 t)
end
theorem qvy(s:Sub m m1):∀(kvs:Z (D×D)) (xs:Z (Key×V)),(kvs.all λp=>M.lt m.length p.2)=L->IsKV K m1 H kvs xs->IsKV K m H kvs xs
 |[],_,_,h=>h
 |p::r,_,hl,⟨k,v,a,e,hk,hv,hr⟩=>by
  rw[Qz4,Qqt]at hl;exact⟨k,v,a,e,hk,qyg s _ _ hl.1 hv,qvy s r a hl.2 hr⟩
theorem qau(s:Sub m m1):∀(fs:Z (Y4×D)) (ys:Z (Y4×V)),(fs.all λp=>M.lt m.length p.2)=L->IsFs K m1 H fs ys->IsFs K m H fs ys
 |[],_,_,h=>h
 |p::r,_,hl,⟨v,a,e,hv,hr⟩=>by
  rw[Qz4,Qqt]at hl;exact⟨v,a,e,qyg s _ _ hl.1 hv,qau s r a hl.2 hr⟩
def qo4(s:Sub m m1)(hl:M.ltC m.length c=L)(h:IsC K m1 H c a):IsC K m H c a:=by
 cases c with
 |lst w ds=>
  cases w with
  |true=>obtain⟨xs,e,q⟩:=h; exact⟨xs,e,qxj s _ _ hl q⟩
  |false=>obtain⟨xs,e,q⟩:=h; exact⟨xs,e,qxj s _ _ hl q⟩
 |dic w kvs=>
  cases w with
  |true=>obtain⟨xs,e,q⟩:=h; exact⟨xs,e,qvy s _ _ hl q⟩
  |false=>obtain⟨o,xs,e,q⟩:=h; exact⟨o,xs,e,qvy s _ _ hl q⟩
 |obj C fs=>obtain⟨dx,ys,e,q⟩:=h; exact⟨dx,ys,e,qau s _ _ hl q⟩
def GcOk(st st0:Y1):Prop:=(st0.take st.length).all (M.ltC st.length)=L\/st0.take st.length=st
def gc_el{st:Y1}(e:M.gcD st p=q):p=q\/(GcOk st p.2/\M.gcX st.length p=q):=by
 unfold M.gcD at e
 split at e
 ·rename_i h; exact .inr ⟨.inl h,e⟩
 ·split at e
  ·rename_i h; exact .inr ⟨.inr h,e⟩
  ·exact .inl e
def qjg{a:Y1}(e:(a.take n)[l]?=Y c):l<n/\a[l]?=Y c:=by
 rw[Qx9]at e
 split at e
 ·rename_i h; exact⟨h,e⟩
 ·exact nn e
def Rel.cut{st:Y1}(j:Rel K m st H)(f:Rel K m1 b H1)(s:Sub m m1)(h:GcOk st b)(t:Tr H1 H2)(i:∀(l:Y0) (c:Ya) (a:Y5),(b.take st.length)[l]?=Y c->m[l]?=Y a->Wr c=L->H2 a=H1 a):Rel K m (b.take st.length) H2:=by
 rcases h with h|h
 ·have o:=j.len;have p:m.length<=m1.length:=by
   rcases Qjv m1.length m.length with z|z
   ·have g:m[m1.length]?=Y (m[m1.length]'z):=by simp
    have:=(Qqk.mp (s _ _ g)).1
    lia
   ·exact z
  have h1:=f.len;refine⟨by rw[Qzy]; lia,λl n a c v u g r q w k=>f.nd l n a c v (s _ _ u) (s _ _ g) (qjg r).2 (qjg q).2 w k,λl c a e d=>?_⟩;refine qxw ?N t (qo4 s ?_ (f.cell l c a (qjg e).2 (s l a d))) λw=>i l c a e d w;have:=Qze.mp h c (Qqn e);rw[o]; exact this
 ·rw[h];exact j.cutBack f s h t λl c a e d w=>i l c a (by rw[h]; exact e) d w
end
section
def qkp(I:Inv X d g H s)(h:H a=Y (.lst xs)):∃o,Inv X d g (upd H a (.frz o (.lst xs))) s:=by
 obtain⟨z,f,n,r,e⟩:=id (I.hok a _ h);refine⟨{ cls:=.type "list",data:=.seq f.toArray n },I.un ⟨λb o q _ _ _=>q,λb o q _ _ _=>⟨o.slots,q⟩,λb o q hn _=>?_,λb o q _=>⟨o,q⟩,λb ys q=>?_,λb o u q=>?_,λb ps q=>⟨#[],?_⟩⟩ ?_⟩
 ·rw[qzq (λz=>by subst z; rw[h]at hn; cases hn)];exact hn
 ·rw[qzq (qzs q h ?i)]; exact q
 ·rw[qzq (qzs q h ?i)]; exact q
 ·rw[qzq (qzs q h ?i),q]; simp
 ·intro b u q
  by_cases hb:b=a
  ·subst hb;rw[qzw]at q;cases q;exact⟨e,z,f,n,r,e⟩
  ·rw[qzq hb]at q;refine(I.hok b u q).stay (λc v _ w=>w) (λc w=>?_) λc ys w=>?_
   ·rw[qzq (qzs w h ?i)]; exact w
   ·rw[qzq (qzs w h ?i)]; exact w
inductive Di:HO->Prop
 |k (xs:Z (Key×V)):Di (.dK xs)
 |t (xs:Z (Z Key×V)):Di (.dT xs)
def Di.ne(h:Di u):(∀ys,HO.tup ys≠u)/\(∀o v,HO.frz o v≠u)/\(∀p,HO.own p≠u)/\∀ps,HO.tbl ps≠u:=by
 cases h<;>exact⟨λ_ z=>(by cases z),λ_ _ z=>(by cases z),λ_ z=>(by cases z),λ_ z=>(by cases z)⟩
def qo5(i:Di u)(I:Inv X d f H s)(h:H a=Y u):∃o,s.heap.get? a=Y o/\Inv X d f (upd H a (.frz o u)) s:=by
 obtain⟨g,m,l,j⟩:=i.ne;have ok:=I.hok a _ h;obtain⟨o,e⟩:∃o,s.heap.get? a=Y o:=by
  cases i<;>(obtain⟨_,_,vs,_,o,es,n,e,_⟩:=ok; exact⟨o,e⟩)
 have st:∀{b:Y5}{v:HO},ObjOk X.prog X.w H s.heap b v->ObjOk X.prog X.w (upd H a (.frz o u)) s.heap b v:=λk=>k.stay (λc v _ w=>w) (λc w=>by rw[qzq (qzs w h (l _))]; exact w) λc ys w=>by rw[qzq (qzs w h (g _))]; exact w
 refine⟨o,e,I.un ⟨λb o q _ _ _=>q,λb o q _ _ _=>⟨o.slots,q⟩,λb o q hn _=>?_,λb o q _=>⟨o,q⟩,λb ys q=>?_,λb o u q=>?_,λb ps q=>⟨#[],?_⟩⟩ ?_⟩
 ·rw[qzq (λz=>by subst z; rw[h]at hn; cases hn)];exact hn
 ·rw[qzq (qzs q h (g _))]; exact q
 ·rw[qzq (qzs q h (m _ _))]; exact q
 ·rw[qzq (qzs q h (j _)),q]; simp
 ·intro b u q
  by_cases hb:b=a
  ·subst hb;rw[qzw]at q;cases q;exact⟨e,st ok⟩
  ·rw[qzq hb]at q;exact st (I.hok b u q)
def NoFz(X:Cx)(a:Y5):Prop:=∀o u,X.H₀ a≠Y (.frz o u)
def qob(d:Di u)(I:Inv X b c H s)(h:H a=Y u):NoFz X a:=λo v z=>by
 have:=I.base.frzs a o v z;rw[h]at this;exact absurd (Option.some.inj this).symm (d.ne.2.1 o v)
def qa1(I:Inv X e f H s)(nf:NoFz X a)(h:H a=Y (.frz o u)):Inv X e f (upd H a u) s:=by
 have ok:=I.hok a _ h;have d:∀{b:Y5},H b=B->(upd H a u) b=none:=λ{b} q=>by
  rw[qzq (λz=>by subst z; rw[h]at q; cases q)];exact q
 have st:∀{b:Y5}{v:HO},ObjOk X.prog X.w H s.heap b v->ObjOk X.prog X.w (upd H a u) s.heap b v:=λk=>k.stay (λc v _ w=>w) (λc w=>by rw[qzq (qzs w h ?i)]; exact w) λc ys w=>by rw[qzq (qzs w h ?i)]; exact w
 refine⟨I.ok,I.os,I.bare,⟨I.base.keep,I.base.slot,λb o q hn i=>d (I.base.free b o q hn i),I.base.there,λb ys q=>?_,λb o u q=>?_,λb ps q=>?_⟩,I.loc,I.cell,d I.free,λx c q=>d (I.freeC x c q),λp j=>?_,?_,I.len⟩
 ·have:=I.base.tups b ys q;rw[qzq (qzs this h ?i)]; exact this
 ·have:=I.base.frzs b o u q
  by_cases hb:b=a
  ·subst hb; exact absurd q (nf o u)
  ·rw[qzq hb]; exact this
 ·obtain⟨more,this⟩:=I.base.tbls b ps q;exact⟨more,by rw[qzq (qzs this h ?i)]; exact this⟩
 ·obtain⟨p1,p2,g⟩:=I.pin p j;exact⟨p1,d p2,g⟩
 ·intro b u q
  by_cases hb:b=a
  ·subst hb;rw[qzw]at q;cases q;exact st ok.2
  ·rw[qzq hb]at q;exact st (I.hok b u q)
def Tr.lay(c:H a=Y (.lst xs)):Tr H (upd H a (.frz o (.lst xs))):=
 ⟨λb zs e=>by rw[qzq (qzs e c ?i)]; exact e,λb o u e=>by rw[qzq (qzs e c ?i)]; exact e⟩
def pe_gc(E:PE X p (tD X.K f)):PE X p (tD X.K λτ st=>(f τ st).map λq=>M.gcD st q):=by
 intro pins s σ H Q I h;refine h.el λm st τ d st' n S0 e q=>?_;obtain⟨⟨y,i⟩,N,K⟩:=mapD e;refine thn (E pins s σ H (λv H1=>∃m1,Sub m m1/\Tr H H1/\Rel X.K m1 i H1/\MS.IsD X.K m1 H1 y v) I (rsI n S0 N λv m1 H1 b1 g b i1=>⟨m1,b1,g,b,i1⟩)) λv s1 ⟨x,H1,r,k,m1,b1,g,b,i1⟩=>?_;have plain:(y,i)=(d,st')->EP X pins σ Q v s1:=λz=>by
  cases z;exact⟨x,H1,r,k,q x m1 H1 b1 g b i1⟩
 rcases gc_el K with z|⟨ok,z⟩
 ·exact plain z
 ·unfold M.gcX at z
  split at z
  ·rename_i hn;cases z;exact⟨x,H1,r,k,q x m H1 ?N g (n.cut b b1 ok (Tr.refl H1) λ_ _ _ _ _ _=>rfl) (qeo _ _ hn i1)⟩
  ·split at z
   ·rename_i l hd;simp only at hd
    split at z
    ·rename_i hl
     split at z
     ·rename_i ds hc
      split at z
      ·rename_i hn;cases z;subst hd;obtain⟨a,ha,rfl⟩:=i1.loc;obtain⟨xs,u,C⟩:=b.cell l _ a hc ha;obtain⟨o,P⟩:=qkp r u;have j:=Tr.lay (o:=o) u;refine⟨.ref a,_,P,k,q _ m _ ?N (g.trans j) (n.cut b b1 ok j λt c A e G w=>?_) ?_⟩
       ·refine qzq λz=>?_;subst z;have F:=qjg e;have:=b.nd t l A c _ (b1 t A G) ha F.2 hc w rfl
        lia
       ·exact qb4 (.inl ⟨o,qzw⟩) (qj6 _ _ hn (qzc (Sub.refl m1) j _ _ C))
      ·exact plain z
     ·exact plain z
    ·exact plain z
   ·exact plain z
end
end MS
end
section
namespace MS
open PySem PySem.Spec PyProof.Rows L2
open M (D Ya Y1 Sl)
def qwx(l)(items)(n)(b)(items2)(f)(e)(a)(k:¬(!items.isEmpty&&Builtin.List.listTooLong (items.size+items2.size))=L)(j:items.size<=sizeLine)(c:items.size+items2.size<=sizeLine+1):
  Meets (Qs.«list.extend» ⟨[.ref l,.ref b],[]⟩) (λ_ R s=>s.heap.get? l=Y { cls:=.type "list",dict:=B,data:=.seq items n,slots:=#[] }/\s.heap.get? b=Y { cls:=.type "list",dict:=e,data:=.seq items2 f,slots:=a }/\R (.ok (.ret Value.none)) { s with heap:=s.heap.update l (Obj.mapSeq λx=>x++items2),toks:=s.toks }):=
 .of_wp λprog w A R s h=>by
  obtain⟨m,g,d,tk,os⟩:=s; obtain⟨hl,hb,h⟩:=h; have t:=AutoSeq1.idx_int; have r:=AutoSeq1.sub_tuple_tuple; have q:=AutoSeq1.sub_list_list; have p:=AutoSeq1.sub_tuple_list; have o:=AutoSeq1.sub_list_tuple;have i:(items++items2).size<=sizeLine+1:=by rw[Qkj]; exact c
  wp_walk using (wpAny_updateSeq hl rfl),Zb hl,Zb hb; exact⟨_,rfl,h⟩
def qwj(l)(items)(n)(b)(items2)(f)(e)(a)(k:¬(!items.isEmpty&&Builtin.List.listTooLong (items.size+items2.size))=L)(j:items.size<=sizeLine)(c:items.size+items2.size<=sizeLine+1):
  Meets (Qs.«list.extend» ⟨[.ref l,.ref b],[]⟩) (λ_ R s=>s.heap.get? l=Y { cls:=.type "list",dict:=B,data:=.seq items n,slots:=#[] }/\s.heap.get? b=Y { cls:=.type "tuple",dict:=e,data:=.seq items2 f,slots:=a }/\R (.ok (.ret Value.none)) { s with heap:=s.heap.update l (Obj.mapSeq λx=>x++items2),toks:=s.toks }):=
 .of_wp λprog w A R s h=>by
  obtain⟨m,g,d,tk,os⟩:=s; obtain⟨hl,hb,h⟩:=h; have t:=AutoSeq1.idx_int; have r:=AutoSeq1.sub_tuple_tuple; have q:=AutoSeq1.sub_list_list; have p:=AutoSeq1.sub_tuple_list; have o:=AutoSeq1.sub_list_tuple;have i:(items++items2).size<=sizeLine+1:=by rw[Qkj]; exact c
  wp_walk using (wpAny_updateSeq hl rfl),Zb hl,Zb hb; exact⟨_,rfl,h⟩
section
def qb2:MtM X "list.extend" (λx xs H Q=>∃m st a ds d st',Rel X.K m st H/\MS.IsD X.K m H a x/\IsDs X.K m H ds xs/\M.mExtend st a ds=Y (d,st')/\Post X.K m H d st' Q):=by
 intro pins s σ H x xs v us Q I T U h;obtain⟨m,st,a,ds,d,st',D,i1,i2,e,q⟩:=h;unfold M.mExtend at e
 split at e
 ·refine qzx e λa1 e1 e=>qzx e λes N e=>?_
  split at e
  ·rename_i hl;have q:=q.of e;obtain⟨p,ys,S,rfl,j,G,hs⟩:=D.wlist e1 i1;obtain⟨y,rfl,R⟩:=i2.one;have l1:=G.length;have l2:=qqy;cases T;obtain⟨u,rfl,P⟩:=U.one;obtain⟨z,c,n,r,a0,o⟩:=I.lstM j
   split at N
   ·rename_i ts;cases N;obtain⟨b,zs,rfl,K,w⟩:=R.tup;cases P;obtain⟨its2,t,⟨⟨C,k,l,g⟩,h1,h2,E,A⟩,_⟩:=I.tuple K;simp only at h2 A;subst h2 A;have W:=w.length;have V:=t.length;have i:c.toArray.size+its2.toArray.size<=sizeLine:=by rw[Qqe,Qqe]; lia
    have f:¬ (!c.toArray.isEmpty&&Builtin.List.listTooLong (c.toArray.size+its2.toArray.size))=true:=by
     rw[qab i,Qks];exact Qzx
    refine Qr F.slot_list_extend ⟨_,o,rfl⟩ F.entry_list_extend (F.args_list_extend_2 _ _) (qwj p c.toArray n b its2.toArray E k g f (by rw[Qqe]; lia) ?d) ⟨o,h1,?_⟩;refine⟨.non,_,I.lset j o ?g (r.append t) ?_,rfl,?_⟩
    ·rw[Qqr]; lia
    ·exact q _ m _ ?N (Tr.put j) (D.put hs S j (G.append w)) qvj
   ·obtain⟨b,zs,_,rfl,K,w⟩:=D.seq N R;cases P;obtain⟨its2,t,⟨⟨C,k,l,g⟩,E,h1,h2,h4,A⟩,_⟩:=I.list K;simp only at h2 A;subst h2 A;have W:=w.length;have V:=t.length;have i:c.toArray.size+its2.toArray.size<=sizeLine:=by rw[Qqe,Qqe]; lia
    have f:¬ (!c.toArray.isEmpty&&Builtin.List.listTooLong (c.toArray.size+its2.toArray.size))=true:=by
     rw[qab i,Qks];exact Qzx
    refine Qr F.slot_list_extend ⟨_,o,rfl⟩ F.entry_list_extend (F.args_list_extend_2 _ _) (qwx p c.toArray n b its2.toArray E k g f (by rw[Qqe]; lia) ?d) ⟨o,h1,?_⟩;refine⟨.non,_,I.lset j o ?g (r.append t) ?_,rfl,?_⟩
    ·rw[Qqr]; lia
    ·exact q _ m _ ?N (Tr.put j) (D.put hs S j (G.append w)) qvj
  ·exact nn e
 ·exact nn e
def qd9(hu:X.A.units+64<cLine):MtM X "list.index" (λx xs H Q=>∃m st a ds d st',Rel X.K m st H/\MS.IsD X.K m H a x/\IsDs X.K m H ds xs/\M.mIndex st a ds=Y (d,st')/\Post X.K m H d st' Q):=by
 intro pins s σ H x xs v us Q I E K h;obtain⟨m,st,a,ds,d,st',C,i1,i2,e,q⟩:=h;unfold M.mIndex at e
 split at e
 ·rename_i x0;refine qzx e λf e1 e=>?_
  split at e
  ·rename_i hf;rw[Qqt]at hf;refine qzd e λj e2 e3=>?_;cases e3;obtain⟨y,rfl,S⟩:=i2.one;obtain⟨u,rfl,G⟩:=K.one;obtain⟨b,zs,_,rfl,W,g⟩:=C.seq e1 i1;cases E;obtain⟨c,r,⟨⟨cls,dd,A,sl⟩,n,h1,h2,h4,t⟩,U⟩:=I.list W;simp only at h2 t;subst h2 t;have l3:=g.length;have l4:=r.length;obtain⟨hj,l,o⟩:=List.findIdx?_eq_some_iff_getElem.mp e2;have T:(sizeLine:Y0)<2 ^ 40:=by decide
   have i:X.A.in1.units+9<cLine:=by have U:X.A.in1.units=X.A.units+1:=rfl; lia
   obtain⟨z,ha⟩:=qgy I X.A.in1 i hf.1 S G;obtain⟨k1,k2⟩:=ha f zs c hf.2 g r;have at_:∀k (hk:k<c.length),z c[k]=M.eqT f[k] x0:=λk hk=>by
    have w:f[k]?=Y f[k]:=by simp
    obtain⟨D,w1,P⟩:=g.get w;obtain⟨u1,w2,N⟩:=r.get w1;have e5:c[k]=u1:=by
     have:c[k]?=Y c[k]:=by simp
     rw[w2]at this;exact(Option.some.inj this).symm
    rw[e5];obtain⟨_,R⟩:=ha [f[k]] [D] [u1] (by simp[Qze.mp hf.2 _ (Qqn w)]) (qzn P qqk) (.cons N .nil);simpa using R
   refine Qr F.slot_list_index ⟨_,h1,rfl⟩ F.entry_list_index (F.args_list_index_2 _ _) (SeqAt.list_indexAt b c.toArray n dd sl u z j (by rw[Qqe]; lia) ?d ?_ ?_) ⟨h1,λy V=>k1 y (by simpa using V),?_⟩
   ·rw[Qj2,at_ j ?d];exact l
   ·intro k hk p;rw[Qj2,at_ k (by simpa using hk)];simpa using o k p
   ·exact⟨.int j,H,I.tok _,⟨_,rfl⟩,q.here C (mkInt _)⟩
  ·exact nn e
 ·exact nn e
def qb1:MtM X "list.insert" (λx xs H Q=>∃m st a ds d st',Rel X.K m st H/\MS.IsD X.K m H a x/\IsDs X.K m H ds xs/\M.mInsert st a ds=Y (d,st')/\Post X.K m H d st' Q):=by
 intro pins s σ H x xs v U Q I A C h;obtain⟨m,st,a,ds,d,st',y,i1,i2,e,q⟩:=h;unfold M.mInsert at e
 split at e
 ·rename_i l i W;refine qzx e λR P e=>?_
  split at e
  ·rename_i hl;have q:=q.of e;obtain⟨p,ys,E,rfl,f,u,hs⟩:=y.wlist P i1;obtain⟨T,S,rfl,o,k⟩:=i2.two;cases o.int;have l1:=u.length;have l2:=qqy;cases A;obtain⟨V,u2,rfl,j,g⟩:=C.two;obtain⟨t,rfl⟩:=j;obtain⟨z,b,n,r,G,w⟩:=I.lstM f;have D:(sizeLine:Y0)<2 ^ 40:=by decide
   have c:¬ (!Builtin.List.listFitsIndex i)=true:=by
    have h1:=hl.1;have h2:i<2 ^ 62:=by lia
    simp only[Builtin.List.listFitsIndex,Qkk,Bool.not_eq_false];have:i<9223372036854775808:=by lia
    have:(-9223372036854775808:J)<=i:=by lia
    simp[*]
   refine Qr F.slot_list_insert ⟨_,w,rfl⟩ F.entry_list_insert (F.args_list_insert_3 _ _ _) (AutoSeq1.list_insert_list_int_val_1 p b.toArray n i t u2 c (by rw[Qqe]; lia)) ⟨w,?_⟩;refine⟨.non,_,I.lset (its':=b.take i.toNat++u2::b.drop i.toNat) f w ?_ ((r.take _).append (.cons g (r.drop _))) ?_,rfl,?_⟩
   ·have N:¬ i<0:=by lia
    have K:min i.toNat b.length=i.toNat:=by lia
    rw[Z8 N,Qqe,K];apply Array.ext';simp;exact Qjz (by rw[Qxm]; lia)
   ·rw[Qqr,Qqm,Qzy,Qxm]; lia
   ·exact q _ m _ ?N (Tr.put f) (y.put hs E f ((u.take _).append (qzn k (u.drop _)))) qvj
  ·exact nn e
 ·exact nn e
def qoc:MtM X "list.pop" (λx xs H Q=>∃m st a ds d st',Rel X.K m st H/\MS.IsD X.K m H a x/\IsDs X.K m H ds xs/\M.mPop st a ds=Y (d,st')/\Post X.K m H d st' Q):=by
 intro pins s σ H x xs v j Q I k n h;refine qh1 pins s σ H x xs v j Q I k n ?_;obtain⟨m,st,a,ds,d,st',g,i1,i2,e,q⟩:=h;unfold M.mPop at e
 split at e
 ·rename_i l i;refine qzx e λC A e=>?_
  split at e
  ·rename_i hl;obtain⟨E,z,y⟩:=mapD e;have q:=q.of (congrArg Y y);obtain⟨p,ys,u,rfl,c,b,hs⟩:=g.wlist A i1;obtain⟨D,rfl,f⟩:=i2.one;cases f.int;have l1:=b.length;have l2:=qqy;have r:(sizeLine:Y0)<2 ^ 40:=by decide
   obtain⟨w,t,o⟩:=b.get z;exact⟨p,ys,i,i.toNat,w,rfl,rfl,c,?d,?d,PySem.StrLaws.seqIndex_nonneg hl.1 (by rw[<- l1]; exact hl.2.1),t,q _ m _ ?N (Tr.put c) (g.put hs u c (by rw[Qj0,Qj0]; exact(b.take _).append (b.drop _))) (qzb ?N (Tr.put c) _ _ o)⟩
  ·exact nn e
 ·exact nn e
end
section
abbrev Itd(a:Y5)(o:Obj)(xs:Z (Key×V)):It:=
 ⟨λi H=>H a=Y ?qy/\i<xs.length,λi H x H'=>H'=H/\∃p,xs[i]?=Y p/\x=kV p.1,λi H=>H a=Y ?qy/\xs.length<=i⟩
def qa6(I:Inv X b d H s)(h:H a=Y ?qy)(hd:o.data=.dict es ep):∃vs,KV xs vs/\s.heap.DictAt (mixKind X.prog X.w) a vs ep:=by
 obtain⟨h1,_,_,vs,kv,o',f,g,h2,e,c,r⟩:=I.hok a _ h;rw[h1]at h2;cases h2;rw[hd]at c;cases c;exact⟨vs,kv,o,es,h1,e,hd,r⟩
def qcn{K:Qqq}(a it)(o)(xs)(hd:o.data=.dict es T):Turn P w K tg (Itd a o xs) [it] it (λi h=>h.IsKeyIter it a i xs.length T) where
 mem:=by simp
 obj:=λi h st b hb=>by
  have e:b=it:=by simpa using hb
  subst e;obtain⟨o,e,c,d⟩:=st;exact⟨o,e,λv z=>by rw[d]at z; cases z⟩
 keep:=λi h h' st k=>st.at λo e=>k it ?g o e
 item:=by
  intro X r n x hc i pins s σ H E I hf st p;subst r n x;obtain⟨y,hi⟩:=p;obtain⟨vs,kv,Q⟩:=qa6 I y hd;obtain⟨G,F,W,D,C,A⟩:=hf it ?g;have hl:=kv.length;obtain⟨⟨k,u⟩,R⟩:∃q,vs[i]?=Y q:=⟨vs[i]' ?d,?g⟩
  have S:xs[i]?=Y xs[i]:=by simp
  have hk:xs[i].1=k:=by
   have f:=congrArg (λl:Z Key=>l[i]?) kv.keys;simp only[Qqv,R,S,oMs,Option.some.injEq]at f;exact f
  rw[hl]at st;refine wpAny_pyNext_dict_item st Q R λm h' g st' U=>?_;have I1:=I.turned (t':=s.toks) (λb o hb e=>(U.2 b hb).trans e) G F D C A;obtain⟨o1,e,c,d⟩:=id st';rw[<- hl]at st';refine⟨m,rfl,qe6 e c d ?c ⟨kV xs[i].1,H,I1,?_,⟨rfl,xs[i],S,rfl⟩,st',λb hb=>(hf b hb).1⟩⟩;rw[hk];rcases qze g with⟨j,t,f,N⟩|⟨z,t,f,N⟩
  ·subst f N; exact⟨t,rfl⟩
  ·subst f N; exact⟨t,rfl⟩
 done:=by
  intro X r n x hc i pins s σ H E I hf st p;subst r n x;obtain⟨y,hi⟩:=p;obtain⟨vs,kv,Q⟩:=qa6 I y hd;obtain⟨G,F,W,D,C,A⟩:=hf it ?g;have hl:=kv.length;rw[hl]at st;exact wpAny_pyNext_dict_end (I.ok.hd hc) st Q (Qzt.mpr ?d) λh' eb=>⟨rfl,I.turned (λb o hb e=>eb b o hb e) G F D C A⟩
 self:=λ_ _ _ _ _ st h=>wpAny_pyIter_keyiter st h
abbrev iDict(X:Cx)(tl:TE):TI:=λσ H R=>tl σ H λx H1=>∃a xs,x=.ref a/\H1 a=Y (.dK xs)/\∀o,NoFz X a->R (Itd a o xs) (upd H1 a ?qy)
def qnn(hl:PE X l tl):PI X tg l (iDict X tl):=by
 intro pins s σ H R I h;refine thn (hl pins s σ H _ I h) λv c ⟨x,H1,g,j,a,xs,e,d,q⟩=>?_;subst e;cases j;obtain⟨o,i,f⟩:=qo5 (.k _) g d;obtain⟨_,lo,vs,kv,o',es,m,h2,k,hd,r⟩:=g.hok a _ d;rw[i]at h2;cases h2;have hn:=kv.length;refine wpAny_pyIter_dict lo ⟨o,es,i,k,hd,r⟩ ?_;refine⟨c.heap.objs.size,[c.heap.objs.size],_,_,_,rfl,f.kept λb o e=>Qqx _ e,qcn a _ o xs hd,⟨_,Qqh _ rfl,rfl,by rw[hn]; rfl⟩,λb hb=>?_,q o (qob (.k _) g d)⟩;have e:b=c.heap.objs.size:=by simpa using hb
 subst e;exact f.fpOk (Qqw _) (f.hok.fresh (Qqw _))
abbrev thawE(X:Cx)(Dn:Ends):Ends:=
 ⟨λσ H=>∃a o xs,NoFz X a/\H a=Y ?qy/\Dn.nx σ (upd H a (.dK xs)),λv H=>∃a o xs,NoFz X a/\H a=Y ?qy/\Dn.rt v (upd H a (.dK xs)),λ_ _=>False,λ_ _=>False⟩
def qnd(f:PassesOwn ?v X.A X.env X.xe)(hc:X.calm=L)(hl:PE X l tl)(i:PG X tg g)(hb:PSs X body tb)(hs:∀x,foldedSetIterable l X.env x=pure x):
  PS X (.For tg l body [] pos) (λd σ H=>tFor (iDict X tl) g tb (thawE X d) σ H):=by
 intro pins s σ H d I h;refine thn (qlw f hc (qnn hl) i hb hs pins s σ H (thawE X d) I h) λj k q=>?_
 cases j with
 |next=>
  obtain⟨b,H1,c,a,o,xs,nf,e,q⟩:=q;exact⟨b,_,qa1 c nf e,q⟩
 |ret u=>
  obtain⟨v,b,H1,c,r,a,o,xs,nf,e,q⟩:=q;exact⟨v,b,_,qa1 c nf e,r,q⟩
 |brk=>obtain⟨_,_,_,z⟩:=q; exact z.elim
 |cont=>obtain⟨_,_,_,z⟩:=q; exact z.elim
end
end MS
end
section
namespace MS
open PySem PySem.Spec PyProof.Rows L2
section
def qiy{k:RK}{i:Y0}(v:IsEnum s.heap (n+1) n i old)(R:k.It s.heap n l i)(I:k.Sq s.heap l xs)(N:xs[i]?=Y x)(P:∀h',IsEnumOut h' (n+1) n ((i:J)+1) x s.heap.objs.size->k.It h' n l (i+1)->IsPair h' s.heap.objs.size (.int i s.toks) x->
   (∀c o,c≠n+1->c≠n->s.heap.get? c=Y o->h'.get? c=Y o)->Q (Y ?Z) { s with heap:=h',toks:=s.toks+1 }):
  wpAny ?A A (pyNext (.ref (n+1))) Q E s:=by
 have H:s.TypeIs (.ref (n+1)) "enumerate":=⟨_,v,rfl⟩
 have d:=Qq1 (Qzp n);unfold pyNext;refine Qq (Q6 (Qb H F.slot_enumerate_next (Qd F.slot_enumerate_next H F.entry_enumerate_next ?_ (F.args_enumerate_next_1 _))));show wpAny _ _ (field (.ref (n+1)) 2 >>= _) _ _ _;refine Qq (Qv v rfl rfl ?_);refine Qq (qxc R I N λV i1 v1 c1=>?_);have z1:=v1 _ _ d.symm v;refine Qq (Qv z1 rfl rfl ?_);refine Qq (Qv z1 rfl rfl ?_);refine Qq (wpAny_mkInt ?_);refine Qq (Qw z1 ?g λU z2 t=>?_)
 replace z2:IsEnum U (n+1) n ((i:J)+1) old:=z2
 refine Qq (Qw z2 ?g λf h r=>?_)
 replace h:IsEnum f (n+1) n ((i:J)+1) old:=h
 refine Qq (wpAny_newTuple ?_);have sz:=r.1.trans (t.1.trans c1);have q:∀c o,c≠n+1->c≠n->s.heap.get? c=Y o->f.get? c=Y o:=λc o a b e=>r.extBut _ _ a (t.extBut _ _ a (v1 _ _ b e));have K:=i1.on λo e=>r.extBut _ _ d (t.extBut _ _ d e);have u:=Qqf h;have p:IsEnum (f.push { cls:=.type "tuple",data:=.seq #[.int i s.toks,x] }) (n+1) n ((i:J)+1) old:=Qqx _ h;refine Qq ?_;unfold Builtin.SmallTypes.ownedTupleIsFree;refine Qq (Qv p rfl rfl (Qx ?_));simp only[if_true];refine Qq (Q9 ?_);refine Qq (Qv p rfl rfl ?_);refine Qq (Qw p ?g λT m D=>?_)
 replace m:IsEnum T (n+1) n ((i:J)+1) x:=m
 refine Qq ?_;unfold Builtin.SmallTypes.ownedTupleHandOut;refine Qq (Qw m ?g λS j C=>?_)
 replace j:IsEnumOut S (n+1) n ((i:J)+1) x f.objs.size:=j
 refine Qw j ?g λy g z=>?_
 replace g:IsEnumOut y (n+1) n ((i:J)+1) x f.objs.size:=g
 have up:∀c o,c≠n+1->f.get? c=Y o->y.get? c=Y o:=λc o a e=>z.extBut _ _ a (C.extBut _ _ a (D.extBut _ _ a (Qqx _ e)));have G:=z.extBut _ _ (Qxr u) (C.extBut _ _ (Qxr u) (D.extBut _ _ (Qxr u) (Qqh _ rfl)));rw[sz]at g G;refine Qq (wpAny_letGo (Qx ⟨_,rfl,Qx ?_⟩));rw[sz];exact P y g (K.on λo e=>up _ o d e) G λc o a b e=>up c o a (q c o a b e)
def qfy{k:RK}{i:Y0}(j:A.handled=B)(d:IsEnum s.heap (n+1) n i a)(p:k.It s.heap n l i)(g:k.Sq s.heap l xs)(h:xs[i]?=B)(m:∀h',(∀c o,c≠n->s.heap.get? c=Y o->h'.get? c=Y o)->Q B { s with heap:=h' }):wpAny ?A A (pyNext (.ref (n+1))) Q E s:=by
 have f:s.TypeIs (.ref (n+1)) "enumerate":=⟨_,d,rfl⟩
 unfold pyNext;refine Qq (Q6 (Qb f F.slot_enumerate_next (Qd F.slot_enumerate_next f F.entry_enumerate_next ?_ (F.args_enumerate_next_1 _))));show wpAny _ _ (field (.ref (n+1)) 2 >>= _) _ _ _;refine Qq (Qv d rfl rfl ?_);refine Qq (qkz j p g h λq e v1 b=>?_);obtain⟨o,b,hc⟩:=b;exact Qq (Zm ⟨o,b,hc⟩ isSubtype_stop (Qx (m _ v1)))
end
noncomputable abbrev eh1(k:RK)(h:Heap)(l:Y5):Heap:=h.push (k.itO l)
noncomputable abbrev eh2(k:RK)(h:Heap)(l:Y5):Heap:=(eh1 k h l).push { cls:=.type "enumerate",data:=.fields #[.none,.bool Y6,.ref h.objs.size,rawInt 0,.none,.none] }
def wp_two[Decidable c]{p q:Sem α}{Q:α->Qz->Prop}(b:wpAny M A p Q E s)(a:wpAny M A q Q E s):wpAny M A (if c then p else q) Q E s:=by
 split
 ·exact b
 ·exact a
def qfa(k)(l)(xs):Meets (Qs.«enumerate.__new__» ⟨[.type "enumerate",.ref l],[]⟩) (λ_ R s=>k.Sq s.heap l xs/\R (.ok (.ret (.ref (eh1 k s.heap l).objs.size))) { s with heap:=eh2 k s.heap l }):=
 .of_wp λprog w A R s h=>by
  obtain⟨e,g,d,tk,os⟩:=s;obtain⟨c,h⟩:=h;have a:=sub_enumerate;have b:=c
  wp_walk using qjv b
  refine wpAny_stack_any λz=>Qx ?_;refine wp_two ?_ ?_<;>(wp_walk using qjv b; exact⟨_,rfl,h⟩)
def EnAt(k:RK)(n l:Y0)(i:Y0)(h:Heap):Prop:=l<n/\(∃old,IsEnum h (n+1) n i old)/\k.It h n l i
def qcw(b:k.Sq s.heap l xs)(b1:l<s.heap.objs.size)(h:∀h',EnAt k s.heap.objs.size l 0 h'->(∀c o,s.heap.get? c=Y o->h'.get? c=Y o)->Q (.ref ?O) { s with heap:=h' }):wpAny ?A A (call (.type "enumerate") [.ref l]) Q E s:=by
 refine callType_new F.called_enumerate ?c (F.typeCall_enumerate_1 _) (F.newCall_enumerate_1 _) (λobj=>F.args_object_init_2 obj _) F.entry_enumerate_new (qfa k l xs) ⟨b,?_⟩;have z1:(eh1 k s.heap l).objs.size=s.heap.objs.size+1:=Qxc ..;have a:(eh2 k s.heap l).get? (eh1 k s.heap l).objs.size=Y _:=Qqh _ rfl;have d:k.It (eh2 k s.heap l) s.heap.objs.size l 0:=row_new.on λo e=>Qqx _ e;rw[z1]at a;rw[z1];exact⟨⟨_,a,rfl⟩,h _ ⟨b1,⟨_,a⟩,d⟩ λc o x=>Qqx _ (Qqx _ x)⟩
abbrev Ite(K:Qqq)(k:RK)(a:Y5):It:=
 ⟨λi H=>∃xs x,k.sq K H a xs/\xs[i]?=Y x,
  λi H v H'=>∃p x,v=.ref p/\H p=B/\H'=upd H p (.tup [.int i,x])/\∀xs,k.sq K H a xs->xs[i]?=Y x,
  λi H=>∃xs,k.sq K H a xs/\xs.length<=i⟩
abbrev fpE(n:Y0):Z Y5:=[n+1,n]
def qcm{K:Qqq}(k)(n a):Turn P w K (.Tuple j c pos) (Ite K k a) (fpE n) (n+1) (EnAt k n a) where
 mem:=by simp[fpE]
 obj:=λi h st e G=>by
  obtain⟨b1,⟨d,f⟩,h1⟩:=st;simp only[fpE,Qqc,Qzm,or_false]at G;rcases G with rfl|rfl
  ·exact⟨_,f,λv z=>nomatch z⟩
  ·exact h1.obj
 keep:=λi h h' st q=>by
  obtain⟨b1,⟨d,f⟩,h1⟩:=st;exact⟨b1,⟨d,q _ (by simp[fpE]) _ f⟩,h1.on λo e=>q _ (by simp[fpE]) o e⟩
 item:=by
  intro X C u D hc i pins s σ H E I hf st A;subst C u D;obtain⟨xs,x,l,ex⟩:=A;obtain⟨b1,⟨d,f⟩,h1⟩:=st;obtain⟨Q,p,m⟩:=qqs I l;obtain⟨R,y,r⟩:=p.get ex;refine qiy f h1 m (by simpa using y) λh' V U T kp=>⟨_,rfl,?_⟩
  refine wpAny_letOwnedTupleGo_enum V λN c1 c2=>?_;have g:=c2.extBut;have lt:∀b∈fpE n,b≠s.heap.objs.size:=λb hb z=>by
   have q:b<s.heap.objs.size:=by
    simp only[fpE,Qqc,Qzm,or_false]at hb;rcases hb with rfl|rfl
    ·exact Qqf f
    ·obtain⟨o,e,_⟩:=h1.obj; exact Qqf e
   rw[z]at q;exact Qxa _ q
  have S:s.heap.objs.size≠n+1:=λz=>lt (n+1) (by simp[fpE]) z.symm;have I1:Inv X pins σ H { s with heap:=N,toks:=s.toks+1 }:=Inv.turnedL I (λb o hb e=>g _ _ (λz=>hb (by simp[fpE,z])) (kp b o (λz=>hb (by simp[fpE,z])) (λz=>hb (by simp[fpE,z])) e)) hf;have fr:=I.hok.fresh (Qqw _);have W:Inv X pins σ (upd H s.heap.objs.size (.tup [.int i,x])) { s with heap:=N,toks:=s.toks+1 }:=Inv.track I1 (I.fpOk (Qqw _) fr) ⟨by show 2<=sizeLine; decide,[.int i s.toks,R],.cons ⟨_,rfl⟩ (.cons r .nil),⟨_,g _ _ S T,rfl,_,rfl⟩⟩;refine⟨.ref s.heap.objs.size,upd H s.heap.objs.size (.tup [.int i,x]),W,rfl,⟨_,x,rfl,fr,rfl,λzs t=>?_⟩,⟨b1,⟨_,c1⟩,U.on λo e=>g _ o (Qq1 (Qzp n)) e⟩,λb hb=>?_⟩
  ·rw[qvq I t l]; exact ex
  ·rw[qzq (lt b hb)]; exact(hf b hb).1
 done:=by
  intro X C u D hc i pins s σ H E I hf st A;subst C u D;obtain⟨xs,l,F⟩:=A;obtain⟨b1,⟨d,f⟩,h1⟩:=st;obtain⟨Q,p,m⟩:=qqs I l;have lx:=p.length;exact qfy (I.ok.hd hc) f h1 m ?r λh' kp=>⟨rfl,Inv.turnedL I (λb o hb e=>kp b o (λz=>hb (by simp[fpE,z])) e) hf⟩
 self:=λ_ _ _ _ _ st h=>by
  obtain⟨_,⟨d,f⟩,_⟩:=st;exact wpAny_pyIter_enum f h
abbrev iEnum(K:Qqq)(ta:TA):TI:=λσ H R=>ta σ H λvs H1=>∃(k:RK) (a:Y5),vs=[.ref a]/\(∃xs,k.sq K H1 a xs)/\R (Ite K k a) H1
def qnm(z:Gl X "enumerate")(y:X.mg "enumerate" = B)(ha:PA X [a] j)(hs:starEach [a] X.env=[(Y6,Qa a X.env)]:=by rfl):
  PI X (.Tuple f c b) (.Call (.Name "enumerate" p) [a] [] pos) (iEnum X.K j):=by
 intro pins s σ H R I h;refine Call_ (qx5 I z y boot_enumerate (PyProof.Rows.callWith_type1 (thn (ha pos pins s σ H _ I h) λC g ⟨vs,H1,i,t,v⟩=>?_) hs rfl));obtain⟨k,a,e,⟨xs,u⟩,q⟩:=v;subst e
 cases t with
 |cons r n=>
  cases n;cases r;obtain⟨A,D,l⟩:=qqs i u;have la:a<g.heap.objs.size:=by
   cases k<;>(obtain⟨o,e,_⟩:=l; exact Qqf e)
  refine qcw l la λh' st kp=>?_;obtain⟨b1,⟨w,x⟩,h1⟩:=id st;refine wpAny_pyIter_enum x ?_;refine⟨g.heap.objs.size+1,fpE g.heap.objs.size,_,_,H1,rfl,i.kept kp,qcm k _ a,st,λd hd=>?_,q⟩;have m:g.heap.objs.size<=d:=by
   simp only[fpE,Qqc,Qzm,or_false]at hd;rcases hd with rfl|rfl
   ·exact Qxo _
   ·exact Qqw _
  exact i.fpOk m (i.hok.fresh m)
def rv_next:Slot "reversed" "__next__" "reversed.__next__":=.of (owner:="reversed") (n:="__next__") (by rw[Zr,Zx]; kernel_rfl) ?j ?j ?j (.inl ?j) (by rw[Zf]; kernel_rfl)
def qde:Slot "reversed" "__iter__" "reversed.__iter__":=.of (owner:="reversed") (n:="__iter__") (by rw[Zr,Zx]; kernel_rfl) ?j ?j ?j (.inl ?j) (by rw[Zf]; kernel_rfl)
def qm8:Slot "reversed" "__init__" "object.__init__":=.of (owner:="object") (n:="__init__") (by rw[Zr,Zx]; kernel_rfl) ?j ?j ?j (.inl ?j) (by rw[Zf]; kernel_rfl)
def qy7:entryFor table "reversed.__next__" = Y Qs.«reversed.__next__»:=entryFor_of_tree (by kernel_rfl)
def qg8:entryFor table "reversed.__iter__" = Y Qs.«dict_keyiterator.__iter__»:=entryFor_alias (id':="dict_keyiterator.__iter__") (by kernel_rfl) (by first|rfl|decide +kernel) ?j (by kernel_rfl)
def qy8(a):argsOk "reversed.__next__" ⟨[a],[]⟩:=by unfold argsOk; kernel_rfl
def qg9(a):argsOk "reversed.__iter__" ⟨[a],[]⟩:=by unfold argsOk; kernel_rfl
def qdf:TypeCalled "reversed" "reversed.__new__" "object.__init__":=⟨?j,?j,⟨_,_,F.mro_reversed⟩,F.made_reversed,?j,F.sub_reversed_self,qm8⟩
def qco:typeLookup (.type "tuple") "__reversed__" = pure none:=by rw[Zr,Zx]; kernel_rfl
noncomputable abbrev IsRv(h:Heap)(it a:Y5)(i:J):Prop:=h.get? it=Y { cls:=.type "reversed",data:=.fields #[.ref a,rawInt i] }
def qhw(a)(xs)(i:(xs.size:J)<2 ^ 63):Meets (Qs.«reversed.__new__» ⟨[.type "reversed",.ref a],[]⟩) (λ_ R s=>s.heap.IsTuple a xs/\∀t,R (.ok (.ret ?Z)) { s with heap:=s.heap.push { cls:=.type "reversed",data:=.fields #[.ref a,rawInt ((xs.size:J) - 1)] },toks:=t }):=
 .of_wp λprog w A R s h=>by
  obtain⟨j,g,d,tk,os⟩:=s;obtain⟨f,h⟩:=h;have b:Shared.TypeIs ⟨j,g,d,tk,os⟩ (.ref a) "tuple":=by obtain⟨o,e,c,_⟩:=f; exact⟨o,e,c⟩
  unfold Qs.«reversed.__new__»;refine Qq (Zy (newClass_reversed _) ?_)
  try dsimp only
  refine Qq (Zy (by first|rfl|kernel_rfl) ?_);refine Qq (Zy (by first|rfl|kernel_rfl) ?_)
  try dsimp only
  refine Qq (Zc b qco ?_)
  try dsimp only
  refine Qq ?_;refine Qq (Zm b PySem.F.sub_tuple_dict ?_);refine Qq (Zc b PySem.F.slot_tuple_getitem.lookup ?_);refine Zy (by rfl) ?_;refine Qq (PyProof.Rows.len_tuple f i ?_);refine Qq (Zy (by rfl) ?_)
  wp_walk
  exact⟨_,rfl,h _⟩
def RvAt(n l:Y0)(m i:Y0)(h:Heap):Prop:=l<n/\IsRv h n l ((m:J) - 1 - i)
section
def qfr(a:s.heap.IsTuple l xs)(b:(xs.size:J)<2 ^ 63)(b1:l<s.heap.objs.size)(h:∀h' t,RvAt s.heap.objs.size l xs.size 0 h'->(∀c o,s.heap.get? c=Y o->h'.get? c=Y o)->Q ?Z { s with heap:=h',toks:=t }):wpAny ?A A (call (.type "reversed") [.ref l]) Q E s:=by
 refine callType_new qdf ?c (F.typeCall_reversed_1 _) (F.newCall_reversed_1 _) (λobj=>F.args_object_init_2 obj _) F.entry_reversed_new (qhw l xs b) ⟨a,λt=>?_⟩;have g:IsRv (s.heap.push { cls:=.type "reversed",data:=.fields #[.ref l,rawInt ((xs.size:J) - 1)] }) s.heap.objs.size l ((xs.size:J) - 1):=Qqh _ rfl;exact⟨⟨_,g,rfl⟩,h _ t ⟨b1,by rw[show((xs.size:J) - 1 - ((0:Y0):J))=(xs.size:J) - 1 by lia]; exact g⟩ λc o x=>Qqx _ x⟩
def qnv{i:Y0}(a:IsRv s.heap n l i)(b:s.heap.IsTuple l xs)(k:(xs.size:J)<2 ^ 63)(d:xs[i]?=Y x)(j:∀h' t,IsRv h' n l ((i:J) - 1)->(∀c o,c≠n->s.heap.get? c=Y o->h'.get? c=Y o)->Q (Y x) { s with heap:=h',toks:=t }):wpAny ?A A (pyNext (.ref n)) Q E s:=by
 have f:s.TypeIs (.ref n) "reversed":=⟨_,a,rfl⟩
 have h:s.TypeIs (.ref l) "tuple":=by obtain⟨o,e,c,_⟩:=b; exact⟨o,e,c⟩
 have hi:=(Qz5.mp d).1;unfold pyNext;refine Qq (Q6 (Qb f rv_next (Qd rv_next f qy7 ?_ (qy8 _))));show wpAny _ _ (field (.ref n) 0 >>= _) _ _ _;refine Qq (Qv a rfl rfl ?_);refine Qq (Qv a rfl rfl ?_);show wpAny _ _ (if (i:J)<0 then _ else _) _ _ _;rw[Z8 ?d];refine Qq (Zc h PySem.F.slot_tuple_getitem.lookup ?_);refine Qq (wpAny_mkInt ?_);refine Qq (Q6 (getItem_tuple b ?d ?d (seqIndex_of ?d ?d) d ?_));refine Qq (Qv a rfl rfl ?_);refine Qq (Qw a ?g λg z u=>?_);exact Qx ⟨_,rfl,Qx (j g _ z u.extBut)⟩
def qhv(d:A.handled=B)(b:IsRv s.heap n l (-1))(i:∀h',(∀c o,c≠n->s.heap.get? c=Y o->h'.get? c=Y o)->Q B { s with heap:=h' }):wpAny ?A A (pyNext (.ref n)) Q E s:=by
 have f:s.TypeIs (.ref n) "reversed":=⟨_,b,rfl⟩
 unfold pyNext;refine Qq (Q6 (Qb f rv_next (Qd rv_next f qy7 ?_ (qy8 _))));show wpAny _ _ (field (.ref n) 0 >>= _) _ _ _;refine Qq (Qv b rfl rfl ?_);refine Qq (Qv b rfl rfl ?_);show wpAny _ _ (if (-1:J)<0 then _ else _) _ _ _;rw[Z9 ?c];refine Qq (Q9 ?_);refine Qq ?_;refine Qq (Qw b ?g λk z1 h=>?_);refine Qw z1 ?g λj z2 g=>?_;refine Qq ?_;refine Qq ?_; simp only[ newTuple];refine Qq (Qi ?_ (by size_fits)); refine Qq (Zy (by first|rfl|(simp only[firstArgMember]; rfl)) ?_);refine Qi ?_ (by size_fits); simp only[raiseNew];refine Qq (wpAny_handled ?_)
 first|rw[show A.in1.handled=B from d]|(rw[d])
 refine Qq (Qx (wpAny_throw ?_));refine Qq (Zm ⟨_,Qqh _ rfl,rfl⟩ isSubtype_stop ?_);exact Qx (i _ λc o a e=>Qqx _ (Qqx _ (g.extBut _ _ a (h.extBut _ _ a e))))
end
abbrev Itv(K:Qqq)(a:Y5)(m:Y0):It:=
 ⟨λi H=>∃xs x,SqT K H a xs/\xs.length=m/\i<m/\xs[m - 1 - i]?=Y x,
  λi H v H'=>H'=H/\∀xs,SqT K H a xs->xs[m - 1 - i]?=Y v,
  λi H=>m<=i⟩
def qgi{K:Qqq}(n a m:Y0)(hz:(m:J)<2 ^ 63):Turn P w K tg (Itv K a m) [n] n (λi h=>i<=m/\RvAt n a m i h) where
 mem:=by simp
 obj:=λi h st e c=>by
  simp only[Qqa]at c;subst c;exact⟨_,st.2.2,λv z=>nomatch z⟩
 keep:=λi h h' st q=>⟨st.1,st.2.1,q _ ?g _ st.2.2⟩
 item:=by
  intro X p f r hc i pins s σ H E I hf st j;subst p f r;obtain⟨xs,x,G,el,lt,ex⟩:=j;obtain⟨S,b1,c⟩:=st;obtain⟨W,F,R⟩:=qqs (k:=.tup) I G;obtain⟨Q,g,d⟩:=F.get ex;have lx:=F.length;obtain⟨D,C,U,A,y,u⟩:=hf n ?g;rw[show(m:J) - 1 - (i:J)=((m - 1 - i:Y0):J) by lia]at c;refine qnv c R ?r (by simpa using g) λh' t z kp=>⟨Q,rfl,?_⟩
  have N:IsRv h' n a ((m:J) - 1 - ((i+1:Y0):J)):=by
   rw[show(m:J) - 1 - ((i+1:Y0):J)=((m - 1 - i:Y0):J) - 1 by lia];exact z
  have V:Inv X pins σ H { s with heap:=h',toks:=t }:=I.turned (λb o hb e=>kp b o hb e) D C A y u;refine qe6 z rfl rfl ?c ⟨x,H,V,d,⟨rfl,λys T=>by rw[qvq (k:=.tup) I T G]; exact ex⟩,⟨?d,b1,N⟩,λb hb=>(hf b hb).1⟩
 done:=by
  intro X p f r hc i pins s σ H E I hf st j;subst p f r;obtain⟨S,b1,c⟩:=st;have hi:m<=i:=j;obtain⟨D,C,U,A,y,u⟩:=hf n ?g;rw[show(m:J) - 1 - (i:J)=-1 by lia]at c;exact qhv (I.ok.hd hc) c λh' kp=>⟨rfl,I.turned (λb o hb e=>kp b o hb e) D C A y u⟩
 self:=λ_ _ s _ _ st h=>by
  have l:s.TypeIs (.ref n) "reversed":=⟨_,st.2.2,rfl⟩
  refine wpAny_pyIter_slot l qde (Qd qde l qg8 ?_ (qg9 _));exact Qx ⟨_,rfl,"reversed",_,l,rv_next.lookup,h⟩
abbrev iRev(K:Qqq)(ta:TA):TI:=λσ H R=>ta σ H λvs H1=>∃(a:Y5) (xs:Z V),vs=[.ref a]/\SqT K H1 a xs/\R (Itv K a xs.length) H1
def pi_rev(z:Gl X "reversed")(y:X.mg "reversed" = B)(ha:PA X [a] g)(hs:starEach [a] X.env=[(Y6,Qa a X.env)]:=by rfl):
  PI X tg (.Call (.Name "reversed" p) [a] [] pos) (iRev X.K g):=by
 intro pins s σ H R I h;refine Call_ (qx5 I z y boot_reversed (PyProof.Rows.callWith_type1 (thn (ha pos pins s σ H _ I h) λA b ⟨vs,H1,c,m,u⟩=>?_) hs rfl));obtain⟨a,xs,e,n,q⟩:=u;subst e
 cases m with
 |cons r l=>
  cases l;cases r;obtain⟨f,k,i,x⟩:=c.tuple n;have la:a<b.heap.objs.size:=by obtain⟨o,e,_⟩:=i; exact Qqf e
  have v:=k.length;have j:(f.toArray.size:J)<2 ^ 63:=by simp; unfold sizeLine at x; lia
  refine qfr (i) j la λh' t st kp=>?_;have st':RvAt b.heap.objs.size a xs.length 0 h':=by rw[v]; simpa using st
  have T:=qgi (P:=X.prog) (w:=X.w) (K:=X.K) (tg:=tg) b.heap.objs.size a xs.length (by simp at j; lia);refine T.self _ 0 { b with heap:=h',toks:=t } _ _ ⟨Qzg _,st'⟩ ?_;refine⟨b.heap.objs.size,[b.heap.objs.size],_,_,H1,rfl,c.kept kp,T,⟨Qzg _,st'⟩,λd hd=>?_,q⟩;simp only[Qqa]at hd;subst hd;exact c.fpOk (Qqw _) (c.hok.fresh (Qqw _))
end MS
end
section
namespace ST
open PySem SetTable
abbrev adv(m:Y0)(p:Probe):Probe:=
 if p.more > 0 then { p with j:=p.j+1,more:=p.more - 1 } else
 { p with j:=(?qz).1,more:=runEnd m (?qz).1 - (leap m p.i p.perturb).1,i:=(?qz).1,perturb:=(?qz).2 }
abbrev qkh(m:Y0)(h:J):Probe:={ j:=bits h % (m+1),more:=runEnd m (bits h % (m+1)) - bits h % (m+1),i:=bits h % (m+1),perturb:=bits h,dummy:=B }
abbrev stp(m:Y0):Y0->Probe->Probe
 |0,p=>p
 |n+1,p=>stp m n (adv m p)
theorem qxi(m):∀(a b:Y0) (p:Probe),stp m (a+b) p=stp m b (stp m a p)
 |0,b,p=>by rw[Qz3]; rfl
 |a+1,b,p=>by rw[Nat.add_right_comm]; exact qxi m a b (adv m p)
abbrev runP(m i pt:Y0)(d:Y2 Y0):Probe:={ j:=i,more:=runEnd m i - i,i:=i,perturb:=pt,dummy:=d }
theorem qy9(m):∀(k:Y0) (p:Probe),p.more=k->stp m (k+1) p=runP m (?qz).1 (?qz).2 p.dummy
 |0,p,h=>by
  show adv m p=_;unfold adv;rw[Z8 ?d]; rfl
 |k+1,p,h=>by
  show stp m (k+1) (adv m p)=_;have e:adv m p={ p with j:=p.j+1,more:=p.more - 1 }:=by unfold adv; rw[Z9 ?d]
  rw[e,qy9 m k _ (by show p.more - 1=k; lia)]
abbrev lp(m:Y0):Y0->Y0×Y0->Y0×Y0
 |0,q=>q
 |n+1,q=>lp m n (leap m q.1 q.2)
def more_le(m i):runEnd m i - i<=9:=by unfold runEnd; split<;>lia
theorem qaz(m)(d):∀(n i pt:Y0),∃N,N<=10*n/\stp m N (runP m i pt d)=runP m (lp m n (i,pt)).1 (lp m n (i,pt)).2 d
 |0,i,pt=>⟨0,Qqw _,rfl⟩
 |n+1,i,pt=>by
  obtain⟨N,a,e⟩:=qaz m d n (leap m i pt).1 (leap m i pt).2;refine⟨(runP m i pt d).more+1+N,?_,?_⟩
  ·have:=more_le m i;show runEnd m i - i+1+N<=_
   lia
  ·rw[qxi,qy9 m _ _ rfl];exact e
theorem lp_pt(m):∀(n i pt:Y0),(lp m n (i,pt)).2=pt / 32 ^ n
 |0,i,pt=>by simp[lp]
 |n+1,i,pt=>by
  show(lp m n (leap m i pt)).2=_;have:leap m i pt=((leap m i pt).1,pt / 32):=rfl;rw[this,lp_pt m n,Nat.div_div_eq_div_mul,Nat.pow_succ,Nat.mul_comm]
theorem qlg(m):∀(a b:Y0) (q:Y0×Y0),lp m (a+b) q=lp m b (lp m a q)
 |0,b,q=>by rw[Qz3]; rfl
 |a+1,b,q=>by rw[Nat.add_right_comm]; exact qlg m a b _
theorem lp_le(m):∀(n i pt:Y0),i<=m->(lp m n (i,pt)).1<=m
 |0,i,pt,h=>h
 |n+1,i,pt,h=>by
  exact lp_le m n _ _ (Qxi (Qj3 _ (Qjc _)))
abbrev lcg(m:Y0):Y0->Y0->Y0
 |0,i=>i
 |n+1,i=>lcg m n ((i*5+1) % (m+1))
theorem qej(m):∀(n i:Y0),(lp m n (i,0)).1=lcg m n i
 |0,i=>rfl
 |n+1,i=>by
  show(lp m n (leap m i 0)).1=_;have:leap m i 0=((i*5+1) % (m+1),0):=by simp[leap]
  rw[this,qej m n]; rfl
def onto7:∀i,i<8->∀e,e<8->∃r,r<8/\lcg 7 r i=e:=by decide +kernel
def onto31:∀i,i<32->∀e,e<32->∃r,r<32/\lcg 31 r i=e:=by decide +kernel
def onto(a:m=7\/m=31)(b:i<=m)(c:e<=m):∃r,r<=m/\lcg m r i=e:=by
 rcases a with rfl|rfl
 ·obtain⟨r,h,q⟩:=onto7 i ?d e ?d; exact⟨r,?d,q⟩
 ·obtain⟨r,h,q⟩:=onto31 i ?d e ?d; exact⟨r,?d,q⟩
def qaq(g:m=7\/m=31)(d)(h:i<=m)(f:pt<2 ^ 64)(j:e<=m):∃n N,n<=m+13/\N<=10*n/\stp m N (runP m i pt d)=runP m e (lp m n (i,pt)).2 d/\(lp m n (i,pt)).1=e:=by
 have c:(lp m 13 (i,pt)).2=0:=by
  rw[lp_pt]; exact Nat.div_eq_of_lt (Qq0 f ?c)
 obtain⟨r,hr,l⟩:=onto g (lp_le m 13 i pt h) j;have b:(lp m (13+r) (i,pt)).1=e:=by
  rw[qlg];have:lp m 13 (i,pt)=((lp m 13 (i,pt)).1,0):=by rw[<- c]
  rw[this,qej]; exact l
 obtain⟨N,k,a⟩:=qaz m d (13+r) i pt;rw[b]at a;exact⟨13+r,N,?d,k,a,b⟩
structure Okp (m:Y0) (p:Probe):Prop where
 i:p.i<=m
 pt:p.perturb<2 ^ 64
 more:p.more<=9
 dm:p.dummy=B
def Okp.start(h):Okp m (qkh m h):=by
 refine⟨Qxi (Qj3 _ (Qjc _)),?_,more_le _ _,rfl⟩;show bits h<2 ^ 64;unfold bits
 lia
def Okp.next(h:Okp m p):Okp m (adv m p):=by
 unfold adv
 split
 ·exact⟨h.i,h.pt,by have:=h.more; show p.more - 1<=9; lia,h.dm⟩
 ·refine⟨by unfold leap; exact Qxi (Qj3 _ (Qjc _)),?_,more_le _ _,h.dm⟩;exact Nat.lt_of_le_of_lt (Nat.div_le_self _ _) h.pt
theorem Okp.stp:∀(n:Y0){p:Probe},Okp m p->Okp m (stp m n p)
 |0,_,h=>h
 |n+1,_,h=>Okp.stp n h.next
def hits(a:m=7\/m=31)(h:Okp m p)(b:e<=m):∃N,N<10*turns m/\(stp m N p).j=e:=by
 have h1:=(h.stp (p.more+1))
 rw[qy9 m _ p rfl]at h1;obtain⟨n,N,hn,d,c,_⟩:=qaq a p.dummy h1.i h1.pt b;refine⟨p.more+1+N,?_,?_⟩
 ·have:=h.more;unfold turns; lia
 ·rw[qxi,qy9 m _ p rfl];exact congrArg Probe.j c
def Up(xs:Array Y0):Prop:=∀(i k a b:Y0),i<k->xs[i]?=Y a->xs[k]?=Y b->a<b
theorem qvg(hs:Up xs):∀(b c hi:Y0),hi<=xs.size->c<=hi->hi - c<=b->(∀(i a:Y0),i<c->xs[i]?=Y a->a<j)->(∀(i a:Y0),hi<=i->xs[i]?=Y a->j<=a)->
  (∀(i a:Y0),i<below.go xs j b c hi->xs[i]?=Y a->a<j)/\(∀(i a:Y0),below.go xs j b c hi<=i->xs[i]?=Y a->j<=a)/\below.go xs j b c hi<=xs.size
 |0,c,hi,h1,h2,m,g,f=>by
  have:c=hi:=by lia
  subst this;exact⟨g,f,h1⟩
 |b+1,c,hi,h1,h2,m,g,f=>by
  unfold below.go
  by_cases d:c<hi
  ·rw[Z9 d];have l:(c+hi) / 2<xs.size:=by lia
   have e:=Qzd l;have n:xs.getD ((c+hi) / 2) j=xs[(c+hi) / 2]:=by rw[Qxy,e]; rfl
   simp only[n]
   split
   ·rename_i hc;refine qvg hs b _ _ h1 ?d ?d (λi a k ha=>?_) f;rcases Qjv i ((c+hi) / 2) with h|h
    ·exact Nat.lt_trans (hs i _ a _ h ha e) hc
    ·have:i=(c+hi) / 2:=by lia
     subst this;rw[e]at ha; cases ha; exact hc
   ·rename_i hc;refine qvg hs b _ _ ?d ?d ?d g (λi a k ha=>?_);rcases Qjv ((c+hi) / 2) i with h|h
    ·have:=hs _ i _ a h e ha; lia
    ·have:i=(c+hi) / 2:=by lia
     subst this;rw[e]at ha; cases ha; lia
  ·rw[Z8 d];have:c=hi:=by lia
   subst this;exact⟨g,f,h1⟩
def qxu(hs:Up xs):(∀(i a:Y0),i<below xs j->xs[i]?=Y a->a<j)/\(∀(i a:Y0),below xs j<=i->xs[i]?=Y a->j<=a)/\below xs j<=xs.size:=
 qvg hs xs.size 0 xs.size (Qqw _) (Qzg _) ?d (λi a h=>by lia) λi a h e=>by
  have:=(Qz5.mp e).1; lia
def below_at(hs:Up xs)(h:xs[i]?=Y j):below xs j=i:=by
 obtain⟨b1,b2,b3⟩:=qxu hs;rcases Nat.lt_trichotomy (below xs j) i with h1|h1|h1
 ·have hb:=Nat.lt_trans h1 (Qz5.mp h).1;have e:=Qzd hb;have:=b2 _ _ (Qqw _) e;have:=hs _ _ _ _ h1 e h
  lia
 ·exact h1
 ·have:=b1 _ _ h1 h; lia
structure Tb (t:Qc):Prop where
 mask:t.mask=7\/t.mask=31
 dum:t.dummies=#[]
 up:Up t.place
 le:∀(i j:Y0),t.place[i]?=Y j->j<=t.mask
 few:t.place.size<=t.mask
def Occ(t:Qc)(j:Y0):Prop:=∃i:Y0,t.place[i]?=Y j
def qjm(T:Tb t)(h:t.place[i]?=Y j):t.slot j=.live i:=by
 unfold slot;simp only[below_at T.up h,h,beq_self_eq_true,if_true]
def qbn(T:Tb t)(h:¬ Occ t j):t.slot j=.empty:=by
 unfold slot;have:(t.place[below t.place j]?==Y j)=false:=by
  cases e:t.place[below t.place j]?==Y j with
  |false=>rfl
  |true=>exact absurd ⟨_,beq_iff_eq.mp e⟩ h
 have hd:has t.dummies j=false:=by rw[T.dum]; unfold has; simp
 simp[this,hd]
theorem qkr:∀(l:Z Y0) (lo:Y0),l.Pairwise (· < ·)->(∀a∈l,lo<=a)->(∀e,lo<=e->e<=m->e∈l)->lo<=m+1->m+1<=lo+l.length
 |[],lo,_,_,c,d=>by
  rcases Qjv m lo with h|h
  ·simp; lia
  ·exact absurd (c lo (Qqw _) h) ?g
 |a::l,lo,h1,h2,c,d=>by
  rcases Qjv m lo with h|h
  ·lia
  ·obtain⟨p1,p2⟩:=Qxj.mp h1;have ha:a=lo:=by
    rcases Qqc.mp (c lo (Qqw _) h) with e|e
    ·exact e.symm
    ·have:=p1 lo e;have:=h2 a Qzk
     lia
   subst ha
   have:=qkr l (a+1) p2 (λb hb=>p1 b hb) (λe g f=>by
    rcases Qqc.mp (c e ?d f) with q|q
    ·lia
    ·exact q) ?d
   simp only[Qqm]
   lia
def Up.pairwise(h:Up xs):xs.toList.Pairwise (· < ·):=by
 rw[Qxe];intro i j hi hj a;exact h i j _ _ a (by rw[<- Qzc,Qqb hi]) (by rw[<- Qzc,Qqb hj])
def some_free(T:Tb t):∃e,e<=t.mask/\¬ Occ t e:=by
 apply Classical.byContradiction;intro hn;have all:=λe b=>Classical.byContradiction λhc=>hn ⟨e,b,hc⟩
 have:=qkr t.place.toList 0 T.up.pairwise (λa _=>Qzg _) (λe _ b=>by
  obtain⟨i,hi⟩:=all e b
  exact Qqn (by rw[Qzc]; exact hi)) (Qzg _)
 have:=T.few;rw[Qzu]at *
 lia
theorem qe5(T:Tb t):∀(b:Y0) (p:Probe) (N:Y0),p.dummy=B->N<b->¬ Occ t (stp t.mask N p).j->
  ∃n,(∀m,m<n->Occ t (stp t.mask m p).j)/\
   ((¬ Occ t (stp t.mask n p).j/\probe.go t a h b p=Y (.empty (stp t.mask n p).j B))\/
    (∃i:Y0,t.place[i]?=Y (stp t.mask n p).j/\probe.go t a h b p=Y (.candidate (stp t.mask n p).j i (stp t.mask (n+1) p))))
 |0,p,N,_,j,_=>by lia
 |b+1,p,N,hd,j,e=>by
  by_cases c:Occ t p.j
  ·obtain⟨i,hi⟩:=id c
   by_cases d:a i=h
   ·refine⟨0,nofun,.inr ⟨i,hi,?_⟩⟩;unfold probe.go;rw[qjm T hi];simp only[d,beq_self_eq_true]
    rfl
   ·cases N with
    |zero=>exact absurd c e
    |succ N=>
     obtain⟨n,g,f⟩:=qe5 T b (adv t.mask p) N (by unfold adv; split<;>exact hd) ?d e;have k:probe.go t a h (b+1) p=probe.go t a h b (adv t.mask p):=by
      conv=>lhs; unfold probe.go
      rw[qjm T hi];have:(a i==h)=false:=by simpa using d
      simp only[this,if_false]
      rfl
     refine⟨n+1,λm l=>?_,by rw[k]; exact f⟩
     cases m with
     |zero=>exact c
     |succ m=>exact g m ?d
  ·refine⟨0,nofun,.inl ⟨c,?_⟩⟩;unfold probe.go;rw[qbn T c,hd]
   rfl
def qdl(T:Tb t)(b:Okp t.mask p)(c:t.probe a h p=met):
  ∃n,(∀m,m<n->Occ t (stp t.mask m p).j)/\
   ((¬ Occ t (stp t.mask n p).j/\met=Y (.empty (stp t.mask n p).j B))\/
    (∃i:Y0,t.place[i]?=Y (stp t.mask n p).j/\met=Y (.candidate (stp t.mask n p).j i (stp t.mask (n+1) p)))):=by
 subst c;obtain⟨e,d,hf⟩:=some_free T;obtain⟨N,f,g⟩:=hits T.mask b d;exact qe5 T _ p N b.dm f (by rw[g]; exact hf)
section
def qxo(xs:Array α)(p)(x)(b:p<=xs.size)(i):(insertAt xs p x)[i]?=if i<p then xs[i]? else if i=p then Y x else xs[i - 1]?:=by
 unfold insertAt;rw[Array.getElem?_append,Array.getElem?_push,Qko,Qko];simp only[Array.size_push,Array.size_extract];have e:min p xs.size=p:=by lia
 simp only[e,Nat.sub_zero,Qz3]
 by_cases h1:i<p
 ·rw[Z9 ?d,Z8 ?d,Z9 h1,Z9 h1]
 ·by_cases h2:i=p
  ·subst h2;rw[Z9 ?d,Z9 rfl,Z8 h1,Z9 rfl]
  ·rw[Z8 ?d,Z8 h1,Z8 h2]
   by_cases a:i - (p+1)<min xs.size xs.size - p
   ·rw[Z9 a]; congr 1; lia
   ·rw[Z8 a];exact(Qji ?d).symm
def qja(xs:Array α)(p)(x)(a:p<=xs.size):(insertAt xs p x).size=xs.size+1:=by
 unfold insertAt;simp only[Qkj,Array.size_push,Array.size_extract]
 lia
def qo7(b:p<=xs.size):y∈(insertAt xs p x).toList↔y∈xs.toList\/y=x:=by
 unfold insertAt;simp only[Array.toList_append,Array.toList_push,Array.toList_extract,Qqi,Qqa,List.extract_eq_drop_take,Nat.sub_zero,List.drop_zero];have e:xs.toList.take p++xs.toList.drop p=xs.toList:=Qjs p _;have a:(xs.toList.drop p).take (xs.size - p)=xs.toList.drop p:=Qjz ?g;rw[a]
 conv=>rhs; rw[<- e,Qqi]
 constructor
 ·rintro ((h|h)|h)
  ·exact .inl (.inl h)
  ·exact .inr h
  ·exact .inl (.inr h)
 ·rintro ((h|h)|h)
  ·exact .inl (.inl h)
  ·exact .inr h
  ·exact .inl (.inr h)
end
structure SI {α:Type}(t:Qc) (es:Array (J×α)):Prop where
 tb:Tb t
 sz:t.place.size=es.size
def qdi(T:Tb t)(j):t.put j=({ t with place:=insertAt t.place (below t.place j) j },below t.place j):=by
 unfold put;have hd:has t.dummies j=false:=by rw[T.dum]; unfold has; simp
 simp only[hd,Qzo,if_false]
def put_ok{es:Array (J×α)}(I:SI t es){x:α}(hj:j<=t.mask)(hf:¬ Occ t j)(hs:es.size+1<=t.mask):
  SI (t.put j).1 (insertAt es (t.put j).2 (h,x)):=by
 obtain⟨b1,b2,b3⟩:=qxu I.tb.up;have g:below t.place j<=es.size:=by rw[<- I.sz]; exact b3
 rw[qdi I.tb];refine⟨⟨I.tb.mask,I.tb.dum,?_,?_,?_⟩,?_⟩
 ·intro i k a b f ha hb;have ha:=ha;have hb:=hb;rw[qxo _ _ _ b3]at ha hb;have ne:∀(d c:Y0),t.place[d]?=Y c->c≠j:=λd c e z=>hf ⟨d,by rw[<- z]; exact e⟩
  split at ha
  ·split at hb
   ·exact I.tb.up _ _ _ _ f ha hb
   ·split at hb
    ·cases hb; exact b1 _ _ (by assumption) ha
    ·exact I.tb.up _ _ _ _ ?d ha hb
  ·split at ha
   ·cases ha;rw[Z8 ?d,Z8 ?d]at hb;have:=b2 _ _ ?d hb;have:=ne _ _ hb
    lia
   ·rw[Z8 ?d,Z8 ?d]at hb;exact I.tb.up _ _ _ _ ?d ha hb
 ·intro i l e;have e:=e;rw[qxo _ _ _ b3]at e
  split at e
  ·exact I.tb.le _ _ e
  ·split at e
   ·cases e; exact hj
   ·exact I.tb.le _ _ e
 ·rw[qja _ _ _ b3,I.sz]; exact hs
 ·rw[qja _ _ _ b3,qja _ _ _ g,I.sz]
def qiv(c):SI (α:=α) (PySem.SetTable.fresh 0 0 c) #[]:=
 ⟨⟨.inl rfl,rfl,λi k a b _ h=>by simp[PySem.SetTable.fresh]at h,λi j h=>by simp[PySem.SetTable.fresh]at h,by simp[PySem.SetTable.fresh]⟩,rfl⟩
def OcO(ow:Array (Y2 Y0))(j:Y0):Prop:=∃k,ow[j]?=Y (Y k)
def getD_none(hj:j<a.size):(a.getD j (Y 0)).isNone=L↔¬ OcO a j:=by
 have e:=Qzd hj;rw[Qxy,e]
 cases h:a[j] with
 |none=>simp[OcO,e,h]
 |some k=>simp[OcO,e,h]
def qjo(h:i<=m):i<=runEnd m i/\runEnd m i<=m:=by unfold runEnd; split<;>lia
theorem qe7(hs:c.size=m+1):∀(a i pt b:Y0),i<=m->b<a->¬ OcO c (lp m b (i,pt)).1->∃j,layClean.free m c a i pt=Y j/\j<=m/\¬ OcO c j
 |0,i,pt,b,_,hn,_=>by lia
 |a+1,i,pt,b,hi,hn,he=>by
  unfold layClean.free;obtain⟨f,e⟩:=qjo hi
  cases hf:(List.range (runEnd m i+1 - i)).find? λk=>(c.getD (i+k) (Y 0)).isNone with
  |some k=>
   have g:=Qz6.mp (Qzw hf);have d:=Qz1 (p:=λk=>(c.getD (i+k) (Y 0)).isNone) hf;exact⟨i+k,rfl,?d,(getD_none ?d).mp d⟩
  |none=>
   cases b with
   |zero=>
    have:=Qxd.mp hf 0 (Qz6.mpr ?d);exact absurd ((getD_none (by show i<_; lia)).mpr he) this
   |succ b=>exact qe7 hs a (leap m i pt).1 (leap m i pt).2 b (Qxi (Qj3 _ (Qjc _))) ?d he
structure FI (m:Y0) (ow:Array (Y2 Y0)) (n:Y0):Prop where
 size:ow.size=m+1
 val:∀(j k:Y0),ow[j]?=Y (Y k)->k<n
 cnt:ow.toList.countP Option.isSome=n
def FI.zero(m):FI m (Array.replicate (m+1) B) 0 where
 size:=by simp
 val:=λj k h=>by
  rw[Array.getElem?_replicate]at h
  split at h<;>simp at h
 cnt:=by rw[Array.toList_replicate]; simp
def FI.some_free(I:FI m a n)(h:n<=m):∃e,e<=m/\¬ OcO a e:=by
 apply Classical.byContradiction;intro hn;have all:∀x∈a.toList,Option.isSome x=true:=λx c=>by
  obtain⟨j,hj,e⟩:=Qx4 c;have b:j<a.size:=by simpa using hj
  obtain⟨k,hk⟩:OcO a j:=Classical.byContradiction λhc=>hn ⟨j,by have:=I.size; lia,hc⟩;rw[Qzd b]at hk;rw[Array.getElem_toList]at e;rw[<- e,Option.some.inj hk]; rfl
 have:=List.countP_eq_length.mpr all;have f:=I.cnt;have d:=(Qzu).trans I.size
 lia
def FI.more(l:m=7\/m=31)(I:FI m b n)(hl:n<=m)(h):
  ∃j,layClean.free m b (turns m) (bits h % (m+1)) (bits h)=Y j/\FI m (b.setIfInBounds j (Y n)) (n+1):=by
 obtain⟨e,o,hf⟩:=I.some_free hl;have ok:=Okp.start (m:=m) h;obtain⟨d,_,i,_,_,c⟩:=qaq l B ok.i ok.pt o;have c:(lp m d (bits h % (m+1),bits h)).1=e:=c;obtain⟨j,g,p,f⟩:=qe7 I.size (turns m) (bits h % (m+1)) (bits h) d ok.i (by unfold turns; lia) (by rw[c]; exact hf);have hj:j<b.toList.length:=by rw[Qzu,I.size]; lia
 refine⟨j,g,by rw[Array.size_setIfInBounds]; exact I.size,λq k hk=>?_,?_⟩
 ·rw[Array.getElem?_setIfInBounds]at hk
  split at hk
  ·split at hk
   ·cases hk; lia
   ·cases hk
  ·have:=I.val _ _ hk; lia
 ·rw[Array.toList_setIfInBounds,List.countP_set hj];have a:(b.toList[j]'hj).isSome=false:=by
   cases e:b.toList[j]'hj with
   |none=>rfl
   |some k=>exact absurd ⟨k,by rw[<- Qzc,Qqb hj,e]⟩ f
  simp only[a,I.cnt];simp
theorem qao(f:m=7\/m=31):∀(l:Z J) (b:Array (Y2 Y0)) (n:Y0),FI m b n->n+l.length<=m+1->
  ∃a,l.foldl (λc h=>do let (owner,k) <- c; let j <- layClean.free m owner (turns m) (bits h % (m+1)) (bits h); pure (owner.setIfInBounds j (Y k),k+1)) (Y (b,n))=Y (a,n+l.length)/\FI m a (n+l.length)
 |[],b,n,I,_=>⟨b,rfl,I⟩
 |h::l,b,n,I,hl=>by
  rw[Qqm]at hl ⊢;obtain⟨j,e,i⟩:=I.more f ?d h;obtain⟨a,g,d⟩:=qao f l _ _ i ?d;rw[show n+(l.length+1)=n+1+l.length by lia];refine⟨a,?_,d⟩;rw[Qki,<- g]
  congr 1
  show(layClean.free m b (turns m) (bits h % (m+1)) (bits h)).bind _=_;rw[e]
  rfl
def lay_ok(b:m=7\/m=31)(hs)(hl:hs.size<=m+1):∃a,layClean m hs=Y a/\FI m a hs.size:=by
 obtain⟨a,e,I⟩:=qao b hs.toList _ 0 (FI.zero m) (by simpa using hl);refine⟨a,?_,by simpa using I⟩;unfold layClean;rw[<- Array.foldl_toList];exact congrArg (Option.map (·.1)) e
abbrev qqz(m:Y0)(ow:Array (Y2 Y0)):Z (Y0×Y0):=(List.range (m+1)).filterMap λj=>(ow.getD j B).map (j,·)
def qaf(I:FI m a n):q∈qqz m a↔a[q.1]?=Y (Y q.2):=by
 unfold qqz;rw[Qxq];constructor
 ·rintro⟨j,hj,e⟩;have b:j<a.size:=by rw[I.size]; exact Qz6.mp hj
  rw[Qxy,Qzd b]at e
  cases h:a[j] with
  |none=>rw[h]at e; cases e
  |some k=>
   rw[h]at e;cases e;rw[Qzd b,h]
 ·intro e;have hj:=(Qz5.mp e).1;refine⟨q.1,Qz6.mpr (by rw[<- I.size]; exact hj),?_⟩;rw[Qxy,e]
  rfl
def qog(m)(d):(qqz m d).Pairwise λa b=>a.1<b.1:=by
 unfold qqz;refine List.Pairwise.filterMap _ (λa g h b hb j c=>?_) (List.pairwise_lt_range)
 cases e:d.getD a B with
 |none=>rw[e]at hb; cases hb
 |some k=>
  cases f:d.getD g B with
  |none=>rw[f]at c; cases c
  |some i=>
   rw[e]at hb; rw[f]at c;cases hb; cases c;exact h
def qvk(I:FI m a n):(qqz m a).length=n:=by
 unfold qqz;rw[List.length_filterMap_eq_countP,<- I.cnt];have e:a.toList=(List.range (m+1)).map λj=>a.getD j none:=by
  apply Qkv;intro j;rw[Qzc,Qqv];rcases Qjv j (m+1) with h|h
  ·rw[Qx3 h];have hj:j<a.size:=by rw[I.size]; exact h
   rw[Qzd hj];show _=Y (a.getD j B);rw[Qxy,Qzd hj]; rfl
  ·rw[Qji (by rw[I.size]; exact h),Qzh (by simpa using h)]; rfl
 rw[e,List.countP_map];refine List.countP_congr λj _=>?_;simp
theorem qak{α:Type}(es:Array α):∀(l:Z Y0),(∀k∈l,k<es.size)->(l.filterMap λk=>es[k]?).length=l.length
 |[],_=>rfl
 |k::l,h=>by
  rw[Qq5,Qzd (h k Qzk)];exact congrArg (· + 1) (qak es l λa hk=>h a (Qq6 _ hk))
def qom{led plain:Yb}(l:m=7\/m=31)(es:Array (J×α))(hl:es.size<=m):
  ∃t c,laid m f mv led plain (es.map (·.1))=Y (t,c)/\SI t (c.filterMap (es[·]?))/\(c.filterMap (es[·]?)).size=es.size/\(∀e,e∈(c.filterMap (es[·]?)).toList->e∈es.toList)/\t.mask=m:=by
 obtain⟨d,e,I⟩:=lay_ok l (es.map (·.1)) (by rw[Array.size_map]; lia);rw[Array.size_map]at I;have n:∀k∈(qqz m d).map (·.2),k<es.size:=λk hk=>by
  obtain⟨q,p,rfl⟩:=Qqj.mp hk;exact I.val _ _ ((qaf I).mp p)
 have tl:(((qqz m d).map (·.2)).toArray.filterMap (es[·]?)).toList=((qqz m d).map (·.2)).filterMap λk=>es[k]?:=by simp
 have pl:∀i:Y0,((qqz m d).map (·.1)).toArray[i]?=(qqz m d)[i]?.map (·.1):=λi=>by simp
 have ns:(((qqz m d).map (·.2)).toArray.filterMap (es[·]?)).size=es.size:=by
  rw[<- Qzu,tl,qak es _ n,Qqz,qvk I]
 refine⟨{ mask:=m,place:=((qqz m d).map (·.1)).toArray,dummies:=#[],finger:=f,led:=led,moves:=mv,plain:=plain },((qqz m d).map (·.2)).toArray,?_,⟨⟨l,rfl,?_,?_,?_⟩,?_⟩,ns,λx g=>?_,rfl⟩
 ·unfold laid;rw[e]; rfl
 ·intro i k a b h ha hb;rw[pl]at ha hb;obtain⟨x,g,rfl⟩:=Qqy.mp ha;obtain⟨y,o,rfl⟩:=Qqy.mp hb;obtain⟨h1,s⟩:=Qqk.mp g;obtain⟨h2,r⟩:=Qqk.mp o;have:=Qxe.mp (qog m d) i k h1 h2 h;rw[s,r]at this;exact this
 ·intro i j hj;rw[pl]at hj;obtain⟨x,g,rfl⟩:=Qqy.mp hj;have:=(Qz5.mp ((qaf I).mp (Qqn g))).1;rw[I.size]at this;show x.1<=m
  lia
 ·rw[Qqe,Qqz,qvk I]; exact hl
 ·rw[Qqe,Qqz,qvk I,ns]
 ·rw[tl]at g;obtain⟨k,_,hk⟩:=Qxq.mp g;exact Qqn (by rw[Qzc]; exact hk)
theorem SI.fits(I:SI t es):t.fits es.size=true:=by
 unfold SetTable.fits SetTable.fill;rw[I.tb.dum];have:=I.tb.few;simp[I.sz];rw[<- I.sz]; exact this
def Tb.stays(T:Tb t):t.gaveWay=false:=by
 unfold SetTable.gaveWay;rcases T.mask with h|h<;>rw[h]<;>rfl
section
variable {prog:Program}{w:Qj}{A:Qk}{E:Y7->Qz->Prop}{s:Qz}[DecidableEq K]{knd:KeyKind prog w K}
def qka(n)(h:carriedByValue v=L):Zg n v=pure false:=by
 cases v with
 |ref a=>simp[carriedByValue]at h
 |_=>unfold Zg; rfl
def qke(hk:IsTupleKey knd s.heap ks b)(h:Q Y6 s):wpAny ?A A (Zg 8 (.ref b)) Q E s:=by
 have f:=hk.typeIs;obtain⟨o,c,n,e,hc,hd,hi⟩:=hk;unfold Zg;refine Qq (Ze f ?_);refine Qq ?_;refine Qx ?_;simp only[ if_false];refine Qq (Qm e hd ?_);refine Qq ?_;rw[<- Array.forIn_toList];refine wpAny_forIn_list _ (λrest r s'=>r.1=B/\s'=s/\∀v∈rest,carriedByValue v=L) _ ?_ ?_ _ _ ⟨rfl,rfl,hi.byValue⟩
 ·rintro v rest r s' ⟨hr,rfl,a⟩;rw[qka _ (a v Qzk)];refine Qq (Qx ?_);simp only[Qzo];exact Qx ⟨rfl,rfl,λu d=>a u (Qq6 _ d)⟩
 ·rintro⟨i,g⟩ s' ⟨hr,rfl,_⟩;simp only at hr;subst hr;exact Qx h
def qmx(d:IsTupleKey knd s.heap ks x)(hl:∀y∈l,∃b k,y=.ref b/\IsTupleKey knd s.heap k b)(h:Q Y6 s):
  wpAny ?A A (searchCouldBeSeen (.ref x) l) Q E s:=by
 unfold searchCouldBeSeen;refine Qq ?_;refine wpAny_forIn_list _ (λrest r s'=>r.1=B/\s'=s/\∀y∈rest,∃b k,y=.ref b/\IsTupleKey knd s.heap k b) _ ?_ ?_ _ _ ⟨rfl,rfl,hl⟩
 ·rintro y rest r s' ⟨hr,rfl,a⟩;obtain⟨b,k,rfl,hb⟩:=a y Qzk;have f:(carriedByValue (Value.ref x)&&carriedByValue (Value.ref b))=false:=rfl;simp only[f,Bool.or_false]
  by_cases e:(x==b)=L
  ·rw[Z9 e];exact Qx ⟨rfl,rfl,λu c=>a u (Qq6 _ c)⟩
  ·rw[Z8 e];refine Qq (wpAny_eqIsQuiet_tuple d ?_);simp only[Qku,if_false];refine Qq (wpAny_eqIsQuiet_tuple hb ?_);simp only[Qku,if_false];refine Qq (qke d ?_);simp only[Qzo];refine Qq (qke hb ?_);simp only[Qzo];exact Qx ⟨rfl,rfl,λu c=>a u (Qq6 _ c)⟩
 ·rintro⟨i,g⟩ s' ⟨hr,rfl,_⟩;simp only at hr;subst hr;exact Qx h
end
section
def ints_of(h:ItemsAre ?E ks vs):∀v∈vs,∃i t,v=.int i t:=by
 induction h with
 |nil=>intro v hv; simp at hv
 |@cons k b ks vs h1 _ a=>
  intro v hv;rcases Qqc.mp hv with rfl|hv
  ·obtain⟨t,e⟩:=Value.isInt_shape (h1);exact⟨k,t,e⟩
  ·exact a v hv
def qbc(hk:IsTupleKey ?E s.heap ks b)(h:Q L s):wpAny ?A A (hashByValue 8 (.ref b)) Q E s:=by
 have g:=hk.typeIs;obtain⟨o,c,n,f,hc,hd,hi⟩:=hk;unfold hashByValue;refine Qq (Zc g F.slot_tuple_hash.lookup ?_);refine Qq (Qm f hd ?_);refine Qq ?_;show wpAny _ _ (forIn c _ _) _ _ s;rw[<- Array.forIn_toList];refine wpAny_forIn_list _ (λrest r s'=>r.1=B/\s'=s/\∀v∈rest,∃i t,v=.int i t) _ ?_ ?_ _ _ ⟨rfl,rfl,ints_of hi⟩
 ·rintro v rest r s' ⟨hr,rfl,a⟩;obtain⟨i,t,rfl⟩:=a v Qzk;have e:hashByValue 7 (.int i t)=pure true:=by simp[hashByValue]
  rw[e];refine Qq (Qx ?_);simp only[ if_false];exact Qx ⟨rfl,rfl,λu d=>a u (Qq6 _ d)⟩
 ·rintro⟨k,j⟩ s' ⟨hr,rfl,_⟩;simp only at hr;subst hr;exact Qx h
def Els(prog:Program)(w:Qj)(h:Heap)(es:Array (J×Y7))(S:Z (Z J)):Prop:=∀(i:Y0) (e:J×Y7),es[i]?=Y e->∃b k,e=(tupleKeyHash ?E k,.ref b)/\IsTupleKey ?E h k b/\k∈S
theorem qvt(T:A.units<cLine)(D:s.heap.get? a=Y o)(hd:o.data=.set es ep t)(I:SI t es)(l:Els prog w s.heap es S)(C:IsTupleKey ?E s.heap k x)(hk:k ∉ S)(P)(u:Okp t.mask P)(hf:∀n,¬ Occ t (stp t.mask n P).j->Q (.free (stp t.mask n P).j Y6) s)(N)(K:¬ Occ t (stp t.mask N P).j):
  ∀(c f:Y0) (d:Y2 Probe),d.getD (t.probeStart (tupleKeyHash ?E k))=stp t.mask f P->f<=N->N - f<c->
   wpAny ?A A (Z5 a (.ref x) (tupleKeyHash ?E k) L c d) Q E s
 |0,f,_,_,_,F=>by lia
 |c+1,f,d,hst,hle,F=>by
  unfold Z5;refine Qq (Zz D hd I.fits ?_);dsimp only;rw[I.tb.stays];simp only[Qzo];rw[hst];generalize hm:SetTable.probe t _ _ _=met;obtain⟨n,p1,p2⟩:=qdl I.tb (u.stp f) hm;rw[<- qxi]at p2;rcases p2 with⟨r,rfl⟩|⟨i,r,rfl⟩
  ·dsimp only;exact Qx (hf _ r)
  ·dsimp only;have hi:i<es.size:=by rw[<- I.sz]; exact(Qz5.mp r).1
   have v:=Qzd hi;obtain⟨b,V,e',hb,G⟩:=l i _ v;rw[e']at v;have X:f+n<N:=by
    rcases Nat.lt_trichotomy (f+n) N with h|h|h
    ·exact h
    ·exact absurd ⟨i,by rw[<- h]; exact r⟩ K
    ·have:=p1 (N - f) ?d;rw[<- qxi,show f+(N - f)=N by lia]at this;exact absurd this K
   have ek:decide (V=k)=false:=Z7 λz=>hk (by rw[<- z]; exact G)
   have rest:wpAny ?A A (do
     let g <- Zo [Value.ref b] (eqBool (.ref b) (.ref x))
     let (R,_,t') <- setState a
     if L&&g then return .there B
     let Y same:=t'.sameMemory t.moves t.mask|unsupported "set.changed-during-lookup:is-the-new-block-at-the-old-address"
     let j <- match (if same then t'.slot (stp t.mask (f+n) P).j else .empty) with
      |.live m=>match R[m]? with
       |some (_,U)=>do pure (if <- isSame U (.ref b) then Y m else B)
       |none=>pure B
      |_=>pure B
     match j with
     |none=>rule "set.search.anew"; Z5 a (.ref x) (tupleKeyHash ?E k) L c B
     |some m=>if g then return .there (Y m) else Z5 a (.ref x) (tupleKeyHash ?E k) L c (Y (stp t.mask (n+1) (stp t.mask f P)))) Q E s:=by
    refine Qq (Qt (wpAny_eqBool_tuple T hb C ?_));refine Qq (Zz D hd I.fits ?_);simp only[ek,if_false];have em:t.sameMemory t.moves t.mask=Y true:=by unfold SetTable.sameMemory; simp
    rw[em];simp only[if_true];rw[qjm I.tb r];dsimp only;rw[v];refine Qq (wpAny_isSame_ref_self ?_);simp only[if_true];refine Qq (Qx ?_);refine qvt T D hd I l C hk P u hf N K c (f+n+1) _ ?_ ?d ?d;rw[<- qxi]; rfl
   have p:∀y∈(es.filter (·.1==tupleKeyHash ?E k)).toList.map (·.2),∃b k,y=.ref b/\IsTupleKey ?E s.heap k b:=λy W=>by
    obtain⟨e,h1,rfl⟩:=Qqj.mp W;rw[Array.toList_filter]at h1;obtain⟨m,H,e1⟩:=Qx4 (Qqu.mp h1).1;obtain⟨b',k1,e2,q,_⟩:=l m e (by rw[<- Qzc,Qqb H,e1]);exact⟨b',k1,by rw[e2],q⟩
   cases hl:t.led with
   |true=>
    simp only[Qku,if_false];rw[v];exact rest
   |false=>
    simp only[Bool.not_false];refine Qq (qmx C p ?_);simp only[Qzo];rw[v];exact rest
end
section
def TS(prog:Program)(w:Qj)(h:Heap)(a:Y5)(S:Z (Z J)):Prop:=∃o es ep t,h.get? a=Y o/\o.ExactSet/\o.data=.set es ep t/\SI t es/\Els prog w h es S/\es.size=S.length/\(t.mask=7->es.size<=4)
def qwv(g:h.get? a=Y o)(hd:o.data=.set es i t)(hs:Heap.SameBut a h h')(x:IsTupleKey ?E h k b):IsTupleKey ?E h' k b:=by
 obtain⟨o',c,n,e,hc,d,hi⟩:=x;have f:b≠a:=by
  rintro rfl;obtain rfl:o'=o:=Option.some.inj (e.symm.trans g);rw[hd]at d; exact nomatch d
 exact⟨o',c,n,(hs.2 b f).trans e,hc,d,hi⟩
def qeb:SetTable.sizeAbove (SetTable.grown 5)=32:=by decide
def qhy(f:s.heap.get? a=Y o)(hd:o.data=.set es g t)(I:SI t es)(k:es.size=5)(h:∀h' o' c d,Heap.SameBut a s.heap h'->h'.get? a=Y o'->(o.ExactSet->o'.ExactSet)->o'.data=.set c (g+1) d->SI d c->c.size=es.size->(∀e,e∈c.toList->e∈es.toList)->d.mask=31->Q () { s with heap:=h' }):
  wpAny ?A A (setRelay a (SetTable.grown 5)) Q E s:=by
 unfold setRelay;refine Qq (Zz f hd I.fits ?_);dsimp only;rw[Z8 (by rw[qeb]; decide)];obtain⟨d,b,i,n,z,mem,mk⟩:=qom (mv:=t.movedTo (SetTable.sizeAbove (SetTable.grown 5) - 1)) (.inr rfl) es ?d;have m:t.relaid (es.map (·.1)) (SetTable.grown 5)=Y (d,b):=by
  unfold SetTable.relaid;rw[qeb]at i ⊢;exact i
 rw[m];refine Qq ?_
 change wpAny _ _ (do
  let Y (t,b):=(Y (d,b):Y2 (Qc×Array Y0))|unsupported "internal:set-table-without-room"
  let c:=b.filterMap (es[·]?)
  if c.size != es.size then unsupported "internal:set-table-lost-an-element"
  pure (c,t)) _ _ _
 dsimp only;have l:((b.filterMap (es[·]?)).size != es.size)=false:=by rw[z]; simp
 rw[l];simp only[Qzo];refine Qx ?_;refine wpAny_storeSet_of f hd ?_ (by rw[z,k,Q2]; decide);have j:(s.heap.update a (Obj.putSet (b.filterMap (es[·]?)) d)).get? a=Y { o with data:=.set (b.filterMap (es[·]?)) (g+1) d }:=by
  have:=Qjr (Obj.putSet (b.filterMap (es[·]?)) d) f (by rw[putSet_of _ _ hd]; rfl);rw[putSet_of _ _ hd]at this; exact this
 exact h _ _ _ _ (Heap.SameBut.update _ a _) j (λq=>q) rfl n z mem mk
def qot(h):(qkh m h).j+(qkh m h).more<=m:=by
 have hi:bits h % (m+1)<=m:=Qxi (Qj3 _ (Qjc _));obtain⟨b,a⟩:=qjo hi;show bits h % (m+1)+(runEnd m (bits h % (m+1)) - bits h % (m+1))<=m
 lia
def j_next(h:p.j+p.more<=m):(adv m p).j+(adv m p).more<=m:=by
 unfold adv
 split
 ·show p.j+1+(p.more - 1)<=m; lia
 ·have hi:(?qz).1<=m:=Qxi (Qj3 _ (Qjc _));obtain⟨b,a⟩:=qjo hi;show (?qz).1+(runEnd m (?qz).1 - (leap m p.i p.perturb).1)<=m
  lia
theorem j_stp:∀(n:Y0){p:Probe},p.j+p.more<=m->(stp m n p).j+(stp m n p).more<=m
 |0,_,h=>h
 |n+1,_,h=>j_stp n (j_next h)
def add_ok(hu:A.units<cLine)(hT:TS prog w s.heap a S)(hx:IsTupleKey ?E s.heap k x)(hl:S.length<=15)(hk:k ∉ S)(h:∀b h',Heap.SameBut a s.heap h'->TS prog w h' a (S++[k])->Q b { s with heap:=h' }):
  wpAny ?A A (setAddHashed a (.ref x) (tupleKeyHash ?E k)) Q E s:=by
 obtain⟨o,es,ep,t,l,P,hd,I,R,D,h4⟩:=hT;unfold setAddHashed setAddHashedIn;refine Qt (Qq (Zz l hd I.fits ?_));dsimp only;have eb:byScan (.ref x) es=false:=rfl;rw[eb];simp only[Qzo];obtain⟨fr,a2,a3⟩:=some_free I.tb;obtain⟨N,hN,eN⟩:=hits I.tb.mask (Okp.start (tupleKeyHash ?E k)) a2;refine Qq ?_;unfold setSearch;refine qvt hu l hd I R hx hk (qkh t.mask (tupleKeyHash ?E k)) (Okp.start _) (λn p=>?_) N (by rw[eN]; exact a3) 100000 0 B rfl (Qzg _) ?_
 ·have a1:es.size+1<=t.mask:=by
   rcases I.tb.mask with q|q
   ·have:=h4 q; lia
   ·lia
  have G:(stp t.mask n (qkh t.mask (tupleKeyHash ?E k))).j<=t.mask:=Qzn (Qjn _ _) (j_stp n (qot _));generalize (stp t.mask n (qkh t.mask (tupleKeyHash ?E k))).j=j at *;have V:SI (t.put j).1 (insertAt es (t.put j).2 (tupleKeyHash ?E k,Value.ref x)):=put_ok I G p a1;refine Qq (Zz l hd I.fits ?_);have F:(t.put j).2<=es.size:=by rw[qdi I.tb,<- I.sz]; exact(qxu I.tb.up).2.2
  have m:(t.put j).1.mask=t.mask:=by rw[qdi I.tb]
  have c:=qja es _ (tupleKeyHash ?E k,Value.ref x) F;have y:∀e,e∈(insertAt es (t.put j).2 (tupleKeyHash ?E k,Value.ref x)).toList->e∈es.toList\/e=(tupleKeyHash ?E k,Value.ref x):=λe=>(qo7 F).mp;generalize insertAt es (t.put j).2 (tupleKeyHash ?E k,Value.ref x)=d at *;have U:∀(h':Heap) (f:Array (J×Y7)),Heap.SameBut a s.heap h'->(∀e,e∈f.toList->e∈d.toList)->Els prog w h' f (S++[k]):=λh' f u hm i e he=>by
   rcases y e (hm e (Qqn (by rw[Qzc]; exact he))) with q|q
   ·obtain⟨i',hi,e1⟩:=Qx4 q;obtain⟨b,k',e',hb,hS⟩:=R i' e (by rw[<- Qzc,Qqb hi,e1]);exact⟨b,k',e',qwv l hd u hb,Qzq _ hS⟩
   ·exact⟨x,k,q,qwv l hd u hx,Qql _ Qzk⟩
  have g:wpAny ?A A (do
     storeSet a d (t.put j).1
     if (!Y6&&(t.put j).1.tooFull)=L then do
      setRelay a (SetTable.grown (es.size+1))
      pure L
     else pure L) Q E s:=by
   generalize (t.put j).1=r at *;refine Qq (wpAny_storeSet_of l hd ?_ (by rw[c,Q2]; lia));have hg:(s.heap.update a (Obj.putSet d r)).get? a=Y { o with data:=.set d (ep+1) r }:=by
    have:=Qjr (Obj.putSet d r) l (by rw[putSet_of _ _ hd]; rfl);rw[putSet_of _ _ hd]at this; exact this
   have u:=Heap.SameBut.update s.heap a (Obj.putSet d r);have T:r.tooFull=decide ((es.size+1)*5 >= t.mask*3):=by
    unfold SetTable.tooFull SetTable.fill;rw[V.tb.dum,V.sz,c,m]; rfl
   rw[T]
   by_cases H:(es.size+1)*5 >= t.mask*3
   ·have m7:t.mask=7:=by
     rcases I.tb.mask with q|q
     ·exact q
     ·lia
    have e5:es.size+1=5:=by have:=h4 m7; lia
    simp only[Z6 H,if_true];rw[e5];refine Qq (qhy hg rfl V (by rw[c,e5]) λh' o' f t' W a0 K a4 I' z' C X=>Qx ?_);have v:=u.trans W;exact h L h' v ⟨o',f,_,t',a0,K P,a4,I',U h' f v C,by rw[z',c,D]; simp,λq=>by rw[X]at q; cases q⟩
   ·simp only[Z7 H,if_false];exact Qx (h L _ u ⟨_,_,_,r,hg,P,rfl,V,U _ _ u λ_ z=>z,by rw[c,D]; simp,λq=>by rw[c]; lia⟩)
  cases a5:(t.put j).1.plain with
  |true=>
   simp only[if_true];refine Qq (qbc hx ?_);simp only[if_true];exact g
  |false=>
   simp only[ if_false];refine Qq (Qx ?_);simp only[if_true];exact g
 ·have:t.mask<=31:=by rcases I.tb.mask with q|q<;>lia
  unfold SetTable.turns at hN
  lia
end
end ST
end
section
namespace ST
open PySem SetTable PyProof.Rows
section
variable {prog:Program}{w:Qj}{A:Qk}{R:Result->Qz->Prop}{I:Y5}{fp wr:Z Y5}{G:Array GenState->Array GenState->Prop}{n:Y0}{P:Y0->Y7->Prop}{St:Y0->Qz->Prop}
def TS.keeps(x:TS prog w h a S)(hk:∀b o,(b=a\/∃k,IsTupleKey ?E h k b)->h.get? b=Y o->h'.get? b=Y o):TS prog w h' a S:=by
 obtain⟨o,es,s,t,l,g,hd,I,j,d,p⟩:=x;refine⟨o,es,s,t,hk a o ?qu l,g,hd,I,λi e m=>?_,d,p⟩;obtain⟨b,k,u,q,hS⟩:=j i e m;obtain⟨o',c,n,f,r⟩:=id q;exact⟨b,k,u,⟨o',c,n,hk b o' (.inr ⟨k,q⟩) f,r⟩,hS⟩
def qyy(hu:A.in1.units<cLine)(W:WalksS prog w A.in1 I fp wr G n P St)(S)(U:S ∉ fp)(r:∀b∈wr,∀s i,St i s->¬ ∃k,IsTupleKey ?E s.heap k b)(ks)(nd:ks.Nodup)(hn:ks.length=n)(b1:n<=16)(u:∀i v,P i v->∃b,v=.ref b)(Kp:Qz->Prop)(a5:∀s i b,Kp s->P i (.ref b)->∃k,ks[i]?=Y k/\IsTupleKey ?E s.heap k b)(N:∀s s',Kp s->(∀b o,(∃k,IsTupleKey ?E s.heap k b)->s.heap.get? b=Y o->s'.heap.get? b=Y o)->Kp s'):
  ∀(k i:Y0) (s:Qz),n - i=k->i<=n->St i s->Kp s->TS prog w s.heap S (ks.take i)->
   (∀s',Moved (S::wr) G s s'->TS prog w s'.heap S ks->R (.ok (.ret .none)) s')->
   Zk ?A A (.builtin "set.update.loop" ⟨[.ref S,.ref I],[]⟩) R s:=by
 have b0:=λh=>U (W.sub _ h);have d:∀b∈wr,b∈S::wr:=λb hb=>Qq6 _ hb
 have p:∀{s s':Qz}{i:Y0}{Lq:Z (Z J)},St i s->Moved wr G s s'->TS prog w s.heap S Lq->TS prog w s'.heap S Lq:=λ{s s' i Lq} st f x=>x.keeps λb o hb D=>f.heap b o (λhw=>by
  rcases hb with rfl|hb
  ·exact b0 hw
  ·exact r b hw s i st hb) D
 intro k
 induction k with
 |zero=>
  intro i s hk hi hst a1 hS hR;have a6:i=n:=by lia
  subst a6;refine Qu F.entry_set_update_loop ?_;rw[Around.under_plainId F.plain_set_update_loop _];refine Qq (W.done s _ _ hst λs' f=>Qx (hR s' (f.mono d) (p hst f ?_)));rw[<- hn,Qzb]at hS;exact hS
 |succ k ih=>
  intro i s hk hi hst a1 hS hR;have K:i<n:=by lia
  refine Qu F.entry_set_update_loop ?_;rw[Around.under_plainId F.plain_set_update_loop _];refine Qq (W.item i s _ _ K hst λv s' hP C f=>?_);obtain⟨b,rfl⟩:=u i v hP;have g:=N s s' a1 λj o hb D=>f.heap j o (λhw=>r j hw s i hst hb) D;obtain⟨a,Q,hb⟩:=a5 s' i b g hP;have a0:=p hst f hS;refine Qq (Qt ?_);unfold setAdd;refine Qt ?_;refine Qq (wpAny_pyHash_tuple hu hb ?_);obtain⟨a7,a8⟩:=Qqk.mp Q;have y:ks.take (i+1)=ks.take i++[a]:=by rw[Qq3 a7,a8]
  have E:a ∉ ks.take i:=λz=>by
   have:=(Qxu (i+1) ks).nodup nd;rw[y,Qxk]at this;exact this.2.2 a z a Qzk rfl
  refine add_ok hu a0 hb (by rw[Qzy]; lia) E λ_ h' l V=>?_;rw[<- y]at V;have a3:∀{j:Y5},(∃k,IsTupleKey ?E s'.heap k j)->j≠S:=λ{j} ⟨k',q⟩ z=>by
   obtain⟨o,es,ep,t,D,_,hd,_⟩:=a0;obtain⟨o',a4,m,c,_,T,_⟩:=q;rw[z]at c;obtain rfl:o'=o:=Option.some.inj (c.symm.trans D);rw[hd]at T; exact nomatch T
  refine Qx ⟨Z3 F.plain_set_update_loop _,ih (i+1) _ ?d K (W.frame _ s' _ _ C (Qjn _ _) λb hb o e=>?_) (N s' _ g λj o a9 c=>(l.2 j (a3 a9)).trans c) V λa2 H X=>?_⟩
  ·rw[l.2 b (λh:b=S=>U (by rw[<- h]; exact hb))]; exact e
  ·refine hR a2 (Moved.trans W.gtrans ((f.mono d).then_heap (Qjn _ _) λb o hb e=>?_) H) X;rw[l.2 b (λh:b=S=>hb (by rw[h]; exact Qzk))]; exact e
end
end ST
end
section
namespace ST
open PySem SetTable
def qgl:isSubtype (.type "tuple") (.type "set")=pure false:=by rw[Zf]; kernel_rfl
def qw2:isSubtype (.type "tuple") (.type "frozenset")=pure false:=by rw[Zf]; kernel_rfl
noncomputable abbrev bare(led:Yb):Obj:={ cls:=.type "set",dict:=B,data:=.set #[] 0 (.fresh 0 0 led) }
def Cells(prog:Program)(w:Qj)(h:Heap)(items:Array Y7)(ks:Z (Z J)):Prop:=∀(i:Y0) (v:Y7),items[i]?=Y v->∃b k,v=.ref b/\ks[i]?=Y k/\IsTupleKey ?E h k b
section
def qh9{Zq:Fin->Qz->Prop}(calm:Bq.handled=B)(room:Bq.units+4<cLine)(tup:c.IsTuple l items)(d:Cells prog w c items ks)(nd:ks.Nodup)(U:ks.length=items.size)(T:items.size<=16)(hs:s.heap=c.push (bare a))(done:∀h1 k1,TS prog w h1 c.objs.size ks->(∀b o,b<c.objs.size->c.get? b=Y o->h1.get? b=Y o)->Zq (.done (.ret .none)) { s with heap:=h1,toks:=k1 }):
  wpAny ?A Bq (Qs.«set.__init__» ⟨[.ref c.objs.size,.ref l],[]⟩) Zq E s:=by
 obtain⟨G,gs,dr,tk,os⟩:=s;subst hs;obtain⟨⟨tc,td,D,K⟩,F,P,nl,N⟩:=id tup;subst P N;have at0:(c.push (bare a)).get? c.objs.size=Y (bare a):=Qqh _ rfl;have x:=Qqx (bare a) F;have a1:=qgl;have a2:=qw2;have a3:(Value.type "tuple" == Value.type "dict")=false:=by decide
 have W:Shared.TypeIs ⟨c.push (bare a),gs,dr,tk,os⟩ (.ref c.objs.size) "set":=⟨_,at0,rfl⟩
 have g:(c.push (bare a)).IsTuple l items:=⟨_,x,rfl,nl,rfl⟩
 unfold Qs.«set.__init__» noKeywords Builtin.Frozenset.updateFrom;generalize ei:pyIter=A
 wp_walk
 subst ei;refine wpAny_pyIter_tuple g (Qq (wpAny_runValue ?_));have n:=Qqf F;have sz:(c.push (bare a)).objs.size=c.objs.size+1:=Qxc ..;have S:l≠(c.push (bare a)).objs.size:=by rw[sz]; exact Qq1 (Qjx n)
 have R:c.objs.size ∉ [(c.push (bare a)).objs.size,l]:=by
  rw[sz];simp only[Qqc,Qzm,or_false,not_or];exact⟨Qq1 (Qzp _),Qxr n⟩
 refine qyy (by show Bq.units+1<cLine; lia) ((Walks.tuple (by simp[calm]) _ l S items).toS) c.objs.size R ?f ks nd U T (λi v hv=>?isRef)
  (λz=>∀(i:Y0) (b:Y5),items[i]?=Y (.ref b)->∃k,ks[i]?=Y k/\IsTupleKey ?E z.heap k b) (λz i b q G=>q i b G) ?stay items.size 0 _ rfl (Qzg _) ⟨⟨_,Qqh _ rfl,rfl,rfl⟩,?h⟩ ?keys ?empty ?fin
 case isRef=>obtain⟨b,_,e,_⟩:=d i v hv; exact⟨b,e⟩
 case h=>obtain⟨ob,e1,e2⟩:=g; exact⟨ob,Qqx _ e1,e2⟩
 case f=>
  rintro b hb z i ⟨⟨ob,I,_,H⟩,_⟩ ⟨_,j,_,_,v1,_,C,_⟩;rw[Qqa.mp hb,I]at v1;cases v1;rw[H]at C;cases C
 case stay=>
  intro z1 z2 q keep i b hb;obtain⟨k,e,y⟩:=q i b hb;obtain⟨j,it,m,v1,r⟩:=id y;exact⟨k,e,j,it,m,keep b j ⟨k,y⟩ v1,r⟩
 case keys=>
  intro i b hb;obtain⟨b',k,e,ek,j,it,m,v1,r⟩:=d i _ hb;cases e;exact⟨k,ek,j,it,m,Qqx _ (Qqx _ v1),r⟩
 case empty=>exact⟨_,#[],0,_,Qqx _ at0,⟨rfl,rfl,rfl⟩,rfl,qiv a,λi e X=>by simp at X,rfl,λ_=>by simp⟩
 case fin=>
  intro z V q;obtain⟨h1,a0,a4,p,Q⟩:=z;obtain⟨m1,rfl,rfl,rfl,_⟩:=V;refine Qx (Qx (done h1 p q λb o hb e=>m1 b o ?_ (Qqx _ (Qqx _ e))));have u:=Qq1 hb;have t:b≠(c.push (bare a)).objs.size:=by rw[sz]; exact Qq1 (Qjx hb)
  simp only[Qqc,Qzm,or_false,not_or];exact⟨u,t⟩
end
section
theorem TS.size(x:TS prog w h a S)(f:S.length<=16):∃o es c t,h.get? a=Y o/\o.ExactSet/\o.data=.set es c t/\t.fits es.size=L/\(es.size:J)<2 ^ 63/\es.size=S.length:=by
 obtain⟨o,es,c,t,e,b,hd,I,_,d,_⟩:=x;exact⟨o,es,c,t,e,b,hd,I.fits,?q,d⟩
def set_call(calm:A.handled=B)(room:A.units+12<cLine)(tup:s.heap.IsTuple l items)(e:Cells prog w s.heap items ks)(nd:ks.Nodup)(i:ks.length=items.size)(h:items.size<=16)(k:∀h1 k1,TS prog w h1 s.heap.objs.size ks->(∀b o,b<s.heap.objs.size->s.heap.get? b=Y o->h1.get? b=Y o)->Q ?Z { s with heap:=h1,toks:=k1 }):
  wpAny ?A A (call (.type "set") [.ref l]) Q E s:=by
 have d:=F.called_set;obtain⟨_,_,x⟩:=d.mro;have v:=d.made;have u:=d.sub;have t:=d.notType;have p:=d.canCreate;have n:=F.typeCall_set_1 (.ref l);refine wpAny_call (codeAny_of_tree (Qx ⟨Code.quiet_builtin _ ?j,Qu F.entry_type_call ?_⟩));rw[Around.under_plain (weight_type_call_type "set" [.ref l] []) rfl]
 repeat (any_goals (first|assumption|wp_step))
 refine Q5 (code_set_new_1 (.ref l) (E:=E) (Q₁:=λob z=>∃c,ob=.ref s.heap.objs.size/\z={ s with heap:=s.heap.push (bare c) }) λc=>⟨c,rfl,rfl⟩) λr z hr=>?_
 match r,hr with
 |.error _,hr=>exact hr
 |.ok .next,hr=>exact hr.elim
 |.ok .brk,hr=>exact hr.elim
 |.ok .cont,hr=>exact hr.elim
 |.ok (.ret ob),hr=>
  obtain⟨c,rfl,rfl⟩:=hr;have f:Shared.TypeIs { s with heap:=s.heap.push (bare c) } ?Z "set":=⟨_,Qqh _ rfl,rfl⟩
  have m:=d.init.lookup;have j:=d.init.bind ?Z
  repeat (any_goals (first|assumption|wp_step))
  refine Q5 (codeAny_call_builtin (R:=wants (λr z=>r=.none/\∃h1 k1,z={ s with heap:=h1,toks:=k1 }/\TS prog w h1 s.heap.objs.size ks/\∀b o,b<s.heap.objs.size->s.heap.get? b=Y o->h1.get? b=Y o) E) d.init.plain F.entry_set_init (check_set_init_1 f ?_)) λg z2 a=>?_
  ·exact qh9 (by simp[calm]) (by show A.units+1+1+4<cLine; omega) tup e nd i h rfl λh1 k1 q keep=>⟨rfl,h1,k1,rfl,q,keep⟩
  ·match g,a with
   |.error _,a=>exact a
   |.ok .next,a=>exact a.elim
   |.ok .brk,a=>exact a.elim
   |.ok .cont,a=>exact a.elim
   |.ok (.ret _),a=>
    obtain⟨rfl,h1,k1,rfl,q,keep⟩:=a
    repeat (any_goals (first|assumption|wp_step))
    exact k h1 k1 q keep
end
end ST
end
section
namespace MS
open PySem PySem.Spec PyProof.Rows L2
abbrev setO(a:Y5)(n:Y0):HO:=.ext λh=>∃o es ep t,h.get? a=Y o/\o.ExactSet/\o.data=.set es ep t/\t.fits es.size=L/\(es.size:J)<2 ^ 63/\es.size=n
def qp1(K:Qqq)(H:Hp):Z V->Z (Z J)->Prop:=Paired λy k=>∃q,y=.ref q/\SqT K H q (k.map V.int)
theorem items_int:∀{k}{a},Vals (k.map V.int) a->ItemsAre ?E k a
 |[],_,h=>by cases h; exact .nil
 |i::k,_,h=>by
  cases h with
  |cons r t=>
   obtain⟨b,rfl⟩:=r;exact .cons (intKind_is _ _ _ _) (items_int t)
section
def qmh(I:Inv X a c H s)(h:SqT X.K H q (k.map V.int)):IsTupleKey (intKind X.prog X.w) s.heap k q:=by
 obtain⟨b,r,⟨o,d,hc,n,hd⟩,_⟩:=I.tuple h;exact⟨o,b.toArray,n,d,hc,hd,items_int r⟩
theorem qba(I:Inv X a d H s):∀{ys}{ks}{c},qp1 X.K H ys ks->Vals ys c->
  ∀(i:Y0) (v:Y7),c[i]?=Y v->∃b k,v=.ref b/\ks[i]?=Y k/\IsTupleKey (intKind X.prog X.w) s.heap k b
 |_,_,_,.nil,r,i,v,e=>by cases r; simp at e
 |_,_,_,.cons (b:=k) h t,r,i,v,e=>by
  cases r with
  |cons g f=>
   obtain⟨q,rfl,j⟩:=h
   cases i with
   |zero=>
    simp at e;subst e;cases g;exact⟨q,k,rfl,rfl,qmh I j⟩
   |succ i=>
    simp only[List.getElem?_cons_succ]at e ⊢;exact qba I t f i v e
def qfp(calm:X.A.handled=B)(room:X.A.units+64<cLine):qqv X (.type "set") (λxs H Q=>∃p ys ks,xs=[.ref p]/\SqT X.K H p ys/\qp1 X.K H ys ks/\ys.length<=16/\ks.Nodup/\∀l,H l=B->Q (.ref l) (upd H l (setO l ks.length))):=by
 intro pins s σ H xs G Q I r h;obtain⟨p,ys,ks,rfl,x,hc,hl,nd,q⟩:=h;obtain⟨u,rfl,m⟩:=vals1 r;cases m;obtain⟨w,r',⟨o,y,a,n,hd⟩,K⟩:=I.tuple x;have l1:=r'.length;have l2:=Paired.length hc;refine ST.set_call calm ?d ⟨o,y,a,n,hd⟩ (λi v e=>qba I hc r' i v (by simpa using e)) nd ?r ?r λh1 k1 T keep=>?_;obtain⟨g,es,z,t,j,F,E,D,C,A⟩:=T.size ?d;refine⟨.ref s.heap.objs.size,_,I.laid (λb o e=>keep b o (Qqf e) e) (Qqw _) ?_,rfl,q _ (I.hok.fresh (Qqw _))⟩;exact⟨⟨g,es,z,t,j,F,E,D,C,A⟩,⟨g,j⟩,λh2 N ⟨f,c,d,k,b1,b2⟩ kp=>⟨f,c,d,k,kp f b1,b2⟩⟩
def qf1:qqv X (.builtin "len") (λxs H Q=>∃p n,xs=[.ref p]/\H p=Y (setO p n)/\Q (.int n) H):=by
 intro pins s σ H xs l Q I r h;obtain⟨p,n,rfl,c,q⟩:=h;obtain⟨u,rfl,a⟩:=vals1 r;cases a;obtain⟨⟨o,es,m,t,k,j,i,g,f,d⟩,_⟩:=(I.hok p _ c)
 refine call_len_set k j i g f ?_;exact⟨.int n,H,I.kept (λb o e=>e),⟨_,by rw[d]⟩,q⟩
end
end MS
end
section
namespace MS
open PySem PySem.Spec PyProof.Rows L2
open M (D Y1)
section
theorem qap{K:Qqq}:∀{ds}{xs}{k},IsDs K m H ds xs->(ds.mapM λd=>match d with|.int i=>Y i|_=>B)=Y k->xs=k.map V.int
 |[],xs,k,h,e=>by
  simp at e;subst e;exact Qzs.mp h.length.symm
 |d::ds,xs,k,h,e=>by
  rw[Qkt]at e
  cases d with
  |int i=>
   obtain⟨x,r,rfl,h1,h2⟩:=h.cons
   cases a:(ds.mapM λd=>match d with|M.D.int i=>Y i|_=>B) with
   |none=>rw[a]at e; cases e
   |some b=>
    rw[a]at e;cases e;rw[h1.int,qap h2 a]; rfl
  |_=>exact nn e
theorem qeg{K:Qqq}:∀{ds}{xs}{ks},IsDs K m H ds xs->ds.mapM M.keyD=Y ks->qp1 K H xs ks
 |[],xs,ks,h,e=>by
  simp at e;subst e;rw[Qzs.mp h.length.symm];exact .nil
 |d::ds,xs,ks,h,e=>by
  rw[Qkt]at e
  cases d with
  |tup cs=>
   obtain⟨x,r,rfl,h1,h2⟩:=h.cons
   cases a:M.keyD (.tup cs) with
   |none=>rw[a]at e; cases e
   |some k=>
    cases b:ds.mapM M.keyD with
    |none=>rw[a,b]at e; cases e
    |some f=>
     rw[a,b]at e;cases e;obtain⟨c,ys,rfl,i,g⟩:=h1.tup;refine .cons ⟨c,rfl,?_⟩ (qeg h2 b);rw[<- qap g a]; exact i
  |_=>exact nn e
end
end MS
end
section
namespace MS
open PySem PySem.Spec PyProof.Rows L2
open M (D Ya Y1 Sl E S T Src Fn Out R)
def qbu{E:TT}(hc:X.calm=L)(S:CompScope X N src c)(hi:PI X tg d A)(hg:∀C fp s H,PG (qzi X N c C fp s H) tg g)(V:∀C fp s H,qce (qzi X N c C fp s H) ifs E)(he:∀C fp s H,PE (qzi X N c C fp s H) elt F)(hs:∀x,foldedSetIterable d X.env x=pure x)(hN:X.N.Nodup)(U:X.N[i]?=Y x)(hl:Loc X.env.scope x)(hf:X.fn x=L\/X.env.scope.names.lookup x=Y .local)(p:swapsWith (.ListComp elt [⟨tg,d,ifs,0⟩] c j) (Y (.Name x f)) pos.line X.env=pure L):
  PS X (.Assign [.Name x f] (.ListComp elt [⟨tg,d,ifs,0⟩] c j) pos) (tAsg (qmp src A g E F) (qyh i)):=by
 intro pins s σ H D I h;rw[exec_Assign_Name_used _ _ _ _ p];refine Qq (wpAny_standAt (Qq ?_));refine Qq (Qh (wpAny_comprehension_free rfl hs (qwm S I) S.kind S.loc (thn (hi pins s σ H _ I h) λv s1 h1=>thn h1 λR n h2=>?_)) (λ_ s' hq=>Qx (Qx hq)) λ_ _ e=>e);obtain⟨it,fp,tn,Jq,H2,e,I2,T,l,f2,W,G,k⟩:=h2;subst e;refine qku hc I2 T l f2 S (λC=>hg C fp n H2) (λC=>V C fp n H2) (λ_ C=>he C fp n H2) (λ_ _ _ _ _ z=>z.elim) W G k ?_;intro y C s' H' a0 u Q I' fC hm;obtain⟨m',hn⟩:=hm;obtain⟨c0,c1,c2,c3,c4,c5⟩:=fC;refine wpAny_assign_Name (qvn I' hN U hl (show RelV (.ref y) (.ref y) from rfl) (λP w r=>?_) hf);obtain⟨a,K,ha⟩:=r;have t:C≠a:=by
  rcases ha with z|z
  ·rw[z]; exact c1
  ·exact λq=>c4 x a z q.symm
 exact⟨m',hn.sameBut K t,λh' m=>⟨_,_,w.turned (λb o hb e=>(m.2 b hb).trans e) c0 c1 c3 c4 c5,u y Q⟩⟩
abbrev iSeq(K:Qqq)(tl:TE):TI:=λσ H R=>tl σ H λx H1=>(∃a,x=.ref a/\(((∃xs,SqL K H1 a xs)/\R (Itl K a) H1)\/((∃xs,SqT K H1 a xs)/\R (Itt K a) H1)))
def pi_seq(hl:PE X l tl):PI X tg l (iSeq X.K tl):=by
 intro pins s σ H R I h;refine thn (hl pins s σ H _ I h) λv d ⟨x,H1,c,j,k⟩=>?_;obtain⟨a,e,q⟩:=k;subst e;cases j;rcases q with⟨⟨xs,g⟩,q⟩|⟨⟨xs,g⟩,q⟩
 ·obtain⟨f,i,p,m⟩:=c.list g;refine Zq p.isList ?_;refine⟨d.heap.objs.size,[d.heap.objs.size],_,_,H1,rfl,c.kept λb o e=>Qqx _ e,qcl a _,⟨_,Qqh _ rfl,rfl,rfl⟩,λb hb=>?_,q⟩;have e:b=d.heap.objs.size:=by simpa using hb
  subst e;exact c.fpOk (Qqw _) (c.hok.fresh (Qqw _))
 ·obtain⟨f,i,p,m⟩:=c.tuple g;refine wpAny_pyIter_tuple (p) ?_;refine⟨d.heap.objs.size,[d.heap.objs.size],_,_,H1,rfl,c.kept λb o e=>Qqx _ e,qbd a _,⟨_,Qqh _ rfl,rfl,rfl⟩,λb hb=>?_,q⟩;have e:b=d.heap.objs.size:=by simpa using hb
  subst e;exact c.fpOk (Qqw _) (c.hok.fresh (Qqw _))
structure Glo where
 cs:Z (Y4×D)
 ds:Z (Y4×Z Y4×Z D)
 /-- a method's place among the functions,its class,its name -/
 ms:Z (Y0×Y5×Y4)
 /-- the classes -/
 cl:Z (Y4×Y5)
 /-- attributes of instances -/
 ats:Z (Y5×Y4)
structure Ctx where
 N:Z Y4
 sc:Scope
 fns:Z Y4
 glo:Glo
abbrev qpt:M.Bq->String
 |.len=>"len"
 |.min=>"min"
 |.tuple=>"tuple"
 |.list=>"list"
 |.all=>"all"
 |.sorted=>"sorted"
 |.any=>"any"
 |.max=>"max"
 |.dict=>"dict"
abbrev bOk:M.Bq->Yb
 |.len=>L
 |.min=>L
 |.tuple=>L
 |.list=>L
 |.all=>L
 |.sorted=>L
 |.any=>L
 |.max=>L
 |.dict=>L
abbrev qbs(scope sc:Scope):Scope:={ scope with names:=scope.names.map λ(n,k)=>if (k==NameKind.free&&sc.kind==.function&&sc.names.lookup n==Y .cell) then(n,NameKind.cell) else(n,k) }
abbrev tlOk(N:Z Y4)(sc:Scope)(t:T):Bool:=t.slots.all λi=>match N[i]? with
 |some x=>sc.names.lookup x==Y .local
 |none=>Y6
def qc1(h:tlOk N sc t=L):∀i∈t.slots,∀x,N[i]?=Y x->sc.names.lookup x=Y .local:=by
 intro i hi x a;unfold tlOk at h;have:=Qze.mp h i hi;rw[a]at this;simpa using this
abbrev qh0(x:Y4):Bool:=!x.cps.toList.contains 46
def MTree(pa:Expr)(m:Y4)(apos:Pos)(ps:Z Expr)(pos:Pos):Prop:=∀env,∃pl:Sem Yb,Qa (.Call (.Attribute pa m apos) ps [] pos) env=(do
 let ov <- Qa pa env
 standAt apos.atName
 let (f,first) <- Zo [ov] (Z2 ov m pl)
 callWith pos f first (backTo pos (starEach ps env)) (backToKw pos (keywordEach [] env)))
def Star(p:Expr):Prop:=∀es env,starEach (p::es) env=(Y6,Qa p env)::starEach es env
inductive CkTys (c:Ctx):Z M.Ty->Z Expr->Prop
 |nil:CkTys c [] []
 |cons {t ts ps pos} (ht:t≠.non) (hg:c.sc.names.lookup (Str.ofString t.name)=Y .globalImplicit) (h:CkTys c ts ps):CkTys c (t::ts) (.Name (Str.ofString t.name) pos::ps)
inductive CkTs (c:Ctx):Z Y0->Z Expr->Prop
 |nil:CkTs c [] []
 |cons {i x pos is es} (hN:c.N[i]?=Y x) (hl:c.sc.names.lookup x=Y .local\/c.sc.names.lookup x=Y .cell) (h:CkTs c is es):CkTs c (i::is) (.Name x pos::es)
inductive CkT (c:Ctx):T->Expr->Prop
 |tup {is es k pos} (h:CkTs c is es):CkT c (.tup is) (.Tuple es k pos)
 |var {i x pos} (hN:c.N[i]?=Y x) (hl:c.sc.names.lookup x=Y .local\/c.sc.names.lookup x=Y .cell):CkT c (.var i) (.Name x pos)
abbrev gcOk:Expr->Yb
 |.Call _ _ _ _=>L
 |.ListComp _ _ _ _=>L
 |.List _ _=>L
 |.BinOp _ _ _ _=>L
 |.Subscript _ _ _=>L
 |_=>Y6
inductive CkL (R:E->Expr->Prop):Z E->Z Expr->Prop
 |nil:CkL R [] []
 |cons {e es p ps} (h:R e p) (t:CkL R es ps):CkL R (e::es) (p::ps)
inductive CkP (R:E->Expr->Prop):Z E->Z (Y2 Expr)->Z Expr->Prop
 |nil:CkP R [] [] []
 |cons {k v es pk pv ks vs} (hk:R k pk) (hv:R v pv) (t:CkP R es ks vs):CkP R (k::v::es) (Y pk::ks) (pv::vs)
inductive CkO (R:E->Expr->Prop):Y2 E->Y2 Expr->Prop
 |none:CkO R B B
 |some {e p} (h:R e p):CkO R (Y e) (Y p)
inductive CkI (R:E->Expr->Prop):Ctx->Expr->E->Expr->Prop
 |rng1 {c tg a pa p0 pos} (hg:c.sc.names.lookup ("range" : Y4)=Y .globalImplicit) (ha:R a pa):CkI R c tg (.rng1 a) (.Call (.Name "range" p0) [pa] [] pos)
 |rng2 {c tg a b pa pb p0 pos} (hg:c.sc.names.lookup ("range" : Y4)=Y .globalImplicit) (ha:R a pa) (hb:R b pb):CkI R c tg (.rng2 a b) (.Call (.Name "range" p0) [pa,pb] [] pos)
 |zip {c es k tp a b pa pb p0 pos} (hg:c.sc.names.lookup ("zip" : Y4)=Y .globalImplicit) (ha:R a pa) (hb:R b pb):CkI R c (.Tuple es k tp) (.zip a b) (.Call (.Name "zip" p0) [pa,pb] [] pos)
 |enu {c es k tp a pa p0 pos} (hg:c.sc.names.lookup ("enumerate" : Y4)=Y .globalImplicit) (ha:R a pa):CkI R c (.Tuple es k tp) (.enu a) (.Call (.Name "enumerate" p0) [pa] [] pos)
 |rev {c tg a pa p0 pos} (hg:c.sc.names.lookup ("reversed" : Y4)=Y .globalImplicit) (ha:R a pa):CkI R c tg (.rev a) (.Call (.Name "reversed" p0) [pa] [] pos)
 |seq {c tg e p} (h:R e p):CkI R c tg e p
noncomputable abbrev inOp(neg:Yb):CmpOp:=if neg then .NotIn else .In
noncomputable abbrev Ctx.inn(c:Ctx)(N:Z Y4)(sc:Scope):Ctx:=⟨N,qbs sc c.sc,c.fns,c.glo⟩
structure CpOk (c:Ctx) (sc:Scope) (sr:Z (Y2 Y0)) (N:Z Y4) (iter:Expr) (t:T):Prop where
 kind:sc.kind=.function
 cell:∀y∈sc.names,y.2≠.cell
 free:∀y∈sc.names,y.2=.free->c.sc.names.lookup y.1=Y .cell\/c.sc.names.lookup y.1=Y .free
 loc:∀y∈sc.names,y.2=.local->sc.names.lookup y.1=Y .local
 len:sr.length=N.length
 src:∀(j i:Y0),sr[j]?=Y (Y i)->∃x,N[j]?=Y x/\c.N[i]?=Y x/\sc.names.lookup x=Y .free
 nd:N.Nodup
 fs:∀env x,foldedSetIterable iter env x=pure x
 tl:tlOk N (qbs sc c.sc) t=L
abbrev boT(op:BoolOp)(pos:Pos):Z Expr->Expr
 |[p]=>p
 |ps=>.BoolOp op ps pos
abbrev mName:M.Mt->Y4
 |.append=>"append"
 |.extend=>"extend"
 |.index=>"index"
 |.insert=>"insert"
 |.pop=>"pop"
abbrev shOk:Expr->Yb
 |.Starred ..=>Y6
 |.Slice ..=>Y6
 |.Set ..=>Y6
 |.SetComp ..=>Y6
 |.DictComp ..=>Y6
 |.Call (.Name _ _) [] _ _=>Y6
 |_=>L
abbrev qv0:E->Yb
 |.rng1 _=>Y6
 |.rng2 _ _=>Y6
 |.zip _ _=>Y6
 |.enu _=>Y6
 |.rev _=>Y6
 |_=>L
inductive CkV:Ctx->E->Y4->Prop
 |var {c i x} (hN:c.N[i]?=Y x) (hv:Vis c.sc x) (hd:(x==("__debug__" : Y4))=Y6) (hcd:(x==("__classdict__" : Y4))=Y6):CkV c (.var i) x
 |glo {c x d} (hg:c.sc.names.lookup x=Y .globalImplicit) (hm:(x,d)∈c.glo.cs) (hd:(x==("__debug__" : Y4))=Y6):CkV c (.glo x d) x
inductive CkG (R:Ctx->E->Expr->Prop):Ctx->E->Expr->Prop
 |nm {c a x pos} (h:CkV c a x):CkG R c a (.Name x pos)
 |int {c i j pos}:CkG R c (.lit (.int i)) (.Constant (.int i) j pos)
 |bl {c i j pos}:CkG R c (.lit (.bl i)) (.Constant (.bool i) j pos)
 |non {c j pos}:CkG R c (.lit .non) (.Constant .none j pos)
 |str {c i j pos}:CkG R c (.lit (.str i)) (.Constant (.str i) j pos)
 |bin {c op a b pa pb pos} (ha:R c a pa) (hb:R c b pb):CkG R c (.bin op a b) (.BinOp pa op pb pos)
 |lenset {c a pa p0 p1 pos1 pos} (hg:c.sc.names.lookup ("len" : Y4)=Y .globalImplicit) (hs:c.sc.names.lookup ("set" : Y4)=Y .globalImplicit) (ha:R c a pa):CkG R c (.lenset a) (.Call (.Name "len" p0) [.Call (.Name "set" p1) [pa] [] pos1] [] pos)
 |neg {c a pa pos} (ha:R c a pa):CkG R c (.neg a) (.UnaryOp .USub pa pos)
 |not {c a pa pos} (ha:R c a pa):CkG R c (.not a) (.UnaryOp .Not pa pos)
 |cmp {c op a b pa pb pos} (ha:R c a pa) (hb:R c b pb):CkG R c (.cmp op a b) (.Compare pa [op] [pb] pos)
 |cmp2 {c op op' a b d pa pb pd pos} (ha:R c a pa) (hb:R c b pb) (hd:R c d pd):CkG R c (.cmp2 op op' a b d) (.Compare pa [op,op'] [pb,pd] pos)
 |ite {c q a b pq pa pb pos} (hq:R c q pq) (ha:R c a pa) (hb:R c b pb):CkG R c (.ite q a b) (.IfExp pq pa pb pos)
 |tup {c es ps k pos} (h:CkL (R c) es ps):CkG R c (.tup es) (.Tuple ps k pos)
 |lst {c es ps pos} (h:CkL (R c) es ps):CkG R c (.lst es) (.List ps pos)
 |idx {c a b pa pb pos} (ha:R c a pa) (hb:R c b pb):CkG R c (.idx a b) (.Subscript pa pb pos)
 |call {c f x es p ps p0 pos} (hg:c.sc.names.lookup x=Y .globalImplicit) (hf:c.fns[f]?=Y x) (hd:(x==("__debug__" : Y4))=Y6) (hn:qh0 x=L) (h:CkL (R c) es (p::ps)):CkG R c (.call f es) (.Call (.Name x p0) (p::ps) [] pos)
 |bcall {c b es p ps p0 pos} (hg:c.sc.names.lookup (Str.ofString (qpt b))=Y .globalImplicit) (hb:bOk b=L) (h:CkL (R c) es (p::ps)):CkG R c (.bcall b es) (.Call (.Name (Str.ofString (qpt b)) p0) (p::ps) [] pos)
 |isi1 {c t a pa p0 p1 pos} (hg:c.sc.names.lookup ("isinstance" : Y4)=Y .globalImplicit) (ht:t≠.non) (hgt:c.sc.names.lookup (Str.ofString t.name)=Y .globalImplicit) (ha:R c a pa):CkG R c (.isi a [t] Y6) (.Call (.Name "isinstance" p0) [pa,.Name (Str.ofString t.name) p1] [] pos)
 |isiN {c ts a pa p0 ps k p1 pos} (hl:ts.length<=1000) (hg:c.sc.names.lookup ("isinstance" : Y4)=Y .globalImplicit) (ht:CkTys c ts ps) (ha:R c a pa):CkG R c (.isi a ts L) (.Call (.Name "isinstance" p0) [pa,.Tuple ps k p1] [] pos)
 |dgt {c a b pa pb apos cpos} (ha:R c a pa) (hb:R c b pb) (hl:(apos.endLine==cpos.line)=L):CkG R c (.dgt a b) (.Call (.Attribute pa "get" apos) [pb] [] cpos)
 |dic0 {c pos}:CkG R c (.dic []) (.Dict [] [] pos)
 |dic {c es k v ks vs pos} (h:CkP (R c) es (k::ks) (v::vs)) (h15:(k::ks).length<=15):CkG R c (.dic es) (.Dict (k::ks) (v::vs) pos)
 |didx {c a b pa pb pos} (ha:R c a pa) (hb:R c b pb):CkG R c (.didx a b) (.Subscript pa pb pos)
 |gidx {c x ks ds b pb p0 pos} (hg:c.sc.names.lookup x=Y .globalImplicit) (hm:(x,ks,ds)∈c.glo.ds) (hd:(x==("__debug__" : Y4))=Y6) (hb:R c b pb):CkG R c (.gidx x ks ds b) (.Subscript (.Name x p0) pb pos)
 |sli {c a lo hi pa pl ph p2 pos} (ha:R c a pa) (hl:CkO (R c) lo pl) (hh:CkO (R c) hi ph):CkG R c (.sli a lo hi) (.Subscript pa (.Slice pl ph B p2) pos)
 |attr {c C a f pa pos} (ha:R c a pa) (hc:(C,f)∈c.glo.ats):CkG R c (.attr C a f) (.Attribute pa f pos)
 |mcall {c C f m x cn a es pa ps apos pos} (ha:R c a pa) (hf:c.fns[f]?=Y x) (hm:(f,C,m)∈c.glo.ms) (hc:(cn,C)∈c.glo.cl) (h:CkL (R c) es ps) (hn:ps.length<30) (hl:(apos.endLine==pos.line)=L):CkG R c (.mcall C f m a es) (.Call (.Attribute pa m apos) ps [] pos)
 |new {c C f x cn es p ps p0 pos} (hg:c.sc.names.lookup cn=Y .globalImplicit) (hf:c.fns[f]?=Y x) (hm:(f,C,("__init__" : Y4))∈c.glo.ms) (hc:(cn,C)∈c.glo.cl) (hd:(cn==("__debug__" : Y4))=Y6) (h:CkL (R c) es (p::ps)):CkG R c (.new C f es) (.Call (.Name cn p0) (p::ps) [] pos)
 |and {c a b pa pb r pos} (ha:R c a pa) (hb:R c b (boT .And pos (pb::r))):CkG R c (.and a b) (.BoolOp .And (pa::pb::r) pos)
 |or {c a b pa pb r pos} (ha:R c a pa) (hb:R c b (boT .Or pos (pb::r))):CkG R c (.or a b) (.BoolOp .Or (pa::pb::r) pos)
 |meth {c a k es pa p ps apos cpos} (ha:R c a pa) (h:CkL (R c) es (p::ps)) (hn:(p::ps).length<30) (hl:(apos.endLine==cpos.line)=L):CkG R c (.meth a k es) (.Call (.Attribute pa (mName k) apos) (p::ps) [] cpos)
 |comp {c t it q elt sr tg iter pq pelt scope pos N} (ok:CpOk c scope sr N iter t) (hi:CkI (R c) c tg it iter) (ht:CkT (c.inn N scope) t tg) (hq:CkO (R (c.inn N scope)) q pq) (he:R (c.inn N scope) elt pelt):CkG R c (.comp t it q elt sr) (.ListComp pelt [⟨tg,iter,pq.toList,0⟩] scope pos)
 |din {c neg a b pa pb pos} (ha:R c a pa) (hb:R c b pb):CkG R c (.din neg a b) (.Compare pa [inOp neg] [pb] pos)
 |gin {c neg x ks ds b pb p0 pos} (hg:c.sc.names.lookup x=Y .globalImplicit) (hm:(x,ks,ds)∈c.glo.ds) (hd:(x==("__debug__" : Y4))=Y6) (hb:R c b pb):CkG R c (.gin neg x ks b) (.Compare pb [inOp neg] [.Name x p0] pos)
inductive CkF (R:Ctx->E->Expr->Prop):Ctx->E->Expr->Prop
 |of {c e p} (hs:shOk p=L) (hq:qv0 e=L) (h:CkG R c e p):CkF R c e p
 |gc {c a p} (hs:shOk p=L) (hq:qv0 a=L) (hp:gcOk p=L) (hg:∀b,a≠.gc b) (h:CkG R c a p):CkF R c (.gc a) p
abbrev CkN:Y0->Ctx->E->Expr->Prop
 |0=>λ_ _ _=>False
 |j+1=>CkF (CkN j)
noncomputable abbrev CkE:=CkN 30
mutual
inductive CkS:Ctx->S->Stmt->Prop
 |set {c i e x p pos pos'} (hN:c.N[i]?=Y x) (hl:c.sc.names.lookup x=Y .local\/c.sc.names.lookup x=Y .cell) (h:CkE c e p) (hs:∀env,swapsWith p (Y (.Name x pos')) pos.line env=pure Y6):CkS c (.set (.var i) e) (.Assign [.Name x pos'] p pos)
 |setC {c i e x p pos pos'} (hN:c.N[i]?=Y x) (hl:c.sc.names.lookup x=Y .local\/c.sc.names.lookup x=Y .cell) (h:CkE c e p) (hc:∃elt gs sc q,p=.ListComp elt gs sc q) (hs:∀env:Env,env.scope=c.sc->(swapsWith p (Y (.Name x pos')) pos.line env=pure Y6\/swapsWith p (Y (.Name x pos')) pos.line env=pure L)):CkS c (.set (.var i) e) (.Assign [.Name x pos'] p pos)
 |dset {c a i e pa pi pe tpos pos} (ha:CkE c a pa) (hi:CkE c i pi) (he:CkE c e pe):CkS c (.dset a i e) (.Assign [.Subscript pa pi tpos] pe pos)
 |expr {c e p pos} (h:CkE c e p) (hs:∀env,swapsWith p B pos.line env=pure Y6):CkS c (.expr e) (.Expr p pos)
 |ret {c e p pos} (h:CkE c e p):CkS c (.ret e) (.Return (Y p) pos)
 |ite {c q a b pq pa pb pos} (hq:CkE c q pq) (ha:CkSs c a pa) (hb:CkSs c b pb):CkS c (.ite q a b) (.If pq pa pb pos)
 |forr {c t it body tg iter pb pos} (ht:CkT c t tg) (hi:CkI (CkE c) c tg it iter) (hs:∀env x,foldedSetIterable iter env x=pure x) (hb:CkSs c body pb):CkS c (.forr t it body) (.For tg iter pb [] pos)
 |setA {c C a f e pa pe tpos pos} (ha:CkE c a pa) (he:CkE c e pe) (hc:(C,f)∈c.glo.ats):CkS c (.setA C a f e) (.Assign [.Attribute pa f tpos] pe pos)
 |ford {c t a body tg pa pb pos} (ht:CkT c t tg) (ha:CkE c a pa) (hb:CkSs c body pb):CkS c (.ford t a body) (.For tg pa pb [] pos)
 |bad {c p}:CkS c .bad p
 |brk {c pos}:CkS c .brk (.Break pos)
 |setT {c is e es k p pos tpos} (ht:CkTs c is es) (h:CkE c e p) (hw:∀env,swappedStores [.Tuple es k tpos] p env=pure B):CkS c (.set (.tup is) e) (.Assign [.Tuple es k tpos] p pos)
inductive CkSs:Ctx->Z S->Z Stmt->Prop
 |nil {c}:CkSs c [] []
 |cons {c s ss p ps} (h:CkS c s p) (t:CkSs c ss ps):CkSs c (s::ss) (p::ps)
 |doc {c ss x j pos pos' ps} (t:CkSs c ss ps):CkSs c ss (.Expr (.Constant (.str x) j pos) pos'::ps)
end
def qm4(h:shOk p=L):Star p:=λes env=>by cases p<;>first|rfl|cases h
def CkN.sh(h:CkN j c e p):shOk p=true:=by
 cases j with
 |zero=>cases h
 |succ j=>
  cases h with
  |of hs=>exact hs
  |gc hs=>exact hs
def CkN.star(h:CkN j c e p):Star p:=qm4 h.sh
def sh_sw(h:shOk p=L)(l)(env):swapsWith p (Y (.Subscript a i tp)) l env=pure false:=by
 cases p<;>first|rfl|cases h
def sh_swT(h:shOk p=L)(l)(env):swapsWith p (Y (.Tuple es k tp)) l env=pure false:=by
 cases p<;>first|rfl|cases h
def sh_swA(h:shOk p=L)(l)(env):swapsWith p (Y (.Attribute a f tp)) l env=pure false:=by
 cases p<;>first|rfl|cases h
def qm5(h:shOk p=L)(o i):subscripted p Y6 o i=operate [o,i] (Zv o i):=by
 cases p<;>first|rfl|cases h
def qbo(h:shOk p=L)(a):Zh a p=false:=by
 cases p<;>first|rfl|cases h
def qm6(h:shOk p=L)(env)(x):foldedSetIterable p env x=pure x:=by
 cases p<;>first|rfl|cases h
def qk9(h:shOk p=L)(a)(env)(w):Zj p a env w=w:=by
 cases p with
 |Call f ps ks pos=>
  cases f with
  |Name x q=>
   cases ps with
   |nil=>cases h
   |cons _ _=>rfl
  |_=>rfl
 |_=>rfl
theorem qlq:∀{ps},ps.all shOk=L->(backTo pos (starEach ps env)).all (λx=>!x.1)=L
 |[],_=>rfl
 |p::r,h=>by
  rw[Qz4,Qqt]at h;have e:backTo pos (starEach (p::r) env)=(Y6,Qa p env)::backTo pos (starEach r env):=by
   cases p<;>first|rfl|cases h.1
  rw[e,Qz4,qlq h.2]
  rfl
def sh_mt(h:shOk b=L)(hs:ps.all shOk=L)(hl:ps.length<30)(d:(a.endLine==pos.line)=L):MTree b m a ps pos:=by
 intro env;refine⟨(do return (<- importBound b env).getD L),?_⟩
 have e:Qa (.Call (.Attribute b m a) ps [] pos) env=(do
  let c <- Zj b m env (Qa b env)
  standAt a.atName
  methodCall b m a pos env c (ps.length+0) (backTo pos (starEach ps env)) (backToKw pos (keywordEach [] env))):=rfl
 have f:methodCallForm (ps.length+0) (backTo pos (starEach ps env)) (backToKw pos (keywordEach [] env))=true:=by
  unfold methodCallForm;rw[qlq hs];simpa[keywordEach,backToKw] using hl
 rw[e,qk9 h];unfold methodCall calleeOf methodCallPos;rw[f,d]
 rfl
theorem CkL.sh(h:CkL (CkN j c) es ps):ps.all shOk=true:=by
 induction h with
 |nil=>rfl
 |cons h _ t=>rw[Qz4,h.sh,t]; rfl
abbrev spN(K:Qqq)(fns:Z Fn)(n f:Y0):Sp:=λvs H Q _=>∃m st ds d st',Rel K m st H/\IsDs K m H ds vs/\M.callD fns n f ds st=Y (d,st')/\Post K m H d st' Q
def Lc(K:Qqq)(mg:Y4->Y2 Y7)(glo:Glo)(f:Y0)(x:Y4)(fa:Y5):Prop:=(qh0 x=L->mg x=Y (.ref fa))/\∀C m,(f,C,m)∈glo.ms->Meth K C m fa
def FTab(P:Program)(w:Qj)(K:Qqq)(mg:Y4->Y2 Y7)(base:Heap)(glo:Glo)(fns:Z Fn)(names:Z Y4)(n:Y0):Prop:=∀(f:Y0) (x:Y4),names[f]?=Y x->∃(fa:Y5) (fd:Qn) (ps:Z Y4),
 Lc K mg glo f x fa/\FnOk P w K mg base CX0 (2*n) fa fd ps (spN K fns n f)/\Qz7 K (.ref fa)=L/\Binds K fd ps []
noncomputable abbrev bNm:Z Y4:=["len","min","max","tuple","list","all","sorted","isinstance","range","int","bool","str","zip","any","enumerate","reversed","set","dict"]
structure Mo (K:Qqq) (mg:Y4->Y2 Y7) (glo:Glo) (prm:Qp):Prop where
 cls:∀cn C,(cn,C)∈glo.cl->mg cn=Y (.ref C)/\Cls K C/\PySem.W.makesIn K C=L/\Qz7 K (.ref C)=L
 ats:∀C f,(C,f)∈glo.ats->Cls K C/\NoAttr K C f
 gds:∀x ks ds,(x,ks,ds)∈glo.ds->∃a,mg x=Y (.ref a)/\FDict prm K a ks ds
 glo:∀x d,(x,d)∈glo.cs->∃u v,mg x=Y u/\RelV v u/\∀m H,IsD K m H d v
 no:∀x∈bNm,mg x=B
structure Good (fns:Z Fn) (dl:Y0) (c:Ctx) (X:Cx):Prop where
 room:Room (2*dl+1) X.A
 calm:X.calm=L
 N:X.N=c.N
 sc:X.env.scope=c.sc
 nd:c.N.Nodup
 kind:c.sc.kind=.function
 tab:FTab X.prog X.w X.K X.mg X.base c.glo fns c.fns dl
 mo:Mo X.K X.mg c.glo X.w.params
 xe:X.xe=λ_ _=>False
theorem Good.no{dl:Y0}(G:Good fns dl c X)(h:bNm.contains x=L):X.mg x=none:=G.mo.no x (Qjt.mp h)
end MS
end
section
namespace MS
open PySem PySem.Spec PyProof.Rows L2
open M (D Ya Y1 Sl E S T Src Fn Out R)
theorem qq1:∀{es}{ps},CkL (CkN j c) es ps->∀(pos:Pos) (env:Env),(backTo pos (starEach ps env)).any (·.1)=Y6
 |_,_,.nil,_,_=>rfl
 |_,_,.cons h t,pos,env=>by
  rw[h.star];show(Y6||(backTo pos (starEach _ env)).any (·.1))=Y6;rw[qq1 t pos env]
  rfl
def Good.gl{dl:Y0}(G:Good fns dl c X)(h:c.sc.names.lookup x=Y .globalImplicit):Gl X x:=by
 show X.env.scope.names.lookup x=_;rw[G.sc]; exact h
def qbr(h:env.scope=sc):relabel a env=qbs a sc:=by
 unfold relabel qbs Env.kindOf;rw[h]
def Good.inner{fns:Z Fn}{dl:Y0}{c:Ctx}{X:Cx}(G:Good fns dl c X){N:Z Y4}{a:Scope}{C:Y5}{fp:Z Y5}{s:Qz}{H:Hp}(hk:a.kind=.function)(b:N.Nodup):Good fns dl ⟨N,qbs a c.sc,c.fns,c.glo⟩ (qzi X N a C fp s H):=
 ⟨G.room,G.calm,rfl,qbr G.sc,b,hk,G.tab,G.mo,rfl⟩
abbrev IsRow(K:Qqq)(m:Z Y5)(H:Hp)(k:RK)(a:Y5):D->Prop
 |.tup ds=>k=.tup/\∃xs,SqT K H a xs/\IsDs K m H ds xs
 |.loc l=>k=.lst/\m[l]?=Y a
 |.lst ds=>k=.lst/\∃xs,SqF K H a xs/\IsDs K m H ds xs
 |_=>False
def IsRow.mono{K:Qqq}(h:IsRow K m H k a d)(b:Sub m c)(t:Tr H H'):IsRow K c H' k a d:=by
 cases d with
 |tup ds=>obtain⟨e,xs,q,r⟩:=h; exact⟨e,xs,t.sqT q,qzc b t ds xs r⟩
 |loc l=>exact⟨h.1,b l a h.2⟩
 |lst ds=>obtain⟨e,xs,q,r⟩:=h; exact⟨e,xs,t.sqF q,qzc b t ds xs r⟩
 |_=>exact h.elim
theorem IsRow.sq{K:Qqq}{st:Y1}(h:IsRow K m H k a d)(c:Rel K m st H)(e:M.rowAt st d=Y ds):∃xs,k.sq K H a xs/\IsDs K m H ds xs:=by
 cases d with
 |tup es=>
  cases e;obtain⟨rfl,xs,q,r⟩:=h;exact⟨xs,q,r⟩
 |loc l=>
  obtain⟨rfl,ha⟩:=h;obtain⟨f,xs,b,z,q,r⟩:=c.list e (qh3 ha);cases z;exact⟨xs,q,r⟩
 |lst es=>
  cases e;obtain⟨rfl,xs,q,r⟩:=h;exact⟨xs,q.sq,r⟩
 |_=>exact h.elim
def qvw{K:Qqq}{st:Y1}(b:MS.IsD K m H d v)(c:Rel K m st H)(e:M.rowAt st d=Y ds):∃k a,v=.ref a/\IsRow K m H k a d/\∃xs,k.sq K H a xs:=by
 cases d with
 |tup es=>
  obtain⟨a,xs,rfl,q,r⟩:=b.tup;exact⟨.tup,a,rfl,⟨rfl,xs,q,r⟩,xs,q⟩
 |loc l=>
  obtain⟨a,xs,ha,rfl,q,r⟩:=c.list e b;exact⟨.lst,a,rfl,⟨rfl,ha⟩,xs,q⟩
 |lst es=>
  obtain⟨a,xs,rfl,q,r⟩:=b.lst;exact⟨.lst,a,rfl,⟨rfl,xs,q,r⟩,xs,q.sq⟩
 |_=>exact nn e
def IsRow.sq'{K:Qqq}{st:Y1}(h:IsRow K m H .lst a d)(b:Rel K m st H)(e:M.seqAt st d=Y ds):∃xs,SqL K H a xs/\IsDs K m H ds xs:=by
 cases d with
 |loc l=>exact h.sq b e
 |lst l=>exact h.sq b e
 |_=>exact nn e
def qwy{K:Qqq}{st:Y1}(b:MS.IsD K m H d v)(c:Rel K m st H)(e:M.seqAt st d=Y ds):∃a,v=.ref a/\IsRow K m H .lst a d/\∃xs,SqL K H a xs:=by
 cases d with
 |loc l=>
  obtain⟨a,xs,ha,rfl,q,r⟩:=c.list e b;exact⟨a,rfl,⟨rfl,ha⟩,xs,q⟩
 |lst l=>
  obtain⟨a,xs,rfl,q,r⟩:=b.lst;exact⟨a,rfl,⟨rfl,xs,q,r⟩,xs,q.sq⟩
 |_=>exact nn e
abbrev IsSrc(K:Qqq)(m:Z Y5)(H:Hp):Src->It->Prop
 |.rng lo n,Jq=>Jq=Itr lo n
 |.tup ds,Jq=>∃a xs,Jq=Itt K a/\SqT K H a xs/\IsDs K m H ds xs
 |.lst d,Jq=>∃a,IsRow K m H .lst a d/\Jq=Itl K a
 |.zip x y,Jq=>∃(k1 k2:RK) (a b:Y5),Jq=Itz K k1 k2 a b/\IsRow K m H k1 a x/\IsRow K m H k2 b y
 |.enu x,Jq=>∃(k:RK) (a:Y5),Jq=Ite K k a/\IsRow K m H k a x
 |.rev ds,Jq=>∃a xs,Jq=Itv K a xs.length/\SqT K H a xs/\IsDs K m H ds xs
theorem IsSrc.mono{K:Qqq}(h:IsSrc K m H s Jq)(b:Sub m c)(t:Tr H H'):IsSrc K c H' s Jq:=by
 cases s with
 |rng lo n=>exact h
 |tup ds=>obtain⟨a,xs,e,q,r⟩:=h; exact⟨a,xs,e,t.sqT q,qzc b t ds xs r⟩
 |lst l=>obtain⟨a,e,q⟩:=h; exact⟨a,e.mono b t,q⟩
 |zip x y=>obtain⟨k1,k2,a,d,e,h1,h2⟩:=h; exact⟨k1,k2,a,d,e,h1.mono b t,h2.mono b t⟩
 |enu x=>obtain⟨k,a,e,h⟩:=h; exact⟨k,a,e,h.mono b t⟩
 |rev ds=>obtain⟨a,xs,e,q,r⟩:=h; exact⟨a,xs,e,t.sqT q,qzc b t ds xs r⟩
def IsSrc.done{K:Qqq}{st:Y1}(h:IsSrc K m H s j)(f:Rel K m st H)(e:s.at st i=Y B):j.stop i H:=by
 cases s with
 |rng lo n=>
  cases h;simp only[Src.at]at e
  split at e
  ·cases e
  ·rename_i q;exact Nat.not_lt.mp q
 |tup ds=>
  obtain⟨a,xs,rfl,q,r⟩:=h;simp only[Src.at,Option.some.injEq]at e;exact⟨xs,q,by rw[<- r.length]; exact Qzt.mp e⟩
 |lst l=>
  obtain⟨a,ha,rfl⟩:=h;simp only[Src.at]at e;refine qzd e λds d c=>?_;obtain⟨xs,q,r⟩:=ha.sq' f d;exact⟨xs,q,by rw[<- r.length]; exact Qzt.mp c⟩
 |zip x y=>
  obtain⟨k1,k2,a,b,rfl,h1,h2⟩:=h;simp only[Src.at]at e;refine qzx e λds d e=>qzd e λes c g=>?_;obtain⟨xs,u,p⟩:=h1.sq f d;obtain⟨ys,t,o⟩:=h2.sq f c;refine⟨xs,ys,u,t,?_⟩;unfold M.pairAt at g;rw[<- p.length,<- o.length]
  cases z1:ds[i]? with
  |none=>exact .inl (Qzt.mp z1)
  |some d1=>
   cases z2:es[i]? with
   |none=>exact .inr (Qzt.mp z2)
   |some d2=>rw[z1,z2]at g; cases g
 |enu x=>
  obtain⟨k,a,rfl,h⟩:=h;simp only[Src.at]at e;refine qzd e λds d c=>?_;obtain⟨xs,q,r⟩:=h.sq f d;exact⟨xs,q,by rw[<- r.length]; exact Qzt.mp (Qkp.mp c)⟩
 |rev ds=>
  obtain⟨a,xs,rfl,q,r⟩:=h;simp only[Src.at]at e;show xs.length<=i;rw[<- r.length]
  split at e
  ·rw[Qqb ?q]at e; cases e
  ·omega
def IsSrc.next{K:Qqq}{st:Y1}(h:IsSrc K m H s G)(C:Rel K m st H)(e:s.at st i=Y (Y d)):G.go i H/\∀x H',G.yld i H x H'->Same H H'/\MS.IsD K m H' d x:=by
 cases s with
 |rng lo n=>
  cases h;simp only[Src.at]at e
  split at e
  ·rename_i q;cases e;refine⟨q,?_⟩;rintro x H' ⟨rfl,rfl⟩;exact⟨λ_ _ z=>z,mkInt _⟩
  ·cases e
 |tup ds=>
  obtain⟨a,xs,rfl,q,r⟩:=h;simp only[Src.at,Option.some.injEq]at e;obtain⟨x,ex,c⟩:=r.get e;refine⟨⟨xs,x,q,ex⟩,?_⟩;rintro y H' ⟨rfl,z⟩;have:=z xs q;rw[ex]at this;cases this;exact⟨λ_ _ z=>z,c⟩
 |lst l=>
  obtain⟨a,ha,rfl⟩:=h;simp only[Src.at]at e;refine qzd e λds A t=>?_;obtain⟨xs,q,r⟩:=ha.sq' C A;obtain⟨x,ex,c⟩:=r.get t;refine⟨⟨xs,x,q,ex⟩,?_⟩;rintro y H' ⟨rfl,z⟩;have:=z xs q;rw[ex]at this;cases this;exact⟨λ_ _ z=>z,c⟩
 |zip u v=>
  obtain⟨k1,k2,a,b,rfl,h1,h2⟩:=h;simp only[Src.at]at e;refine qzx e λds A e=>qzd e λes t f=>?_;obtain⟨xs,N,T⟩:=h1.sq C A;obtain⟨ys,I,S⟩:=h2.sq C t;unfold M.pairAt at f
  cases z1:ds[i]? with
  |none=>rw[z1]at f; cases f
  |some d1=>
   cases z2:es[i]? with
   |none=>rw[z1,z2]at f; cases f
   |some d2=>
    rw[z1,z2]at f;cases f;obtain⟨x,ex,c⟩:=T.get z1;obtain⟨y,Q,U⟩:=S.get z2;refine⟨⟨xs,ys,x,y,N,I,ex,Q⟩,?_⟩;rintro w H' ⟨p,R,X,rfl,E,rfl,F,V⟩;have j:=F xs N;rw[ex]at j;cases j;have P:=V ys I;rw[Q]at P;cases P;have g:=qza (o:=.tup [x,y]) E;exact⟨g,qq2 (SqT.of qzw) (qzc (Sub.refl _) (Tr.of_same g) _ _ (qzn c (qzn U qqk)))⟩
 |enu u=>
  obtain⟨k,a,rfl,h⟩:=h;simp only[Src.at]at e;refine qzd e λds A t=>qzd t λd0 f W=>?_;cases W;obtain⟨xs,q,r⟩:=h.sq C A;obtain⟨x,ex,c⟩:=r.get f;refine⟨⟨xs,x,q,ex⟩,?_⟩;rintro w H' ⟨p,R,rfl,E,rfl,F⟩;have j:=F xs q;rw[ex]at j;cases j;have g:=qza (o:=.tup [.int i,x]) E;exact⟨g,qq2 (SqT.of qzw) (qzc (Sub.refl _) (Tr.of_same g) _ _ (qzn (mkInt _) (qzn c qqk)))⟩
 |rev ds=>
  obtain⟨a,xs,rfl,q,r⟩:=h;simp only[Src.at,Option.some.injEq]at e;have rl:=r.length
  split at e
  ·obtain⟨x,ex,c⟩:=r.get e;rw[rl]at ex;refine⟨⟨xs,x,q,rfl,?q,ex⟩,?_⟩;rintro y H' ⟨rfl,z⟩;have:=z xs q;rw[ex]at this;cases this;exact⟨λ_ _ z=>z,c⟩
  ·exact nn e
abbrev tI(K:Qqq)(f:Sl->Y1->Y2 (Src×Y1)):TI:=λσ H R=>∃m st τ s st',Rel K m st H/\SlotOk K m H τ σ/\f τ st=Y (s,st')/\∀m' H' Jq,Sub m m'->Tr H H'->Rel K m' st' H'->IsSrc K m' H' s Jq->R Jq H'
def tI.el{K:Qqq}{P:Prop}(h:tI K f g H Q)(k:∀m st τ s st',Rel K m st H->SlotOk K m H τ g->f τ st=Y (s,st')->(∀m' H' i,Sub m m'->Tr H H'->Rel K m' st' H'->IsSrc K m' H' s i->Q i H')->P):P:=by
 rcases h with⟨m,st,τ,d,st',a,b,c,e⟩
 exact k m st τ d st' a b c e
def _root_.L2.PI.imp(h:PI X tg e t)(f:∀σ H R,t' σ H R->t σ H R):PI X tg e t':=λpins s σ H Q I q=>h pins s σ H Q I (f σ H Q q)
def PostO(K:Qqq)(m:Z Y5)(H:Hp)(o:Out)(st':Y1)(Dn:Ends):Prop:=∀m' H',Sub m m'->Tr H H'->Rel K m' st' H'->match o with
 |.nx τ=>∀σ',SlotOk K m' H' τ σ'->Dn.nx σ' H'
 |.rt d=>∀v,IsD K m' H' d v->Dn.rt v H'
 |.bk τ=>∀σ',SlotOk K m' H' τ σ'->Dn.bk σ' H'
def PostO.mono{K:Qqq}(p:PostO K m H o st' Dn)(s:Sub m a)(t:Tr H b):PostO K a b o st' Dn:=λm' H' s' c r=>p m' H' (s.trans s') (t.trans c) r
abbrev tS(K:Qqq)(f:Sl->Y1->Y2 (Out×Y1)):TS:=λDn σ H=>∃m st τ o st',Rel K m st H/\SlotOk K m H τ σ/\f τ st=Y (o,st')/\PostO K m H o st' Dn
def PostO.of{K:Qqq}(q:PostO K m H d s Q)(e:Y (d',a)=Y (d,s)):PostO K m H d' a Q:=by cases e; exact q
def tS.el{K:Qqq}{P:Prop}(h:tS K f i g H)(k:∀m st τ o st',Rel K m st H->SlotOk K m H τ g->f τ st=Y (o,st')->PostO K m H o st' i->P):P:=by
 rcases h with⟨m,st,τ,d,st',a,b,c,e⟩
 exact k m st τ d st' a b c e
structure AllOk (fns:Z Fn) (dl n:Y0):Prop where
 e:∀c X,Good fns dl c X->∀{j} e p,CkN j c e p->PE X p (tD X.K λτ st=>(M.rn fns dl n).ev τ st e)
 t:∀c X,Good fns dl c X->∀{j} e p,CkN j c e p->PT X p (tTs X.K λτ st=>(M.rn fns dl n).tst τ st e)
 w:∀c X,Good fns dl c X->∀{j} e op ps pos,CkN j c e (.BoolOp op ps pos)->PW X (.BoolOp op ps pos) (tTs X.K λτ st=>(M.rn fns dl n).tst τ st e)
 s:∀c X,Good fns dl c X->(∀x,X.fn x=L)->∀ss ps,CkSs c ss ps->PSs X ps (tS X.K λτ st=>(M.rn fns dl n).ex τ st ss)
def qcc(fns)(dl):AllOk fns dl 0 where
 e:=λc X G j e p h pins s σ H Q I q=>by obtain⟨m,st,τ,d,st',_,_,z,_⟩:=q; cases z
 t:=λc X G j e p h pins s σ H Q I q=>by obtain⟨m,st,τ,d,st',_,_,z,_⟩:=q; cases z
 w:=λc X G j e b ps pos h a pins s σ H Q I q=>by obtain⟨m,st,τ,d,st',_,_,z,_⟩:=q; cases z
 s:=λc X G hf ss ps h pins s σ H Q I q=>by obtain⟨m,st,τ,d,st',_,_,z,_⟩:=q; cases z
section
variable {fns:Z Fn}{dl n j:Y0}{c:Ctx}{X:Cx}
theorem qzo(A:AllOk fns dl n)(G:Good fns dl c X):∀{es}{ps},CkL (CkN j c) es ps->PA X ps (tL X.K λτ st=>M.evs ((?G).ev τ) es st)
 |_,_,.nil=>pa_nil.imp λ_ _ _ h=>tL_nil h
 |_,_,.cons h t=>(qql (A.e c X G _ _ h) (qzo A G t) (h.star _ _)).imp λ_ _ _ q=>
   qmn q
def CkN.plain(h:CkN j c e p):qv0 e=true:=by
 cases j with
 |zero=>cases h
 |succ j=>
  cases h with
  |of _ a=>exact a
  |gc=>rfl
def qdk(h:qv0 e=L)(r)(τ)(st):M.src r τ st e=(?qe).bind λp=>match p.1 with
   |.tup ds=>Y (.tup ds,p.2)
   |d=>(M.seqAt p.2 d).map λ_=>(.lst d,p.2):=by
 cases e with
 |rng1 _=>cases h
 |rng2 _ _=>cases h
 |zip _ _=>cases h
 |enu _=>cases h
 |rev _=>cases h
 |_=>rfl
def qyd(A:AllOk fns dl n)(G:Good fns dl c X)(h:CkI (CkN j c) c tg it C):PI X tg C (tI X.K λτ st=>M.src ?G τ st it):=by
 have seq:∀{e p},CkN j c e p->(∀τ st,M.src ?G τ st e=((?G).ev τ st e).bind λp=>match p.1 with
   |.tup ds=>Y (.tup ds,p.2)
   |d=>(M.seqAt p.2 d).map λ_=>(.lst d,p.2))->PI X tg p (tI X.K λτ st=>M.src ?G τ st e):=by
  intro e p S N;refine(pi_seq (A.e c X G e p S)).imp λσ H R q=>q.el λm st τ s st' u S0 f q=>?_;have f:=(N τ st).symm.trans f;refine qzk f λd v t f=>rsI u S0 t λx m1 H1 b1 o g i1=>?_
  cases d with
  |tup ds=>
   cases f;obtain⟨a,xs,rfl,w,r⟩:=i1.tup;exact⟨a,rfl,.inr ⟨⟨xs,w⟩,q m1 H1 _ b1 o g ⟨a,xs,rfl,w,r⟩⟩⟩
  |loc l=>
   refine qzd f λds I F=>?_;cases F;obtain⟨a,rfl,ha,xs,w⟩:=qwy i1 g I;exact⟨a,rfl,.inl ⟨⟨xs,w⟩,q m1 H1 _ b1 o g ⟨a,ha,rfl⟩⟩⟩
  |lst l=>
   refine qzd f λds I F=>?_;cases F;obtain⟨a,rfl,ha,xs,w⟩:=qwy i1 g I;exact⟨a,rfl,.inl ⟨⟨xs,w⟩,q m1 H1 _ b1 o g ⟨a,ha,rfl⟩⟩⟩
  |_=>exact nn f
 cases h with
 |@rng1 _ a Q p0 pos z ha=>
  refine(qdo (G.gl z) ?q3 (qzo A G (.cons ha .nil)) (by rw[ha.star]; rfl)).imp λσ H R q=>?_;refine q.el λm st τ s st' u S0 f q=>qzk f λd v t f=>?_
  cases d with
  |int k=>
   dsimp only at f
   split at f
   ·exact nn f
   ·rename_i hb;cases f;unfold M.big at hb;simp only[Qxt,decide_eq_true_eq]at hb;refine rsI (d:=[.int k]) (st':=st') u S0 ?_ λxs m1 H1 b1 o g i1=>?_
    ·show(((?G).ev τ st a).bind λp=>(Y (([]:Z D),p.2)).bind λq=>Y (p.1::q.1,q.2))=_;rw[t]; rfl
    ·obtain⟨x,rfl,r⟩:=i1.one;cases r.int;exact⟨k,rfl,?q,?q,q m1 H1 _ b1 o g rfl⟩
  |_=>exact nn f
 |@rng2 _ a b Q pb p0 pos z ha hb=>
  refine(qdn (G.gl z) ?q3 (qzo A G (.cons ha (.cons hb .nil))) (by rw[ha.star,hb.star]; rfl) (by rw[hb.star]; rfl)).imp λσ H R q=>?_;refine q.el λm st τ s st' u S0 f q=>qzk f λd v t f=>qzk f λV U I f=>?_;dsimp only at f
  split at f
  ·rename_i i j _
   split at f
   ·exact nn f
   ·rename_i hb;cases f;unfold M.big at hb;simp only[Qxt,decide_eq_true_eq]at hb;refine rsI (d:=[.int i,.int j]) (st':=st') u S0 ?_ λxs m1 H1 b1 o g i1=>?_
    ·show(((?G).ev τ st a).bind λp=>(((?G).ev τ p.2 b).bind λp=>(Y (([]:Z D),p.2)).bind λq=>Y (p.1::q.1,q.2)).bind λq=>Y (p.1::q.1,q.2))=_;rw[t];show(((?G).ev τ v b).bind λp=>(Y (([]:Z D),p.2)).bind λq=>Y (p.1::q.1,q.2)).bind _=_;rw[I]; rfl
    ·obtain⟨x,y,rfl,r,K⟩:=i1.two;cases r.int;cases K.int;exact⟨i,j,rfl,⟨?q,?q,?q,?q⟩,q m1 H1 _ b1 o g rfl⟩
  ·exact nn f
 |@zip ts k tp a b Q pb p0 pos z ha hb=>
  refine(pi_zip (G.gl z) ?q3 (qzo A G (.cons ha (.cons hb .nil))) (by rw[ha.star,hb.star]; rfl) (by rw[hb.star]; rfl)).imp λσ H R q=>?_;obtain⟨m,st,τ,s,st',u,S0,f,q⟩:=q;refine qzk f λd v t f=>qzk f λV U I f=>qzx f λds F f=>qzd f λes e5 T=>?_;cases T;refine rsI (d:=[d,V]) (st':=U) u S0 ?_ λxs m1 H1 b1 o g i1=>?_
  ·show(((?G).ev τ st a).bind λp=>(((?G).ev τ p.2 b).bind λp=>(Y (([]:Z D),p.2)).bind λq=>Y (p.1::q.1,q.2)).bind λq=>Y (p.1::q.1,q.2))=_;rw[t];show(((?G).ev τ v b).bind λp=>(Y (([]:Z D),p.2)).bind λq=>Y (p.1::q.1,q.2)).bind _=_;rw[I]; rfl
  ·obtain⟨x,y,rfl,r,K⟩:=i1.two;obtain⟨k1,P,rfl,h1,w1⟩:=qvw r g F;obtain⟨k2,W,rfl,h2,w2⟩:=qvw K g e5;exact⟨k1,k2,P,W,rfl,w1,w2,q m1 H1 _ b1 o g ⟨k1,k2,P,W,rfl,h1,h2⟩⟩
 |@enu ts k tp a Q p0 pos z ha=>
  refine(qnm (G.gl z) ?q3 (qzo A G (.cons ha .nil)) (by rw[ha.star]; rfl)).imp λσ H R q=>?_;refine q.el λm st τ s st' u S0 f q=>qzk f λd v t f=>qzd f λds F T=>?_;cases T;refine rsI (d:=[d]) (st':=v) u S0 ?_ λxs m1 H1 b1 o g i1=>?_
  ·show(((?G).ev τ st a).bind λp=>(Y (([]:Z D),p.2)).bind λq=>Y (p.1::q.1,q.2))=_;rw[t]; rfl
  ·obtain⟨x,rfl,r⟩:=i1.one;obtain⟨k1,P,rfl,h1,w1⟩:=qvw r g F;exact⟨k1,P,rfl,w1,q m1 H1 _ b1 o g ⟨k1,P,rfl,h1⟩⟩
 |@rev _ a Q p0 pos z ha=>
  refine(pi_rev (G.gl z) ?q3 (qzo A G (.cons ha .nil)) (by rw[ha.star]; rfl)).imp λσ H R q=>?_;refine q.el λm st τ s st' u S0 f q=>qzk f λd v t f=>?_
  cases d with
  |tup ds=>
   cases f;refine rsI (d:=[.tup ds]) (st':=v) u S0 ?_ λxs m1 H1 b1 o g i1=>?_
   ·show(((?G).ev τ st a).bind λp=>(Y (([]:Z D),p.2)).bind λq=>Y (p.1::q.1,q.2))=_;rw[t]; rfl
   ·obtain⟨x,rfl,r⟩:=i1.one;obtain⟨a,xs,rfl,w,K⟩:=r.tup;exact⟨a,xs,rfl,w,q m1 H1 _ b1 o g ⟨a,xs,rfl,w,K⟩⟩
  |_=>exact nn f
 |@seq _ e p S=>
  exact seq S (qdk (CkN.plain S) _)
def po_ok(A:AllOk fns dl n)(G:Good fns dl c X)(h:CkO (CkN j c) o p):PO X p (λσ H Q=>∃m st τ l st',Rel X.K m st H/\SlotOk X.K m H τ σ/\M.part ?G τ st o=Y (l,st')/\∀m' H',Sub m m'->Tr H H'->Rel X.K m' st' H'->Q l H'):=by
 cases h with
 |none=>
  intro pins s σ H Q I q;obtain⟨m,st,τ,l,st',a,S0,e,k⟩:=q;cases e;exact qni pins s σ H Q I (k m H ?N (Tr.refl H) a)
 |@some e p h=>
  intro pins s σ H Q I q;obtain⟨m,st,τ,l,st',a,S0,u,k⟩:=q;refine qzk u λd x r f=>?_
  cases d with
  |int i=>
   cases f;exact qnh (A.e c X G e p h) pins s σ H Q I (rsI a S0 r λv m' H' b t w g=>⟨i,g.int,k m' H' b t w⟩)
  |_=>exact nn f
abbrev gIs:Z Y0->TGs
 |[]=>gNil
 |i::is=>gCons (qyh i) (gIs is)
abbrev gT(K:Qqq):T->TG
 |.var i=>qyh i
 |.tup is=>gTup K is.length (gIs is)
theorem ql0{K:Qqq}:∀{is}{ds}{xs}{τ a}{f},IsDs K m H ds xs->SlotOk K m H τ f->M.setIs is ds τ=Y a->(∀b,SlotOk K m H a b->Q b H)->gIs is xs f H Q
 |[],[],xs,τ,a,f,g,S0,e,k=>by
  cases e;exact⟨g.nil,k f S0⟩
 |i::is,d::ds,xs,τ,a,f,g,S0,e,k=>by
  obtain⟨x,r,rfl,q,t⟩:=g.cons;unfold M.setIs at e
  split at e
  ·exact⟨x,r,rfl,ql0 t (S0.put q) e k⟩
  ·exact nn e
 |[],_::_,_,_,_,_,_,_,e,_=>by cases e
 |_::_,[],_,_,_,_,_,_,e,_=>by cases e
theorem qvs:∀{is}{ds}{τ a},M.setIs is ds τ=Y a->is.length=ds.length
 |[],[],_,_,_=>rfl
 |i::is,d::ds,τ,a,e=>by
  unfold M.setIs at e
  split at e
  ·rw[Qqm,Qqm,qvs e]
  ·exact nn e
 |[],_::_,_,_,e=>by cases e
 |_::_,[],_,_,e=>by cases e
def qik{K:Qqq}(h:IsD K m H d v)(l:SlotOk K m H τ f)(e:M.setT t d τ=Y τ')(k:∀b,SlotOk K m H τ' b->Q b H):gT K t v f H Q:=by
 cases t with
 |var i=>
  have e:(if i<τ.length then Y (τ.set i (Y d)) else B)=Y τ':=e
  split at e
  ·cases e;exact k _ (l.put h)
  ·exact nn e
 |tup p=>
  cases d with
  |tup ds=>
   obtain⟨a,xs,rfl,o,g⟩:=h.tup;exact⟨a,xs,rfl,o,by rw[<- g.length,qvs e],ql0 g l e k⟩
  |_=>exact nn e
def qjd(G:Good fns dl c X){i:Y0}(h:c.N[i]?=Y x):X.N[i]?=Y x:=by rw[G.N]; exact h
def qgj:Qy ("any" : Y4)=Y (.builtin "any"):=by decide +kernel
def qgk:Qy ("all" : Y4)=Y (.builtin "all"):=by decide +kernel
def qgx:Qy ("int" : Y4)=Y (.type "int"):=by decide +kernel
def qcb:Qy ("bool" : Y4)=Y (.type "bool"):=by decide +kernel
def qf8:Qy ("str" : Y4)=Y (.type "str"):=by decide +kernel
def qws:Qy ("isinstance" : Y4)=Y (.builtin "isinstance"):=by decide +kernel
def qwp:Qy ("sorted" : Y4)=Y (.builtin "sorted"):=by decide +kernel
def qf9:Qy ("set" : Y4)=Y (.type "set"):=by decide +kernel
def qwr:Qy ("len" : Y4)=Y (.builtin "len"):=by decide +kernel
def qgz:Qy ("min" : Y4)=Y (.builtin "min"):=by decide +kernel
def qgq:Qy ("max" : Y4)=Y (.builtin "max"):=by decide +kernel
def qk1:Qy ("list" : Y4)=Y (.type "list"):=by decide +kernel
def qca:Qy ("dict" : Y4)=Y (.type "dict"):=by decide +kernel
def qkx:Qy ("tuple" : Y4)=Y (.type "tuple"):=by decide +kernel
def ty_ok(G:Good fns dl c X){t:M.Ty}(b:t≠.non)(a:c.sc.names.lookup (Str.ofString t.name)=Y .globalImplicit):PE X (.Name (Str.ofString t.name) pos) (tC (.ty t.name)):=by
 cases t with
 |non=>exact absurd rfl b
 |bl=>exact qjp (G.gl a) ?q3 qcb rfl ?c ?c
 |int=>exact qjp (G.gl a) ?q3 qgx rfl ?c ?c
 |str=>exact qjp (G.gl a) ?q3 qf8 rfl ?c ?c
 |tup=>exact qjp (G.gl a) ?q3 qkx rfl ?c ?c
 |lst=>exact qjp (G.gl a) ?q3 qk1 rfl ?c ?c
abbrev tCs:Z V->TA
 |[]=>tNil
 |v::vs=>qmo (tC v) (tCs vs)
theorem qc7:∀(vs:Z V) (a:L2.St) (H:Hp) (Q:Z V->Hp->Prop),Q vs H->tCs vs a H Q
 |[],_,_,_,h=>h
 |v::vs,a,H,Q,h=>qc7 vs a H (λxs H2=>Q (v::xs) H2) h
theorem qi0(G:Good fns dl c X):∀{a}{ps},CkTys c a ps->PA X ps (tCs (a.map λt=>V.ty t.name))/\∀t∈a,t≠.non
 |_,_,.nil=>⟨pa_nil,λ_ h=>nomatch h⟩
 |_,_,.cons b e h=>by
  obtain⟨h1,h2⟩:=qi0 G h;refine⟨qql (ty_ok G b e) h1 rfl,λt d=>?_⟩;rcases Qqc.mp d with z|z
  ·rw[z]; exact b
  ·exact h2 t z
end
section
variable {fns:Z Fn}{dl n j:Y0}{c:Ctx}{X:Cx}
def qmw:UnR X (unaryOp .USub) (rU1 X.K λst d=>match d with|.int i=>Y (.int (-i),st)|_=>B):=by
 intro pins s σ H x v Q I b h;refine h.el λm st a d st' f i1 e q=>?_
 cases a with
 |int i=>
  have q:=q.of e;exact un_neg pins s σ H x v Q I b ⟨i,i1.int,q.here f (mkInt _)⟩
 |_=>exact nn e
def qkt(G:Good fns dl c X)(h:CpOk c scope sr N e t):CompScope X N sr scope:=
 ⟨h.kind,h.cell,λy f hf=>by
  have:=h.free y f hf;show X.env.scope.names.lookup y.1=_\/X.env.scope.names.lookup y.1=_;rw[G.sc]; exact this,h.loc,h.len,λj i q=>by
  obtain⟨x,a,b,d⟩:=h.src j i q
  exact⟨x,a,qjd G b,d⟩⟩
abbrev tOpt(K:Qqq)(r:R):Y2 E->TT
 |none=>λ_ H Q=>Q L H
 |some c=>tTs K λτ st=>r.tst τ st c
def qi2(A:AllOk fns dl n)(G:Good fns dl c X)(h:CkO (CkN j c) q a):qce X a.toList (tOpt X.K ?G q):=by
 cases h with
 |none=>exact qgu
 |some h=>exact qgt (A.t _ _ G _ _ h)
def qh8{K:Qqq}(sr)(h:SlotOk K m H τ f):SlotOk K m H (M.inner sr τ) (qqu sr f):=by
 refine⟨by unfold M.inner qqu; rw[Qqz,Qqz],λj d e=>?_⟩;unfold M.inner at e;rw[Qqv]at e;unfold qqu;rw[Qqv]
 cases q:sr[j]? with
 |none=>rw[q]at e; cases e
 |some o=>
  rw[q]at e
  cases o with
  |none=>cases e
  |some i=>
   have hi:τ[i]?=Y (Y d):=by
    cases z:τ[i]? with
    |none=>simp[z]at e
    |some w=>
     cases w with
     |none=>simp[z]at e
     |some w=>simpa[z] using e
   obtain⟨v,a,b⟩:=h.at_ i d hi;refine⟨v,?_,b⟩;simp[a]
def comp_W{K:Qqq}{Q:VK}(R1:Rel K I G N)(hJ:IsSrc K I N s Jq)(S1:SlotOk K I N C P)(e2:M.loopC s (M.turnC r t q elt) k0 0 [] C G=Y u)(a2:∀l H' a,Sub I l->Tr N H'->Rel K l u.2 H'->IsDs K l H' u.1 a->∀S,H' S=B->Q (.ref S) (upd H' S (.lst a))):
  ∃W:Y0->Y0->Z V->L2.St->Hp->Prop,(∃k,W 0 k [] P N)/\
 ∀i k a f H',W i k a f H'->(Jq.stop i H'/\a.length<=sizeLine/\∀p,H' p=B->Q (.ref p) (upd H' p (.lst a)))\/(Jq.go i H'/\a.length<sizeLine/\∀x H2,Jq.yld i H' x H2->gT K t x f H2 λm H3=>tOpt K r q m H3 λb H4=>
  if b=L then tD K (λτ st=>r.ev τ st elt) m H4 λv H5=>∃U,U<k/\W (i+1) U (a++[v]) m H5 else ∃U,U<k/\W (i+1) U a m H4):=by
 refine⟨λi' k a f H'=>∃l F A d,Sub I l/\Tr N H'/\Rel K l F H'/\SlotOk K l H' A f/\IsDs K l H' d a/\M.loopC s (M.turnC r t q elt) k i' d A F=Y u,
  ⟨_,I,G,C,[],Sub.refl _,Tr.refl _,R1,S1,qqk,e2⟩,?_⟩
 rintro j k a f H' ⟨l,F,A,d,b2,w,R2,S2,H,e⟩
 cases k with
 |zero=>exact nn e
 |succ k=>
  have e:=e;refine qzx e λo e5 e=>?_;have l1:=H.length;have l2:=qqy
  cases o with
  |none=>
   dsimp only at e
   split at e
   ·exact nn e
   ·rename_i hl;cases e;refine .inl ⟨(hJ.mono b2 w).done R2 e5,?d,λS hp=>?_⟩;exact a2 l H' a b2 w R2 H S hp
  |some d'=>
   dsimp only at e
   split at e
   ·exact nn e
   ·rename_i hl;obtain⟨a1,hy⟩:=(hJ.mono b2 w).next R2 e5;refine .inr ⟨a1,?d,λx H2 a0=>?_⟩;obtain⟨sm,ix⟩:=hy x H2 a0;have w:=w.trans ?qw;have R2:=R2.same sm;have S2:=S2.mono (Sub.refl _) ?qw;have H:=qzc (Sub.refl _) ?qw _ _ H;refine qzx e λz h e=>?_;unfold M.turnC at h;refine qzx h λa4 e7 h=>qik ix S2 e7 λa5 S3=>?_
    ·cases q with
     |none=>
      unfold tOpt;dsimp only at h ⊢;refine qzd h λy e8 e9=>?_;cases e9;rw[Z9 rfl];refine rsI R2 S3 e8 λv m3 H3 b3 g R3 i3=>⟨k,Qzp k,m3,y.2,_,d++[y.1],b2.trans b3,w.trans g,R3,S3.mono b3 g,(qzc b3 g _ _ H).append (qzn i3 qqk),e⟩
     |some cq=>
      unfold tOpt;refine qzx h λbb e8 h=>rsI R2 S3 e8 λm3 H3 b3 g R3=>?_
      cases hb:bb.1 with
      |true=>
       rw[hb,Z9 rfl]at h;rw[Z9 rfl];refine qzd h λy e9 a3=>?_;cases a3;refine rsI R3 (S3.mono b3 g) e9 λv m4 H4 b4 t4 R4 i4=>⟨k,Qzp k,m4,y.2,_,d++[y.1],b2.trans (b3.trans b4),w.trans (g.trans t4),R4,S3.mono (b3.trans b4) (g.trans t4),(qzc (b3.trans b4) (g.trans t4) _ _ H).append (qzn i4 qqk),e⟩
      |false=>
       rw[hb,Z8 Qzx]at h;cases h;rw[Z8 Qzx];exact⟨k,Qzp k,m3,bb.2,_,d,b2.trans b3,w.trans g,R3,S3.mono b3 g,qzc b3 g _ _ H,e⟩
def qc4{K:Qqq}(h:tD K (λτ st=>M.stepEv r τ st (.comp t it q elt sr)) b H Q):
  qmp sr (tI K λτ st=>M.src r τ st it) (gT K t) (tOpt K r q) (tD K λτ st=>r.ev τ st elt) b H Q:=by
 refine h.el λm st τ d st' A S0 e a=>?_;have e:=e;refine qzx e λp x e=>qzd e λk w v=>rsI A S0 x λm1 H1 C b1 f z u=>comp_W z u (qh8 sr (S0.mono b1 f)) w λo H' y b2 i R2 s l g=>?_;cases v;exact a _ (o++[l]) _ (b1.trans (b2.trans (Sub.app _ _))) (f.trans (i.trans (Tr.of_same (qza g)))) (R2.new g s) R2.newLoc
theorem qkg(G:Good fns dl c X):∀{is}{es},CkTs c is es->(∀i∈is,∀x,c.N[i]?=Y x->X.fn x=L\/c.sc.names.lookup x=Y .local)->PGs X es (gIs is)/\(Q0 es X.env).length=is.length/\(Q0 es X.env).findIdx? (·.1)=B
 |_,_,.nil,_=>⟨qno,rfl,rfl⟩
 |_,_,.cons (i:=i) (x:=x) (pos:=pos) (is:=is) (es:=es) a hl h,hf=>by
  obtain⟨h1,h2,d⟩:=qkg G h λj hj=>hf j (Qq6 _ hj);have b:PG X (.Name x pos) (qyh i):=qdp (by rw[G.N]; exact G.nd) (qjd G a) (by rw[G.sc]; exact hl) (by rw[G.sc]; exact hf i Qzk x a);refine⟨qhh b h1 rfl,?_,?_⟩
  ·show(Q0 es X.env).length+1=is.length+1;rw[h2]
  ·show List.findIdx? (·.1) ((Y6,assign (.Name x pos) X.env)::Q0 es X.env)=B;rw[List.findIdx?_cons,d]
   rfl
def qqi(G:Good fns dl c X)(h:CkT c t tg)(hf:∀i∈t.slots,∀x,c.N[i]?=Y x->X.fn x=L\/c.sc.names.lookup x=Y .local):PG X tg (gT X.K t):=by
 cases h with
 |@var i x pos a hl=>exact qdp (by rw[G.N]; exact G.nd) (qjd G a) (by rw[G.sc]; exact hl) (by rw[G.sc]; exact hf i (by simp[T.slots]) x a)
 |@tup d es k pos h=>
  obtain⟨h1,h2,b⟩:=qkg G h hf;exact pg_tup G.calm h1 h2 b
abbrev qme(r:R)(K:Qqq):Z E->Z (TE×TE)
 |k::v::es=>(tD K λτ st=>r.ev τ st k,tD K λτ st=>r.ev τ st v)::qme r K es
 |_=>[]
abbrev twos:Z V->Z (V×V)
 |x::y::r=>(x,y)::twos r
 |_=>[]
theorem qv4(A:AllOk fns dl n)(G:Good fns dl c X):∀{es}{ks}{vs},CkP (CkN j c) es ks vs->PPs X pos ks vs (qme ?G X.K es)/\ks.all (·.isSome)=L/\ks.length=vs.length
 |_,_,_,.nil=>⟨qng,rfl,rfl⟩
 |_,_,_,.cons hk hv t=>by
  obtain⟨h1,h2,a⟩:=qv4 A G t;refine⟨qhd (A.e c X G _ _ hk) (A.e c X G _ _ hv) h1,?_,?_⟩
  ·rw[Qz4,h2]; rfl
  ·rw[Qqm,Qqm,a]
theorem qv3{K:Qqq}:∀{es}{ks}{vs}{c}{m}{st st'}{H}{τ}{b}{ds}{Q},CkP (CkN j c) es ks vs->Rel K m st H->SlotOk K m H τ b->M.evs (r.ev τ) es st=Y (ds,st')->
  (∀xs m' H',Sub m m'->Tr H H'->Rel K m' st' H'->IsDs K m' H' ds xs->Q (twos xs) H')->qy3 (qme r K es) b H Q
 |_,_,_,c,m,st,st',H,τ,b,ds,Q,.nil,h,S0,e,q=>by
  cases e;exact q [] m H ?N (Tr.refl H) h qqk
 |_,_,_,c,m,st,st',H,τ,b,ds,Q,.cons hk hv t,h,S0,e,q=>by
  have e:=e;refine qzk e λd1 C p e=>qzx e λw a e=>qzk a λd2 A o a=>qzx a λu l a=>?_;cases a;cases e;exact rsI h S0 p λx m1 H1 b1 g v i1=>rsI v (S0.mono b1 g) o λy F H2 b2 f R2 i2=>qv3 t R2 (S0.mono ?qs (g.trans f)) l λxs i z b3 d s k=>q (x::y::xs) i z ?X (g.trans (f.trans d)) s (qzn (qzb (b2.trans b3) (f.trans d) _ _ i1) (qzn (qzb b3 d _ _ i2) k))
theorem qay{K:Qqq}:∀{ds}{xs}{kvs},IsDs K m H ds xs->M.pairUp ds=Y kvs->∃ys:Z (Key×V),IsKV K m H kvs ys/\twos xs=ys.map λkv=>(kV kv.1,kv.2)
 |[],xs,kvs,b,e=>by
  cases e;rw[b.nil];exact⟨[],rfl,rfl⟩
 |[d],xs,kvs,b,e=>by cases e
 |d::d'::ds,xs,kvs,b,e=>by
  have e:(if M.isKey d then(M.pairUp ds).map ((d,d')::·) else B)=Y kvs:=e
  split at e
  ·rename_i hk;refine qzd e λq o l=>?_;subst l;obtain⟨x,p,rfl,i1,i2⟩:=b.cons;obtain⟨y,f,rfl,h,g⟩:=i2.cons;obtain⟨k,a⟩:=qqt hk;have i:=qor a i1;subst i;obtain⟨ys,h1,h2⟩:=qay g o;refine⟨(k,y)::ys,⟨k,y,ys,rfl,a,h,h1⟩,?_⟩;show(kV k,y)::twos f=_;rw[h2]
   rfl
  ·exact nn e
def qjh{K:Qqq}(h:tD K (λτ st=>M.stepEv r τ st (.meth a k es)) i H Q):
  tBM K "list" (λx xs H Q=>∃m st a ds d st',Rel K m st H/\IsD K m H a x/\IsDs K m H ds xs/\M.mfun st k a ds=Y (d,st')/\Post K m H d st' Q) (tD K λτ st=>r.ev τ st a) (tL K λτ st=>M.evs (r.ev τ) es st) i H Q:=by
 refine h.el λm st τ d st' A S0 b e=>qzk b λd1 t z b=>?_
 split at b
 ·rename_i f;refine qzx b λq y b=>rsI A S0 z λv m1 H1 b1 p s i1=>⟨?_,rsI s (S0.mono b1 p) y λxs u H2 b2 o R2 i2=>⟨u,q.2,d1,q.1,d,st',R2,qzb b2 o _ _ i1,i2,b,e.mono ?qs (p.trans o)⟩⟩
  have hs:∃ds,M.seqAt t d1=Y ds:=by
   cases d1 with
   |loc l=>exact Qxz.mp ((Bool.true_and _).symm.trans f)
   |lst l=>exact Qxz.mp ((Bool.true_and _).symm.trans f)
   |_=>cases f
  obtain⟨ds,g⟩:=hs;obtain⟨C,xs,_,rfl,w,_⟩:=s.seq g i1;exact .inl ⟨rfl,xs,w⟩
 ·exact nn b
def e_ok(A:AllOk fns dl n)(G':Good fns dl c X)(h:CkN j c e p):PE X p (tD X.K λτ st=>M.stepEv ?G τ st e):=by
 have G:=G';have hu:=G'.room.units
 cases j with
 |zero=>cases h
 |succ j=>
 cases h with
 |gc hs hq S W ha=>exact(pe_gc (A.e (j:=j+1) c X G _ _ (.of hs hq ha))).imp λ_ _ _ h=>h
 |of hs hq h=>
 clear hs hq
 cases h with
 |nm h=>
  cases h with
  |@var i x hN hv hd c5=>
  refine(pe_var (qjd G hN) (by rw[G.sc]; exact hv) hd c5).imp λσ H Q h=>?_;refine h.el λm st τ d st' I S0 e q=>?_;simp only[M.stepEv]at e
  split at e
  ·rename_i d' c4;cases e;obtain⟨v,a,b⟩:=S0.at_ i d c4;exact⟨v,a,q.here I b⟩
  ·exact nn e
  |@glo x d W hm hd=>
  obtain⟨u,v,h1,h2,h3⟩:=G.mo.glo _ _ hm;exact(qyx (G.gl W) h1 h2 hd).imp λσ H Q h=>h.el λm st τ d st' I S0 e q=>by cases e; exact q.here I (h3 m H)
 |int=>exact pe_int.imp λσ H Q h=>h.el λm st τ d st' I S0 e q=>by cases e; exact q.here I (mkInt _)
 |bl=>exact pe_bl.imp λσ H Q h=>h.el λm st τ d st' I S0 e q=>by cases e; exact q.here I (mkBl _)
 |non=>exact pe_non.imp λσ H Q h=>h.el λm st τ d st' I S0 e q=>by cases e; exact q.here I qvj
 |str=>exact pe_str.imp λσ H Q h=>h.el λm st τ d st' I S0 e q=>by cases e; exact q.here I (mkStr _)
 |@bin op a b R pb pos ha hb=>
  exact(pe_op (qok op) ?T ?ql).imp λσ H Q h=>qc5 h
 |@lenset a R p0 p1 c8 pos W hs ha=>
  refine(qz2 qf1 (G.gl W) ?q3 qwr (qql (qxq (qfp G.room.hd G.room.units) (G.gl hs) ?q3 qf9 (qql ?T pa_nil (ha.star _ _)) ?c ?c (ha.star _ _) rfl) pa_nil rfl) ?c ?c rfl rfl).imp λσ H Q h=>?_;refine h.el λm st τ d st' I S0 e g=>qzk e λd1 s1 T e=>qzd e λd2 e2 e3=>?_;cases e3;refine rsI I S0 T λx m1 H1 b1 K P ix=>?_
  cases d1 with
  |tup ds=>
   obtain⟨ks,k1,k2⟩:=Option.bind_eq_some_iff.mp (e2)
   split at k2
   ·rename_i b0;cases k2;obtain⟨pt,ys,rfl,hq,iy⟩:=ix.tup;refine⟨pt,ys,ks,rfl,hq,qeg iy k1,by rw[<- iy.length]; exact b0.1,b0.2,λl hl=>?_⟩;refine⟨l,_,rfl,qzw,?_⟩;have sm:=qza (o:=setO l ks.length) hl;exact g _ m1 _ b1 (K.trans ?qw) (P.same sm) (mkInt _)
   ·exact nn k2
  |_=>exact nn e2
 |@neg a R pos ha=>
  exact(pe_un qmw ?T).imp λσ H Q h=>tD_un h
 |@not a R pos ha=>
  refine(pe_not ?T).imp λσ H Q h=>h.el λm st τ d st' I S0 e q=>qzk e λd1 s1 T e=>rsI I S0 T λv m1 H1 b1 K P i1=>?_
  cases d1 with
  |bl k=>
   have q:=q.of e;exact⟨k,i1.bl,q _ m1 H1 b1 K P (mkBl _)⟩
  |_=>exact nn e
 |@cmp op a b R pb pos ha hb=>
  exact(qn3 (qxm hu op) ?T ?ql (qbo hb.sh _)).imp λσ H Q h=>qc5 h
 |@cmp2 op b6 a b d R pb pd pos ha hb hd=>
  refine(qhr (qxm hu op) (qxm hu b6) ?T ?ql (A.e c X G d pd hd) (qbo hd.sh _)).imp λσ H Q h=>h.el λm st τ dd st' I S0 e q=>qzk e λd1 s1 T e=>qzk e λd2 s2 e2 e=>qzx e λk e3 e=>rsI I S0 T λx m1 H1 b1 K P i1=>rsI P (S0.mono b1 K) e2 λy m2 H2 b2 t2 R2 i2=>
   ⟨m2,s2,d1,d2,.bl k,s2,R2,qzb b2 t2 _ _ i1,i2,by show Option.map _ (M.cmpD s2 op d1 d2)=_; rw[e3]; rfl,λz m3 H3 b3 t3 R3 i3=>⟨k,i3.bl,?_⟩⟩
  cases k with
  |true=>
   rw[Z9 rfl]at e ⊢;exact qzk e λd3 s3 e4 e=>rsI R3 (S0.mono ?X (K.trans (t2.trans t3))) e4 λy' m4 H4 b4 t4 R4 i4=>
    ⟨m4,s3,d2,d3,dd,st',R4,qzb (b3.trans b4) (t3.trans t4) _ _ i2,i4,e,q.mono (b1.trans (b2.trans (b3.trans b4))) (K.trans (t2.trans (t3.trans t4)))⟩
  |false=>
   rw[Z8 Qzx]at e ⊢;have q:=q.of e;exact q _ m3 H3 ?X (K.trans (t2.trans t3)) R3 (mkBl _)
 |@and a b R pb r pos ha hb=>
  have hb:PE X (.BoolOp .And (pb::r) pos) (tD X.K λτ st=>(?G).ev τ st b):=by
   cases r with
   |nil=>exact qla ?ql
   |cons=>exact A.e c X G b _ hb
  refine(pe_and ?T hb).imp λσ H Q h=>h.el λm st τ d st' I S0 e q=>qzk e λd1 s1 T e=>rsI I S0 T λv m1 H1 b1 K P i1=>?_
  cases d1 with
  |bl k=>
   cases k with
   |true=>exact⟨L,i1.bl,rsI P (S0.mono b1 K) e (q.mono b1 K)⟩
   |false=>cases e; exact⟨Y6,i1.bl,q _ m1 H1 b1 K P (mkBl _)⟩
  |_=>exact nn e
 |@or a b R pb r pos ha hb=>
  have hb:PE X (.BoolOp .Or (pb::r) pos) (tD X.K λτ st=>(?G).ev τ st b):=by
   cases r with
   |nil=>exact qla ?ql
   |cons=>exact A.e c X G b _ hb
  refine(pe_or ?T hb).imp λσ H Q h=>h.el λm st τ d st' I S0 e q=>qzk e λd1 s1 T e=>rsI I S0 T λv m1 H1 b1 K P i1=>?_
  cases d1 with
  |bl k=>
   cases k with
   |false=>exact⟨Y6,i1.bl,rsI P (S0.mono b1 K) e (q.mono b1 K)⟩
   |true=>cases e; exact⟨L,i1.bl,q _ m1 H1 b1 K P (mkBl _)⟩
  |_=>exact nn e
 |@ite q a b pq R pb pos hq ha hb=>
  refine(qhm (A.t c X G q pq hq) ?T ?ql).imp λσ H Q h=>h.el λm st τ d st' I S0 e g=>qzx e λbb T e=>rsI I S0 T λm1 H1 b1 K P=>?_
  cases hb:bb.1 with
  |true=>
   rw[hb,Z9 rfl]at e;rw[Z9 rfl];exact rsI P (S0.mono b1 K) e (g.mono b1 K)
  |false=>
   rw[hb,Z8 Qzx]at e;rw[Z8 Qzx];exact rsI P (S0.mono b1 K) e (g.mono b1 K)
 |@tup es ps k pos hs=>
  refine(qly (qzo A G hs)).imp λσ H Q h=>h.el λm st τ d st' I S0 e g=>qzx e λp T e=>?_
  split at e
  ·exact nn e
  ·rename_i hl;have g:=g.of e;refine rsI I S0 T λxs m1 H1 b1 K P ix=>?_;have l1:=ix.length;have l2:=qqy;refine⟨?d,λpp S=>?_⟩;have sm:=qza (o:=.tup xs) S;exact g _ m1 _ b1 (K.trans ?qw) (P.same sm) (qq2 (SqT.of qzw) (qzc (Sub.refl _) ?qw _ _ ix))
 |@lst es ps pos hs=>
  refine(pe_lst (qzo A G hs)).imp λσ H Q h=>h.el λm st τ d st' I S0 e g=>qzx e λp T e=>?_
  split at e
  ·exact nn e
  ·rename_i hl;have g:=g.of e;refine rsI I S0 T λxs m1 H1 b1 K P ix=>?_;have l1:=ix.length;have l2:=qqy;refine⟨?d,λpp S=>?_⟩;exact g _ (m1++[pp]) _ (b1.trans (Sub.app _ _)) (K.trans (Tr.of_same (qza S))) (P.new S ix) P.newLoc
 |@idx a b R pb pos ha hb=>
  exact(pe_ix ix_D ?T ?ql (qm5 hb.sh)).imp λσ H Q h=>qc5 h
 |@call f x es p ps p0 pos W hf hd hn hs=>
  obtain⟨fa,fd,a0,hm,F,hk,hb⟩:=G'.tab f x hf;have S:Star p:=by cases hs with|cons h _=>exact h.star
  have U:(backTo pos (starEach ps X.env)).any (·.1)=false:=by cases hs with|cons _ t=>exact qq1 t pos X.env
  refine(qn4 F (G.room.mono ?d) (G.gl W) (hm.1 hn) hk hb .nil qhs (qzo A G hs) hd (S _ _) U).imp λσ H Q h=>?_;refine h.el λm st τ d st' I S0 e g=>qzx e λq T e=>rsI I S0 T λxs m1 H1 b1 K P ix=>?_;show spN X.K fns dl f (xs++[]) H1 Q E0;have e:=e;rw[M.runK_call]at e;rw[Qqs];exact⟨m1,q.2,q.1,d,st',P,ix,e,g.mono b1 K⟩
 |@bcall b es p ps p0 pos W d5 hs=>
  have S:Star p:=by cases hs with|cons h _=>exact h.star
  have U:(backTo pos (starEach ps X.env)).any (·.1)=false:=by cases hs with|cons _ t=>exact qq1 t pos X.env
  have hA:=qzo A G hs
  cases b with
  |len=>exact(qz2 qf2 (G.gl W) ?q3 qwr hA ?c ?c (S _ _) U).imp λσ H Q h=>qqc h
  |min=>exact(qz2 (qfs G.calm) (G.gl W) ?q3 qgz hA ?c ?c (S _ _) U).imp λσ H Q h=>qqc h
  |dict=>exact(qxq (qcy G.room.hd) (G.gl W) ?q3 qca hA ?c ?c (S _ _) U).imp λσ H Q h=>qqc h
  |max=>exact(qz2 (qfu G.calm) (G.gl W) ?q3 qgq hA ?c ?c (S _ _) U).imp λσ H Q h=>qqc h
  |tuple=>exact(qxq qyr (G.gl W) ?q3 qkx hA ?c ?c (S _ _) U).imp λσ H Q h=>qqc h
  |list=>exact(qxq (qcv G.room.hd) (G.gl W) ?q3 qk1 hA ?c ?c (S _ _) U).imp λσ H Q h=>qqc h
  |any=>exact(qz2 (qf5 G.calm) (G.gl W) ?q3 qgj hA ?c ?c (S _ _) U).imp λσ H Q h=>qqc h
  |all=>exact(qz2 (qf6 G.calm) (G.gl W) ?q3 qgk hA ?c ?c (S _ _) U).imp λσ H Q h=>qqc h
  |sorted=>exact(qz2 (qwo G.room.hd) (G.gl W) ?q3 qwp hA ?c ?c (S _ _) U).imp λσ H Q h=>qqc h
 |@isi1 t a R p0 p1 pos W U c2 ha=>
  refine(qz2 (qf4 t U) (G.gl W) ?q3 qws (qql ?T (qql (ty_ok G U c2) pa_nil rfl) (ha.star _ _)) ?c ?c (ha.star _ _) rfl).imp λσ H Q h=>?_;refine h.el λm st τ d st' I S0 e g=>qzk e λd1 s1 T e=>qzd e λnm e2 e3=>?_;cases e3;refine rsI I S0 T λx m1 H1 b1 K P ix=>⟨m1,s1,d1,nm,x,rfl,P,ix,e2,g _ m1 H1 b1 K P ?_⟩
  have:([t].any λt=>M.tyIs t nm)=M.tyIs t nm:=by simp
  rw[this];exact mkBl _
 |@isiN ts a R p0 ps k p1 pos a6 W U ha=>
  obtain⟨h1,h2⟩:=qi0 G U;refine(qz2 (qf3 ts h2) (G.gl W) ?q3 qws (qql ?T (qql (qly h1) pa_nil rfl) (ha.star _ _)) ?c ?c (ha.star _ _) rfl).imp λσ H Q h=>?_;refine h.el λm st τ d st' I S0 e g=>qzk e λd1 s1 T e=>qzd e λnm e2 e3=>?_;cases e3;refine rsI I S0 T λx m1 H1 b1 K P ix=>qc7 _ σ H1 _ ⟨?_,λpp S=>?_⟩
  ·rw[Qqz];exact Qjj (qdy a6)
  ·have sm:=qza (o:=.tup (ts.map λt=>V.ty t.name)) S;exact⟨m1,s1,d1,nm,x,pp,rfl,qzw,P.same sm,qzb (Sub.refl _) ?qw _ _ ix,e2,g _ m1 _ b1 (K.trans ?qw) (P.same sm) (mkBl _)⟩
 |@meth a k es R p ps apos cpos ha hs hn hl=>
  have S:Star p:=by cases hs with|cons h _=>exact h.star
  have U:(backTo cpos (starEach ps X.env)).any (·.1)=false:=by cases hs with|cons _ t=>exact qq1 t cpos X.env
  have few:((backTo cpos (starEach (p::ps) X.env)).all (λx=>!x.1)&&(backToKw cpos (keywordEach [] X.env)).all (λx=>x.1.isSome)&&decide ((p::ps).length+([]:Z Zs).length+(if ([]:Z Zs).isEmpty then 0 else 1)<30))=true:=by
   rw[List.all_eq_not_any_not];simp only[Bool.not_not,qq1 hs cpos X.env];exact Z6 hn
  have hb:=λx=>qk9 ha.sh x X.env (Qa R X.env)
  cases k with
  |append=>exact(qdr PySem.F.plainAttrs_list PySem.F.slot_list_append PySem.F.type_list_append qb3 (A.e c X G a _ ha) (qzo A G hs) (hb _) few hl (S _ _) U).imp λ_ _ _ h=>qjh h
  |extend=>exact(qdr PySem.F.plainAttrs_list PySem.F.slot_list_extend PySem.F.type_list_extend qb2 (A.e c X G a _ ha) (qzo A G hs) (hb _) few hl (S _ _) U).imp λ_ _ _ h=>qjh h
  |index=>exact(qdr PySem.F.plainAttrs_list PySem.F.slot_list_index PySem.F.type_list_index (qd9 hu) (A.e c X G a _ ha) (qzo A G hs) (hb _) few hl (S _ _) U).imp λ_ _ _ h=>qjh h
  |insert=>exact(qdr PySem.F.plainAttrs_list PySem.F.slot_list_insert PySem.F.type_list_insert qb1 (A.e c X G a _ ha) (qzo A G hs) (hb _) few hl (S _ _) U).imp λ_ _ _ h=>qjh h
  |pop=>exact(qdr PySem.F.plainAttrs_list PySem.F.slot_list_pop PySem.F.type_list_pop qoc (A.e c X G a _ ha) (qzo A G hs) (hb _) few hl (S _ _) U).imp λ_ _ _ h=>qjh h
 |@dic0 pos=>
  refine pe_dnewK.imp λσ H Q h=>h.el λm st τ d st' I S0 e g=>?_;have e0:M.wdicAt (st++[Ya.dic L []]) st.length=Y []:=by simp[M.wdicAt]
  have e:(match M.wdicAt (st++[Ya.dic L []]) st.length with
   |some []=>(M.pairUp []).bind λkvs=>if kvs.length<=15 then Y (D.loc st.length,(st++[Ya.dic L []]).set st.length (Ya.dic L (M.dall kvs))) else B
   |_=>B)=Y (d,st'):=e
  rw[e0]at e;have e2:(st++[Ya.dic L []]).set st.length (.dic L [])=st++[.dic L []]:=by simp
  have e:Y (D.loc st.length,(st++[Ya.dic L []]).set st.length (.dic L []))=Y (d,st'):=e;rw[e2]at e;have g:=g.of e;intro pp S;exact g _ (m++[pp]) _ (Sub.app _ _) (Tr.of_same (qza S)) (I.newD S rfl) I.newLoc
 |@dic es k v ks vs pos hP c7=>
  obtain⟨h1,h2,h3⟩:=qv4 A G hP;refine(qnu h1 h2 h3 ?g c7).imp λσ H Q h=>?_;refine h.el λm st τ d st' I S0 e g=>?_;have e:=e;refine qzx e λp T e=>?_
  split at e
  ·rename_i a9;refine qzx e λkvs e2 e=>?_
   split at e
   ·rename_i hl;have g:=g.of e;intro pp S;have sm:=qza (o:=.dK []) S;refine qv3 hP (I.newD (kvs:=[]) S rfl) (S0.mono (Sub.app _ _) ?qw) T λxs m1 H1 b1 K P ix=>?_;obtain⟨ys,a8,b8⟩:=qay ix e2;have a1:=qzb b1 (Tr.refl H1) _ _ (I.newLoc);obtain⟨a',d4,c6,ea,hH,a7,hst⟩:=P.wdict a9 a1;cases ea;have b7:=a7;subst b7;have l1:=a8.length;refine⟨hH,ys,b8,?d,?_⟩;exact g _ m1 _ ((Sub.app _ _).trans b1) ((?qw).trans (K.trans (Tr.putD hH))) (P.putD hst c6 hH (a8.merge (rfl))) (qzb (Sub.refl _) (Tr.putD hH) _ _ a1)
   ·exact nn e
  ·exact nn e
 |@didx a b R pb pos ha hb=>exact qho ?d ?T ?ql (qm5 hb.sh)
 |@din neg a b R pb pos ha hb=>exact qlb (qdu ?d neg ?T ?ql) (qbo hb.sh _)
 |@gidx x ks ds b pb p0 pos W hm hd hb=>
  obtain⟨ad,h1,h2⟩:=G.mo.gds x ks ds hm;exact qhn (G.gl W) h1 h2 hd ?ql (qm5 hb.sh)
 |@gin neg x ks ds b pb p0 pos W hm hd hb=>
  obtain⟨ad,h1,h2⟩:=G.mo.gds x ks ds hm;exact qlb (qds neg (G.gl W) h1 h2 hd ?ql) (by cases neg<;>rfl)
 |@sli a lo hi R pl ph p2 pos ha hl hh=>
  refine(qhi sl_D ?T (po_ok A G hl) (po_ok A G hh)).imp λσ H Q h=>h.el λm st τ d st' I S0 e g=>?_;have e:=e;exact qzk e λd1 s1 T e=>qzx e λl e2 e=>qzx e λu e3 e=>rsI I S0 T λx m1 H1 b1 K P i1=>rsI P (S0.mono b1 K) e2 λm2 H2 b2 t2 R2=>rsI R2 (S0.mono ?qs (K.trans t2)) e3 λm3 H3 b3 t3 R3=>
   ⟨m3,u.2,d1,d,st',R3,qzb (b2.trans b3) (t2.trans t3) _ _ i1,e,g.mono ?X (K.trans (t2.trans t3))⟩
 |@comp t it q elt sr tg c9 pq a3 b5 pos N ok hi U hq he=>
  have GI:=λ{C fp s H}=>G.inner (C:=C) (fp:=fp) (s:=s) (H:=H) ok.kind ok.nd;exact(qn2 G.calm (qkt G ok) (qyd A G hi) (λC fp s H=>qqi GI U λi c1 x hx=>.inr (qc1 ok.tl i c1 x hx)) (λC fp s H=>qi2 A GI hq) (λC fp s H=>A.e _ _ GI elt a3 he) (ok.fs X.env)).imp λσ H Q h=>qc4 h
 |@dgt a b R pb apos cpos ha hb hl=>
  exact qn0 ?d ?T ?ql ⟨qk9 ha.sh _ _ _,by rw[hb.star]; rfl,hl,by rw[hb.star]; rfl⟩
 |@attr C a f R pos ha hc=>
  obtain⟨h1,h2⟩:=G.mo.ats C f hc;refine(pe_fld ?T (qk9 ha.sh _ _ _)).imp λσ H Q h=>h.el λm st τ d st' I S0 e g=>qzk e λd1 s1 T e=>qzx e λfs e2 e=>qzd e λd2 e3 e4=>?_;cases e4;refine rsI I S0 T λx m1 H1 b1 K P ix=>?_;obtain⟨l,p,dx,ys,rfl,_,rfl,hH,a2,_⟩:=P.inst e2 ix;rcases a2.get f with⟨z,_⟩|⟨d',v,z1,z2,iv⟩
  ·rw[z]at e3; cases e3
  ·rw[z1]at e3;cases e3;exact⟨p,C,dx,ys,v,rfl,hH,h1,h2,z2,g _ m1 H1 b1 K P iv⟩
 |@mcall C f m' x cn a es R ps apos pos ha hf hm hc hs hn c0=>
  obtain⟨fa,fd,a0,hl,F,hk,hb⟩:=G'.tab f x hf;obtain⟨_,hC,_,_⟩:=G.mo.cls cn C hc;have hM:=hl.2 C m' hm;obtain⟨pl,U⟩:=sh_mt ha.sh hs.sh hn c0 X.env;have a4:∀σ H Q,tD X.K (λτ st=>M.stepEv ?G τ st (.mcall C f m' a es)) σ H Q->qmm C m' (spN X.K fns dl f) [] E0 (tD X.K λτ st=>(?G).ev τ st a) (tL X.K λτ st=>M.evs ((?G).ev τ) es st) σ H Q:=by
   intro σ H Q h;refine h.el λm st τ d st' I S0 e g=>qzk e λd1 s1 T e=>qzx e λfs e2 e=>rsI I S0 T λv m1 H1 b1 K P ix=>?_;obtain⟨l,p,dx,ys,rfl,_,rfl,hH,a2,_⟩:=P.inst e2 ix
   split at e
   ·exact nn e
   ·rename_i a5;refine qzx e λq e3 e=>?_;rcases a2.get m' with⟨_,z⟩|⟨d',v,z1,_,_⟩
    ·refine⟨p,dx,ys,rfl,hH,z,rsI P (S0.mono b1 K) e3 λxs m2 H2 b2 t2 R2 i2=>?_⟩;have e:=e;rw[M.runK_call]at e;show spN X.K fns dl f (.ref p::(xs++[])) H2 Q E0;rw[Qqs];exact⟨m2,q.2,_,d,st',R2,qzn (qzb b2 t2 _ _ ix) i2,e,g.mono ?qs (K.trans t2)⟩
    ·rw[z1]at a5;exact absurd rfl a5
  have hr:Room (2*dl) X.A:=G.room.mono ?d
  cases hs with
  |nil=>
   refine(qhl ?T hC hM F hr hb .nil qhs U).imp λσ H Q h=>?_
   ·obtain⟨m,st,τ,d1,s1,I,S0,T,k⟩:=a4 σ H Q h;refine rsI I S0 T λv m1 H1 b1 K P ix=>?_;obtain⟨p,dx,ys,rfl,hH,z,m2,s2,d0,ds,s3,R2,S2,e2,k2⟩:=k v m1 H1 b1 K P ix;cases e2;exact⟨p,dx,ys,rfl,hH,z,k2 [] m2 H1 (Sub.refl _) (Tr.refl _) R2 qqk⟩
  |cons h1 h2=>exact(qnr ?T hC hM F hr hb .nil qhs (qzo A G (.cons h1 h2)) (h1.star _ _) (qq1 h2 pos X.env) U).imp a4
 |@new C f x cn es p ps p0 pos W hf hm hc hd hs=>
  obtain⟨fa,fd,a0,hl,F,hk,hb⟩:=G'.tab f x hf;obtain⟨h1,_,h3,h4⟩:=G.mo.cls cn C hc;have hM:=hl.2 C _ hm;have S:Star p:=by cases hs with|cons h _=>exact h.star
  have U:(backTo pos (starEach ps X.env)).any (·.1)=false:=by cases hs with|cons _ t=>exact qq1 t pos X.env
  refine(qns ⟨h3,hM.at_,hM.fn,h4⟩ F G.room (G.gl W) h1 hb .nil qhs (qzo A G hs) hd (S _ _) U).imp λσ H Q h=>h.el λm st τ d st' I S0 e g=>qzx e λq T e=>qzx e λw e2 e=>rsI I S0 T λxs m1 H1 b1 K P ix x dx hx c3 b9=>?_;have e2:=e2;rw[M.runK_call]at e2;obtain⟨sm,R2⟩:=P.newI hx c3 b9;have lc:=P.newLoc (p:=x) (H':=upd (upd H1 dx (.own x)) x (.ins C dx []))
  split at e
  ·rename_i hn;have g:=g.of e;rw[Qqs];refine⟨m1++[x],_,_,w.1,w.2,R2,qzn lc (qzc (Sub.app m1 [x]) ?qw _ _ ix),e2,λv m2 H2 b2 t2 R3 iv=>?_⟩;have hw:w.1=.non:=by
    cases hq:w.1 with
    |non=>rfl
    |_=>rw[hq]at hn; cases hn
   rw[hw]at iv;exact⟨iv.non,g _ m2 H2 (b1.trans ((Sub.app m1 [x]).trans b2)) (K.trans ((?qw).trans t2)) R3 (qzb b2 t2 _ _ lc)⟩
  ·exact nn e
end
section
variable {fns:Z Fn}{dl n j:Y0}{c:Ctx}{X:Cx}
def tt_val{K:Qqq}(hr:∀τ st,M.stepTst r τ st e=(?qe).bind λp=>(M.truth p.2 p.1).map λk=>(k,p.2))(h:tTs K (λτ st=>M.stepTst r τ st e) b H Q):(tD K λτ st=>r.ev τ st e) b H λx H'=>∃k,TruV K x H' k/\Q k H':=by
 refine h.el λm st τ d st' s S0 a q=>?_;have a:=(hr τ st).symm.trans a;refine qzk a λd1 t o a=>qzd a λk l i=>?_;cases i;exact rsI s S0 o λx m1 H1 b1 g f i1=>⟨_,qmd f i1 l,q m1 H1 b1 g f⟩
def tt_bl{K:Qqq}(hr:∀τ st,M.stepTst r τ st e=(f τ st).bind λp=>(M.truth p.2 p.1).map λk=>(k,p.2))(hf:∀τ st d st',f τ st=Y (d,st')->∃k,d=.bl k)(h:tTs K (λτ st=>M.stepTst r τ st e) b H Q):tB (tD K f) b H Q:=by
 refine h.el λm st τ d st' o S0 a q=>?_;have a:=(hr τ st).symm.trans a;refine qzk a λd1 s g a=>?_;obtain⟨k,rfl⟩:=hf _ _ _ _ g;have q:=q.of a;exact rsI o S0 g λx m1 H1 b1 i l i1=>⟨_,i1.bl,q m1 H1 b1 i l⟩
def din_bl{st:Y1}(h:M.dinR r τ st neg a b=Y (d,st')):∃k,d=.bl k:=by
 unfold M.dinR at h;refine qzk h λd1 f m h=>qzk h λd2 e i h=>?_
 cases d2 with
 |loc l=>
  refine qzx h λkvs g h=>?_
  split at h
  ·cases h; exact⟨_,rfl⟩
  ·exact nn h
 |_=>exact nn h
def gin_bl{st:Y1}(h:M.ginR r τ st neg ks b=Y (d,st')):∃k,d=.bl k:=by
 unfold M.ginR at h;refine qzk h λd1 a e h=>?_
 cases d1 with
 |str z=>cases h; exact⟨_,rfl⟩
 |_=>exact nn h
def tt_and{K:Qqq}(h:tTs K (λτ st=>M.stepTst r τ st (.and a b)) g H Q):tAnd (tTs K λτ st=>r.tst τ st a) (tTs K λτ st=>r.tst τ st b) g H Q:=by
 refine h.el λm st τ d st' t S0 e q=>?_;have e:=e;refine qzx e λp s e=>rsI t S0 s λm1 H1 b1 f k=>?_
 cases i:p.1 with
 |true=>
  rw[i,Z9 rfl]at e;rw[Z9 rfl];exact rsI k (S0.mono b1 f) e λo H2 b2 l R2=>q o H2 ?qs (f.trans l) R2
 |false=>
  rw[i,Z8 Qzx]at e;have q:=q.of e;rw[Z8 Qzx];exact q m1 H1 b1 f k
def tt_or{K:Qqq}(h:tTs K (λτ st=>M.stepTst r τ st (.or a b)) g H Q):tOr (tTs K λτ st=>r.tst τ st a) (tTs K λτ st=>r.tst τ st b) g H Q:=by
 refine h.el λm st τ d st' t S0 e q=>?_;have e:=e;refine qzx e λp s e=>rsI t S0 s λm1 H1 b1 f k=>?_
 cases i:p.1 with
 |false=>
  rw[i,Z8 Qzx]at e;rw[Z8 Qzx];exact rsI k (S0.mono b1 f) e λo H2 b2 l R2=>q o H2 ?qs (f.trans l) R2
 |true=>
  rw[i,Z9 rfl]at e;have q:=q.of e;rw[Z9 rfl];exact q m1 H1 b1 f k
def qvp{K:Qqq}(p:SlotOk K m H τ o)(h:SlotOk K b l (τ.set i (Y g)) σ')(s:Sub m b)(t:Tr l k)(hd:∀v,MS.IsD K b l g v->MS.IsD K m k d v):SlotOk K m k (τ.set i (Y d)) σ':=by
 refine⟨by have:=h.len; rwa [Qxw]at this ⊢,λj e a=>?_⟩
 by_cases hj:i=j
 ·subst hj;have hi:i<τ.length:=by
   have:=(Qqk.mp a).1;rwa [Qxw]at this
  rw[Qza hi]at a;cases a;obtain⟨v,f,q⟩:=h.at_ i g (Qza hi);exact⟨v,f,hd v q⟩
 ·rw[Qq7 hj]at a;obtain⟨r,_,q0⟩:=p.at_ j e a;obtain⟨v,f,q⟩:=h.at_ j e (by rw[Qq7 hj]; exact a);exact⟨v,f,qzb ?N t _ _ (qjy s _ _ _ q0 q)⟩
def qhc{f:Sl->Y1->Y2 (D×Y1)}(h:PS X p (tS X.K λτ st=>(f τ st).bind λq=>(M.setT (.var i) q.1 τ).map λτ'=>(Out.nx τ',q.2))):
  PS X p (tS X.K λτ st=>((f τ st).map λq=>M.gcD st q).bind λq=>(M.setT (.var i) q.1 τ).map λτ'=>(Out.nx τ',q.2)):=by
 intro pins s σ H Dn I q;refine q.el λm st τ o st' K S0 e k=>qzk e λd S e1 e=>?_;obtain⟨⟨E,r⟩,e2,e3⟩:=mapD e1;refine qzd e λτ' A e5=>?_;cases e5;have A:(if i<τ.length then Y (τ.set i (Y d)) else B)=Y τ':=A
 split at A
 case isFalse=>exact nn A
 case isTrue hi=>
  cases A;refine thn (h pins s σ H ⟨λg H1=>∃m1,Sub m m1/\Tr H H1/\Rel X.K m1 r H1/\SlotOk X.K m1 H1 (τ.set i (Y E)) g,λ_ _=>False,λ_ _=>False,λ_ _=>False⟩ I (rsI (d:=.nx (τ.set i (Y E))) (st':=r) K S0 (by show(f τ st).bind _=_; rw[e2]; show Option.map _ (if i<τ.length then Y (τ.set i (Y E)) else B)=_; rw[Z9 hi]; rfl) λm1 H1 b t R g S1=>⟨m1,b,t,R,S1⟩)) λV s2 hf=>?_
  cases V with
  |next=>
   obtain⟨g,H1,N,m1,b1,F,x,S1⟩:=hf;have plain:(E,r)=(d,S)->SP X pins Dn .next s2:=λz=>by
    cases z;exact⟨g,H1,N,k m1 H1 b1 F x g S1⟩
   rcases gc_el e3 with z|⟨ok,z⟩
   ·exact plain z
   ·unfold M.gcX at z
    split at z
    ·rename_i hn;cases z;exact⟨g,H1,N,k m H1 ?N F (K.cut x b1 ok (Tr.refl H1) λ_ _ _ _ _ _=>rfl) g (qvp S0 S1 b1 (Tr.refl H1) λv q=>qeo _ _ hn q)⟩
    ·split at z
     ·rename_i l hd;simp only at hd
      split at z
      ·rename_i hl
       split at z
       ·rename_i ds hc
        split at z
        ·rename_i hn;cases z;subst hd;obtain⟨a,ha⟩:=x.addr hc;obtain⟨xs,Q,T⟩:=x.cell l _ a hc ha;obtain⟨o,I2⟩:=qkp N Q;have C:=Tr.lay (o:=o) Q;refine⟨g,_,I2,k m _ ?N (F.trans C) (K.cut x b1 ok C λP c G e W w=>?_) g (qvp S0 S1 b1 C λv q=>?_)⟩
         ·refine qzq λz=>?_;subst z;have U:=qjg e;have:=x.nd P l G c _ (b1 P G W) ha U.2 hc w rfl;omega
         ·obtain⟨G,y,rfl⟩:=q.loc;rw[ha]at y;cases y;exact qb4 (.inl ⟨o,qzw⟩) (qj6 _ _ hn (qzc (Sub.refl m1) C _ _ T))
        ·exact plain z
       ·exact plain z
      ·exact plain z
     ·exact plain z
  |brk=>obtain⟨_,_,_,z⟩:=hf; exact z.elim
  |cont=>obtain⟨_,_,_,z⟩:=hf; exact z.elim
  |ret u=>obtain⟨_,_,_,_,_,z⟩:=hf; exact z.elim
def w_ok(A:AllOk fns dl n)(G:Good fns dl c X)(h:CkN j c e (.BoolOp g ps pos)):PW X (.BoolOp g ps pos) (tTs X.K λτ st=>M.stepTst ?G τ st e):=by
 cases j with
 |zero=>cases h
 |succ j=>
 cases h with
 |gc _ _ k=>cases k
 |of hs i h=>
 clear hs i
 cases h with
 |@and a b f d r pos ha hb=>
  refine(pw_and (A.t c X G a f ha) ?_).imp λσ H Q h=>tt_and h
  cases r with
  |nil=>exact qnb (A.t c X G b d hb)
  |cons=>exact A.w c X G b _ _ _ hb
 |@or a b f d r pos ha hb=>
  refine(pw_or (A.t c X G a f ha) ?_).imp λσ H Q h=>tt_or h
  cases r with
  |nil=>exact pw_or1 (A.t c X G b d hb)
  |cons=>exact A.w c X G b _ _ _ hb
def qx2(d:PE X p (tD X.K λτ st=>r.ev τ st e))(a:∀w,isTrue p X.env w=(do let v <- w; standAt p.pos; Zo [v] (truthy v)))(b:∀τ st,M.stepTst r τ st e=(?qe).bind λp=>(M.truth p.2 p.1).map λk=>(k,p.2)):PT X p (tTs X.K λτ st=>M.stepTst r τ st e):=(qha d a).imp λ_ _ _ h=>tt_val b h
def t_ok(A:AllOk fns dl n)(G':Good fns dl c X)(h:CkN j c e p):PT X p (tTs X.K λτ st=>M.stepTst ?G τ st e):=by
 have G:=G';have T:=G'.room.units;have hA:=A.e c X G e p h
 cases j with
 |zero=>cases h
 |succ j=>
 revert hA
 cases h with
 |gc hs U hp hg ha=>
  intro hA
  cases p with
  |Call=>exact qx2 hA (λ_=>rfl) λ_ _=>rfl
  |ListComp=>exact qx2 hA (λ_=>rfl) λ_ _=>rfl
  |List=>exact qx2 hA (λ_=>rfl) λ_ _=>rfl
  |BinOp=>exact qx2 hA (λ_=>rfl) λ_ _=>rfl
  |Subscript=>exact qx2 hA (λ_=>rfl) λ_ _=>rfl
  |_=>cases hp
 |of hs U h=>
 clear hs U
 cases h with
 |nm h=>
  cases h with
  |var=>exact λhA=>qx2 hA (λ_=>rfl) λ_ _=>rfl
  |glo=>exact λhA=>qx2 hA (λ_=>rfl) λ_ _=>rfl
 |@not a o pos ha=>
  intro _;refine(pt_not (A.t c X G a o ha)).imp λσ H Q h=>h.el λm st τ d st' F S0 u q=>qzd u λp C w=>?_;cases w;exact rsI F S0 C λm1 H1 b1 f D=>q m1 H1 b1 f D
 |and ha hb=>exact λ_=>(w_ok A G (j:=j+1) (.of rfl rfl (.and ha hb))).pt
 |or ha hb=>exact λ_=>(w_ok A G (j:=j+1) (.of rfl rfl (.or ha hb))).pt
 |@cmp t a b o l pos ha hb=>
  intro _;refine(qnc (qxm T t) (A.e c X G a o ha) (A.e c X G b l hb) (qbo hb.sh _)).imp λσ H Q h=>h.el λm st τ d st' F S0 u q=>qzk u λd1 s1 C u=>qzk u λd2 g w u=>qzd u λk W V=>?_;cases V;exact rsI F S0 C λx m1 H1 b1 f D i1=>rsI D (S0.mono b1 f) w λy R H2 b2 i R2 i2=>
   ⟨R,g,d1,d2,.bl d,g,R2,qzb b2 i _ _ i1,i2,by show Option.map _ (M.cmpD g t d1 d2)=_; rw[show M.cmpD g t d1 d2=Y d from W]; rfl,λz P H3 b3 v N S=>⟨d,S.bl,q P H3 ?X (f.trans (i.trans v)) N⟩⟩
 |@cmp2 t r a b d o l pd pos ha hb hd=>
  intro _;refine(qhb (qxm T t) (qxm T r) (A.e c X G a o ha) (A.e c X G b l hb) (A.e c X G d pd hd) (qbo hd.sh _)).imp λσ H Q h=>h.el λm st τ dd st' F S0 e q=>qzk e λd1 s1 C e=>qzk e λd2 g w e=>qzx e λk W e=>rsI F S0 C λx m1 H1 b1 f D i1=>rsI D (S0.mono b1 f) w λy R H2 b2 i R2 i2=>
   ⟨R,g,d1,d2,.bl k,g,R2,qzb b2 i _ _ i1,i2,by show Option.map _ (M.cmpD g t d1 d2)=_; rw[show M.cmpD g t d1 d2=Y k from W]; rfl,λz P H3 b3 v N S=>⟨k,S.bl,?_⟩⟩
  cases k with
  |true=>
   rw[Z9 rfl]at e ⊢;refine qzk e λd3 K V e=>qzd e λk' e5 e6=>?_;cases e6;exact rsI N (S0.mono ?X (f.trans (i.trans v))) V λy' m4 H4 b4 t4 R4 i4=>
    ⟨m4,K,d2,d3,.bl dd,K,R4,qzb (b3.trans b4) (v.trans t4) _ _ i2,i4,by show Option.map _ (M.cmpD K r d2 d3)=_; rw[show M.cmpD K r d2 d3=Y dd from e5]; rfl,
     λz m5 H5 b5 t5 R5 i5=>⟨dd,i5.bl,q m5 H5 (b1.trans (b2.trans (b3.trans (b4.trans b5)))) (f.trans (i.trans (v.trans (t4.trans t5)))) R5⟩⟩
  |false=>
   rw[Z8 Qzx]at e ⊢;have q:=q.of e;exact⟨Y6,rfl,q P H3 ?X (f.trans (i.trans v)) N⟩
 |ite U ha hb=>exact λ_=>λpins s σ H Q I q=>by obtain⟨m,st,τ,d,st',_,_,z,_⟩:=q; cases z
 |@din neg a b o l pos ha hb=>exact λ_=>(qlk (qdu ?q neg (A.e c X G a o ha) (A.e c X G b l hb)) (qbo hb.sh _)).imp λσ H Q h=>tt_bl (λ_ _=>rfl) (λ_ _ _ _ z=>din_bl z) h
 |@gin neg x ks ds b l p0 pos hg hm hd hb=>
  intro _;obtain⟨ad,h1,h2⟩:=G.mo.gds x ks ds hm;exact(qlk (qds neg (G.gl hg) h1 h2 hd (A.e c X G b l hb)) (by cases neg<;>rfl)).imp λσ H Q h=>tt_bl (λ_ _=>rfl) (λ_ _ _ _ z=>gin_bl z) h
 |_=>exact λhA=>qx2 hA (λ_=>rfl) λ_ _=>rfl
def S_nx{K:Qqq}(p:PostO K m H (.nx τ) st' e)(b:Sub m a)(t:Tr H H')(g:Rel K a st' H')(f:SlotOk K a H' τ d):e.nx d H':=p a H' b t g d f
def qda{K:Qqq}(d:∀Q,(tD K λτ st=>r.ev τ st e) b H Q->g b H Q)(h:tS K (λτ st=>M.stepEx r τ st (.set (.var i) e)) l b H):tAsg g (qyh i) l b H:=by
 refine h.el λm st τ o st' u S0 f q=>qzk f λd1 v s f=>qzd f λτ' a p=>?_;cases p;have a:(if i<τ.length then Y (τ.set i (Y d1)) else B)=Y τ':=a
 split at a
 ·cases a;exact d _ (rsI u S0 s λx m1 H1 b1 k t i1=>S_nx q b1 k t ((S0.mono b1 k).put i1))
 ·exact nn a
def qdb(P:∀j,j<=n->AllOk fns dl j)(G:Good fns dl c X)(hf:∀x,X.fn x=L)(y:c.N[i]?=Y x)(hl:c.sc.names.lookup x=Y .local\/c.sc.names.lookup x=Y .cell)(f:CkE c e p)(T:∀a,e≠.gc a)(hc:∃elt K sc q,p=.ListComp elt K sc q)(hs:∀env:Env,env.scope=c.sc->(swapsWith p (Y (.Name x b)) pos.line env=pure Y6\/swapsWith p (Y (.Name x b)) pos.line env=pure L)):
  PS X (.Assign [.Name x b] p pos) (tS X.K λτ st=>M.stepEx ?G τ st (.set (.var i) e)):=by
 have A:=P n (Qqw n);have F:X.N.Nodup:=by rw[G.N]; exact G.nd
 have loc:∀{x:Y4},(c.sc.names.lookup x=Y .local\/c.sc.names.lookup x=Y .cell)->Loc X.env.scope x:=λ{x} h=>by rw[G.sc]; exact h
 rcases hs X.env G.sc with z|z
 ·exact(qlv F (qjd G y) (loc hl) (A.e c X G e p f) z (.inl (hf x))).imp λD σ H h=>qda (λ_ q=>q) h
 ·cases n with
  |zero=>exact λpins s σ H V I q=>by obtain⟨m,st,τ,d,st',_,_,w,_⟩:=q; cases w
  |succ n=>
   have A1:=P n (Qxo n);obtain⟨elt,K,sc,q,rfl⟩:=hc
   cases f with
   |gc=>exact(T _ rfl).elim
   |of hs l f=>
   clear hs l
   cases f with
   |@comp t it q g sr tg v U u k cpos N ok hit S l f=>
    have r:=λ{C fp s H}=>G.inner (C:=C) (fp:=fp) (s:=s) (H:=H) ok.kind ok.nd;exact(qbu G.calm (qkt G ok) (qyd A1 G hit) (λC fp s H=>qqi r S λi o x R=>.inr (qc1 ok.tl i o x R)) (λC fp s H=>qi2 A1 r l) (λC fp s H=>A1.e _ _ r g _ f) (ok.fs X.env) F (qjd G y) (loc hl) (.inl (hf x)) z).imp λD σ H h=>qda (λQ q=>qc4 q) h
def s1_ok(IH:∀j,j<=n->AllOk fns dl j)(G:Good fns dl c X)(hf:∀x,X.fn x=L)(h:CkS c s p):PS X p (tS X.K λτ st=>M.stepEx ?G τ st s):=by
 have A:=IH n (Qqw n);have hN:X.N.Nodup:=by rw[G.N]; exact G.nd
 have loc:∀{x:Y4},(c.sc.names.lookup x=Y .local\/c.sc.names.lookup x=Y .cell)->Loc X.env.scope x:=λ{x} h=>by rw[G.sc]; exact h
 cases h with
 |@set i e x p pos pos' hi hl P hs=>exact(qlv hN (qjd G hi) (loc hl) (A.e c X G e p P) (hs X.env) (.inl (hf x))).imp λD σ H h=>qda (λ_ q=>q) h
 |@setC i e x p pos pos' hi hl P hc hs=>
  by_cases a7:∃a,e=.gc a
  ·obtain⟨a,rfl⟩:=a7
   cases P with
   |of _ _ P=>
    cases P with
    |nm h=>cases h
   |gc ws wq hp hg ha=>
    cases n with
    |zero=>exact λpins s σ H Dn I q=>by obtain⟨m,st,τ,d,st',_,_,w,_⟩:=q; cases w
    |succ n=>exact(qhc (qdb (λj hj=>IH j (Nat.le_succ_of_le hj)) G hf hi hl (.of ws wq ha) hg hc hs)).imp λ_ _ _ q=>q
  ·exact qdb IH G hf hi hl P (λa z=>a7 ⟨a,z⟩) hc hs
 |@dset a i e pa pi pe tpos pos ha hi P=>
  refine(qnf (by have:=G.room.units; omega) (A.e c X G a pa ha) (A.e c X G i pi hi) (A.e c X G e pe P) (sh_sw P.sh _ _)).imp λDn σ H h=>?_;refine h.el λm st τ o st' T S0 g q=>qzk g λd1 s1 e1 g=>qzk g λd2 s2 e2 g=>qzk g λd3 s3 e3 g=>?_
  cases d2 with
  |loc l=>
   have g:=g;refine qzx g λkvs E g=>?_
   split at g
   ·rename_i hk;have q:=q.of g;rw[Qqt,decide_eq_true_eq]at hk;obtain⟨k,a6⟩:=qqt hk.1;refine rsI T S0 e1 λx m1 H1 b1 F R i1=>rsI R (S0.mono b1 F) e2 λy m2 H2 b2 u R2 i2=>rsI R2 (S0.mono ?qs (F.trans u)) e3 λz m3 H3 b3 Q R3 i3=>?_;obtain⟨a',xs,a1,rfl,U,a4,hst⟩:=R3.wdict E (qzb b3 Q _ _ i2);have hz:=qor a6 i3;subst hz;have l1:=a4.length;have l2:=qqy;refine⟨a',_,rfl,DPut.k U ?q,?_⟩;have iv:=qzb (b2.trans b3) (u.trans Q) _ _ i1;exact S_nx q ?X (F.trans (u.trans (Q.trans (Tr.putD U)))) (R3.putD hst a1 U (a4.put a6 iv)) (S0.mono ?X (F.trans (u.trans (Q.trans (Tr.putD U)))))
   ·exact nn g
  |_=>exact nn g
 |@expr e p pos P hs=>
  refine(qne (A.e c X G e p P) (hs X.env)).imp λDn σ H h=>h.el λm st τ o st' T S0 g q=>qzd g λp e1 e2=>?_;cases e2;exact rsI T S0 e1 λx m1 H1 b1 F R i1=>S_nx q b1 F R (S0.mono b1 F)
 |@ret e p pos P=>
  refine(ps_ret (A.e c X G e p P)).imp λDn σ H h=>h.el λm st τ o st' T S0 g q=>qzd g λp e1 e2=>?_;cases e2;exact rsI T S0 e1 λx m1 H1 b1 F R i1=>q m1 H1 b1 F R x i1
 |@ite q a b pq pa pb pos hq ha hb=>
  refine(ps_if (A.t c X G q pq hq) (A.s c X G hf a pa ha) (A.s c X G hf b pb hb)).imp λDn σ H h=>h.el λm st τ o st' T S0 g r=>qzx g λp e1 g=>rsI T S0 e1 λm1 H1 b1 F R=>?_
  cases hp:p.1 with
  |true=>
   rw[hp,Z9 rfl]at g;rw[Z9 rfl];exact rsI R (S0.mono b1 F) g (r.mono b1 F)
  |false=>
   rw[hp,Z8 Qzx]at g;rw[Z8 Qzx];exact rsI R (S0.mono b1 F) g (r.mono b1 F)
 |@forr t it body tg b5 pb pos ht hi hs hb=>
   refine(qlw (by rw[G.xe]; exact PassesOwn.never) G.calm (qyd A G hi) (qqi G ht λi _ x _=>.inl (hf x)) (A.s c X G hf body pb hb) (hs X.env)).imp λDn σ H h=>?_
   refine h.el λm st τ o st' T S0 g r=>qzx g λp e1 g=>rsI T S0 e1 λm1 H1 Jq b1 F R hJ=>⟨λj k a0 H'=>∃m2 N K,Sub m1 m2/\Tr H1 H'/\Rel X.K m2 N H'/\SlotOk X.K m2 H' K a0/\M.loop p.1 (λτ st d=>(M.setT t d τ).bind λτ'=>(?G).ex τ' st body) k j K N=Y (o,st'),
    ⟨_,m1,p.2,τ,Sub.refl _,Tr.refl _,R,S0.mono b1 F,g⟩,?_⟩
   rintro j k a0 H' ⟨m2,N,K,b2,u,R2,S2,E⟩
   cases k with
   |zero=>exact nn E
   |succ k=>
    have E:=E;refine qzx E λoo e5 E=>?_
    cases oo with
    |none=>
     have r:=r.of E;exact .inl ⟨(hJ.mono b2 u).done R2 e5,S_nx r ?qs (F.trans u) R2 S2⟩
    |some d=>
     obtain⟨b0,hy⟩:=(hJ.mono b2 u).next R2 e5;refine qzx E λz e6 E=>qzx e6 λV e7 e6=>.inr ⟨b0,λW H3=>∃m3 a3 V,Sub m1 m3/\Tr H1 H3/\Rel X.K m3 a3 H3/\SlotOk X.K m3 H3 V W/\M.loop p.1 (λτ st d=>(M.setT t d τ).bind λτ'=>(?G).ex τ' st body) k (j+1) V a3=Y (o,st'),λW H3 w3=>⟨k,Qzp k,w3⟩,λx H2 a9=>?_⟩;obtain⟨sm,ix⟩:=hy x H2 a9;have u:=u.trans ?qw;have R2:=R2.same sm;have S2:=S2.mono (Sub.refl _) ?qw;refine qik ix S2 e7 λW S3=>rsI R2 S3 e6 λm3 H3 b3 Q R3=>?_
     cases hz:z.1 with
     |nx a2=>
      rw[hz]at E;exact λa5 S4=>⟨m3,z.2,a2,b2.trans b3,u.trans Q,R3,S4,E⟩
     |bk a2=>
      rw[hz]at E;have r:=r.of E;exact λa5 S4=>S_nx r ?X (F.trans (u.trans Q)) R3 S4
     |rt v=>
      rw[hz]at E;have r:=r.of E;exact λw iw=>r m3 H3 ?X (F.trans (u.trans Q)) R3 w iw
 |bad=>exact λpins s σ H Dn I q=>by obtain⟨m,st,τ,d,st',_,_,z,_⟩:=q; cases z
 |brk=>refine ps_break.imp λDn σ H h=>h.el λm st τ o st' T S0 g q=>?_; have q:=q.of g; exact q m H ?N (Tr.refl H) T _ S0
 |@setT is e es k p pos tpos ht P hw=>
  refine(ps_asg (A.e c X G e p P) (qqi (t:=.tup is) G (.tup ht) λi _ x _=>.inl (hf x)) (sh_swT (es:=es) (k:=k) (tp:=tpos) P.sh pos.line X.env) (hw X.env) rfl).imp λDn σ H h=>h.el λm st τ o st' T S0 g q=>qzk g λd1 s1 e1 g=>qzd g λτ' e2 e3=>?_;cases e3;exact rsI T S0 e1 λx m1 H1 b1 F R i1=>qik i1 (S0.mono b1 F) e2 λa0 S1=>S_nx q b1 F R S1
 |@setA C a f e pa pe tpos pos ha P hc=>
  obtain⟨h1,h2⟩:=G.mo.ats C f hc;refine(ps_fld (A.e c X G a pa ha) (A.e c X G e pe P) (sh_swA P.sh _ _)).imp λDn σ H h=>h.el λm st τ o st' T S0 g q=>qzk g λd1 s1 e1 g=>qzk g λd2 s2 e2 g=>qzx g λfs e3 g=>rsI T S0 e1 λx m1 H1 b1 F R i1=>rsI R (S0.mono b1 F) e2 λy m2 H2 b2 u R2 i2=>?_;obtain⟨l,p,dx,ys,rfl,hl,rfl,U,a8,hst⟩:=R2.inst e3 i2;dsimp only at g
  split at g
  ·rename_i b6;have q:=q.of g;have l1:=a8.length;exact⟨p,C,dx,ys,rfl,U,h1,h2,?q,S_nx q ?qs (F.trans (u.trans (Tr.putI U))) (R2.putI hst hl U (a8.put (qzb b2 u _ _ i1))) (S0.mono ?qs (F.trans (u.trans (Tr.putI U))))⟩
  ·exact nn g
 |@ford t a body tg pa pb pos ht ha hb=>
  refine(qnd (by rw[G.xe]; exact PassesOwn.never) G.calm (A.e c X G a pa ha) (qqi G ht λi _ x _=>.inl (hf x)) (A.s c X G hf body pb hb) (qm6 ha.sh X.env)).imp λDn σ H h=>?_;refine h.el λm st τ o st' T S0 g r=>qzk g λd1 s1 e1 g=>?_
  cases d1 with
  |loc l=>
   have g:=g;refine qzx g λkvs e2 g=>qzx g λw e3 g=>?_
   split at g
   case h_2=>exact nn g
   case h_1 b4 hw=>
   have r:=r.of g;refine rsI T S0 e1 λx m1 H1 b1 F R i1=>?_;obtain⟨a',xs,a1,rfl,U,a4,hst⟩:=R.wdict e2 i1;refine⟨a',xs,rfl,U,λob nf=>?_⟩;have R2:=R.ice (o:=ob) hst a1 U a4;have ti:=Tr.ice (o:=ob) U;have IK:=a4.keys;have lk:=IK.length;rw[Qqz]at lk;have fz:∀{H':Hp},Tr (upd H1 a' (.frz ob (.dK xs))) H'->H' a'=Y (.frz ob (.dK xs)):=λu=>u.frz a' ob _ qzw
   refine⟨λj k a0 H'=>∃m2 N K,Sub m1 m2/\Tr (upd H1 a' (.frz ob (.dK xs))) H'/\Rel X.K m2 N H'/\SlotOk X.K m2 H' K a0/\M.loop (.tup (M.keysOf kvs)) (λτ st d=>(M.setT t d τ).bind λτ'=>(?G).ex τ' st body) k j K N=Y w,
    ⟨_,m1,_,τ,Sub.refl _,Tr.refl _,R2,S0.mono b1 (F.trans ti),e3⟩,?_⟩
   rintro j k a0 H' ⟨m2,N,K,b2,u,R3,S2,E⟩
   cases k with
   |zero=>exact nn E
   |succ k=>
    have E:(Y (M.keysOf kvs)[j]?:Y2 (Y2 D)).bind (λo=>match o with
     |none=>Y (Out.nx K,N)
     |some d=>((M.setT t d K).bind λτ'=>(?G).ex τ' N body).bind λz=>match z.1 with
      |.nx τ'=>M.loop (.tup (M.keysOf kvs)) (λτ st d=>(M.setT t d τ).bind λτ'=>(?G).ex τ' st body) k (j+1) τ' z.2
      |.bk τ'=>Y (.nx τ',z.2)
      |.rt v=>Y (.rt v,z.2))=Y w:=E
    rw[oBs]at E
    cases e5:(M.keysOf kvs)[j]? with
    |none=>
     rw[e5]at E;cases E;refine .inl ⟨⟨fz u,by rw[<- lk]; exact Qzt.mp e5⟩,a',ob,xs,nf,fz u,?_⟩;exact S_nx r ?qs (F.trans (Tr.thaw U u)) (R3.thaw hw (b2 l a' a1) (fz u)) (S2.monoW (Sub.refl _) (Tw.thaw (fz u)))
    |some d=>
     rw[e5]at E;have hj:=(Qqk.mp e5).1;refine qzx E λz e6 E=>qzx e6 λV e7 e6=>.inr ⟨⟨fz u,?q⟩,λW H3=>∃m3 a3 V,Sub m1 m3/\Tr (upd H1 a' (.frz ob (.dK xs))) H3/\Rel X.K m3 a3 H3/\SlotOk X.K m3 H3 V W/\M.loop (.tup (M.keysOf kvs)) (λτ st d=>(M.setT t d τ).bind λτ'=>(?G).ex τ' st body) k (j+1) V a3=Y w,λW H3 w3=>⟨k,Qzp k,w3⟩,?_⟩;rintro x H2 ⟨rfl,p,hp,rfl⟩;obtain⟨x',ex,ix⟩:=IK.get e5;rw[Qqv,hp]at ex;cases ex;refine qik (qzb b2 (ti.trans u) _ _ ix) S2 e7 λW S3=>rsI R3 S3 e6 λm3 H3 b3 Q R4=>?_
     cases hz:z.1 with
     |nx a2=>
      rw[hz]at E;exact λa5 S4=>⟨m3,z.2,a2,b2.trans b3,u.trans Q,R4,S4,E⟩
     |bk a2=>
      rw[hz]at E;cases E;exact λa5 S4=>⟨a',ob,xs,nf,fz (u.trans Q),S_nx r ?X (F.trans (Tr.thaw U (u.trans Q))) (R4.thaw hw ((b2.trans b3) l a' a1) (fz (u.trans Q))) (S4.monoW (Sub.refl _) (Tw.thaw (fz (u.trans Q))))⟩
     |rt v=>
      rw[hz]at E;cases E;exact λv' iv=>⟨a',ob,xs,nf,fz (u.trans Q),r m3 _ ?X (F.trans (Tr.thaw U (u.trans Q))) (R4.thaw hw ((b2.trans b3) l a' a1) (fz (u.trans Q))) v' (qz7 (Sub.refl _) (Tw.thaw (fz (u.trans Q))) _ _ iv)⟩
  |_=>exact nn g
theorem qmu(i:∀j,j<=n->AllOk fns dl j)(G:Good fns dl c X)(hf:∀x,X.fn x=L):∀{ss}{ps},CkSs c ss ps->PSs X ps (tS X.K λτ st=>M.exs (M.stepEx ?G) ss τ st)
 |_,_,.nil=>pss_nil.imp λk σ H h=>by
  refine h.el λm st τ o st' g S0 a q=>?_;have q:=q.of a;exact q m H ?N (Tr.refl H) g _ S0
 |_,_,.doc t=>(qaj ps_doc (qmu i G hf t)).imp λk σ H h=>h
 |_,_,.cons h t=>(qaj (s1_ok i G hf h) (qmu i G hf t)).imp λk σ H s=>by
  refine s.el λm st τ o st' g S0 a q=>qzx a λp u a=>rsI g S0 u λm1 H1 b1 b f=>?_
  cases e:p.1 with
  |nx l=>
   rw[e]at a;exact λr S1=>rsI f S1 a (q.mono b1 b)
  |rt d=>
   rw[e]at a;have q:=q.of a;exact q m1 H1 b1 b f
  |bk d=>
   rw[e]at a;have q:=q.of a;exact q m1 H1 b1 b f
end
def allOk(fns)(dl):∀n j,j<=n->AllOk fns dl j:=by
 intro n
 induction n with
 |zero=>intro j h; rw[Nat.le_zero.mp h]; exact qcc fns dl
 |succ n a=>
  intro j h;rcases Qjv j (n+1) with z|z
  ·exact a j ?q
  ·have e:j=n+1:=by omega
   subst e;have A:=a n (Qqw n);exact⟨λc X G _ e p h=>e_ok A G h,λc X G _ e p h=>t_ok A G h,λc X G _ e b ps pos h=>w_ok A G h,λc X G hf ss ps h=>qmu a G hf h⟩
structure FText (K:Qqq) (mg:Y4->Y2 Y7) (fns:Z Fn) (names:Z Y4) (glo:Glo) (f:Y0) (x:Y4):Prop where
 ex:∃(nm:Y4) (fa:Y5) (fd:Qn) (st:Stmt) (N ps:Z Y4) (F:Fn),fns[f]?=Y F/\Fun K nm x st fa fd/\Lc K mg glo f x fa/\Binds K fd ps []/\FnScope N ps (qzy st)/\CkSs ⟨N,qzy st,names,glo⟩ F.body (qzt st)/\F.np=ps.length/\F.nl=N.length
abbrev spB(K:Qqq)(F:Fn)(r:R):Sp:=λvs H Q _=>∃m st ds d st',Rel K m st H/\IsDs K m H ds vs/\M.callB F r ds st=Y (d,st')/\Post K m H d st' Q
def qpv{K:Qqq}{f:Y0}{R:Y5}{V:Qn}{st:Stmt}(ih:FTab P w K mg base glo fns names n)(Mg:Mo K mg glo w.params)(hF:fns[f]?=Y F)(o:Fun K nm x st R V)(b:FnScope N ps (qzy st))(I:CkSs ⟨N,qzy st,names,glo⟩ F.body (qzt st))(u:F.np=ps.length)(C:F.nl=N.length):FnOk P w K mg base CX0 (2*(n+1)) R V ps (spB K F (M.Lv fns n)):=by
 have j:∀{ds:Z D}{a st':Y1}{d:D},M.callB F (M.Lv fns n) ds a=Y (d,st')->ds.length=F.np/\((M.Lv fns n).ex (ds.map Y++List.replicate (F.nl - ds.length) B) a F.body).bind (λp=>match p.1 with
   |.rt d=>Y (d,p.2)
   |.nx _=>Y (D.non,p.2)
   |_=>B)=Y (d,st'):=λ{ds a st' d} e=>by
  unfold M.callB at e
  split at e
  ·rename_i hl;exact⟨hl,e⟩
  ·exact nn e
 refine o.ok b (λvs H Q E h=>?_) (λT A outer s H vs Q E hr h=>?_)
 ·obtain⟨m,a,ds,d,st',_,l,e,_⟩:=h;rw[<- l.length,(j e).1,u]
 ·obtain⟨m,a,ds,d,st',R0,l,e,q⟩:=h;obtain⟨hl,e⟩:=j e;refine qzx e λp S g=>?_;obtain⟨k,S⟩:=M.lim1_is S;have G:Good fns n ⟨N,qzy st,names,glo⟩ (cxOf CX0 P w K mg base N x (qzy st) R T A outer s H E).nox:=⟨hr,rfl,rfl,rfl,b.nd,b.kind,ih,Mg,rfl⟩
  refine⟨_,(allOk fns n k k (Qqw k)).s _ _ G (λ_=>rfl) F.body (qzt st) I,⟨m,a,ds.map Y++List.replicate (F.nl - ds.length) B,p.1,p.2,R0,⟨?_,λi d0 hi=>?_⟩,S,λm1 H1 b1 U W=>?_⟩⟩
  ·unfold L2.start;rw[Qqr,Qqr,Qqz,Qqz,Qjp,Qjp,C,l.length]
  ·unfold L2.start
   by_cases c:i<ds.length
   ·rw[Qq9 (by simpa using c),Qqv]at hi;have e3:ds[i]?=Y d0:=by
     cases z:ds[i]? with
     |none=>rw[z]at hi; cases hi
     |some y=>rw[z]at hi; cases hi; rfl
    obtain⟨v,e4,r⟩:=l.get e3;refine⟨v,?_,r⟩;rw[Qq9 (by rw[Qqz,<- l.length]; exact c),Qqv,e4]
    rfl
   ·rw[Qzf (by simpa using c),Qkf]at hi
    split at hi<;>cases hi
  ·cases t:p.1 with
   |rt d1=>
    rw[t]at g;cases g;exact λv r=>q v m1 H1 b1 U W r
   |nx X=>
    rw[t]at g;cases g;exact λa0 S1=>q _ m1 H1 b1 U W qvj
   |bk d1=>rw[t]at g; cases g
def ql1{K:Qqq}{st:Stmt}(p:FTab P w K mg base glo fns names n)(t:Mo K mg glo w.params)(k:fns[f]?=Y F)(a:Fun K nm x st o l)(c:FnScope N ps (qzy st))(j:CkSs ⟨N,qzy st,names,glo⟩ F.body (qzt st))(h:F.np=ps.length)(i:F.nl=N.length):FnOk P w K mg base CX0 (2*(n+1)) o l ps (spN K fns (n+1) f):=
 FnOk.iso (qpv p t k a c j h i) λvs H Q E ⟨m,st,ds,d,st',R,b,e,q⟩=>by
  have e:M.stepCall fns (M.Lv fns n) f ds st=Y (d,st'):=e;unfold M.stepCall at e;rw[k]at e;dsimp only at e
  split at e
  ·rcases M.iso_is e with e|⟨N,es,S,d1,S1,⟨rfl,hS,r⟩,g,s⟩
   ·exact .inl ⟨m,st,ds,d,st',R,b,e,q⟩
   ·cases s;exact .inr ⟨_,qit R,m.drop N,S,es,d1,S1,qnw R hS,(qj5 es vs).mp b |> qz0 (λ_ _ z=>z) (qls R) _ _,g,qhe R r q⟩
  ·exact .inl ⟨m,st,ds,d,st',R,b,e,q⟩
def tab_ok{K:Qqq}(T:∀f x,names[f]?=Y x->FText K mg fns names glo f x)(t:Mo K mg glo w.params):
  ∀n,FTab P w K mg base glo fns names n:=by
 intro n
 induction n with
 |zero=>
  intro f x j;obtain⟨nm,l,fd,st,N,ps,F,o,a,k,hb,b,i,c,g⟩:=(T f x j).ex;refine⟨l,fd,ps,k,?_,a.kp,hb⟩;refine⟨λvs H Q E h=>?_,λA outer s H p u vs Q E hr v r hv h=>?_⟩
  ·obtain⟨m,st,ds,d,st',_,_,e,_⟩:=h; cases e
  ·obtain⟨m,st,ds,d,st',_,_,e,_⟩:=h; cases e
 |succ n q=>
  intro f x j;obtain⟨nm,l,fd,st,N,ps,F,o,a,k,hb,b,i,c,g⟩:=(T f x j).ex;exact⟨l,fd,ps,k,ql1 q t o a b i c g,a.kp,hb⟩
abbrev qm0(K:Qqq):Sp:=λvs H Q _=>∃(a:Y5) (ns:Z J),vs=[.ref a]/\SqF K H a (ns.map V.int)/\ns.length<=63/\∀H',Q (.bl L) H'
def law_sp{K:Qqq}(h:∀ns:Z J,ns.length<=63->∃st',M.callD fns n f [.lst (ns.map D.int)] []=Y (.bl L,st'))(vs)(H)(Q)(E)(q:qm0 K vs H Q E):spN K fns n f vs H Q E:=by
 obtain⟨a,ns,rfl,hS,hl,k⟩:=q;obtain⟨st',e⟩:=h ns hl;refine⟨[],[],[.lst (ns.map D.int)],.bl L,st',⟨rfl,λl o b c r d j g p w m=>?_,λl c b d j=>?_⟩,qzn (qb4 hS (qxk ns)) qqk,e,λv m' H' _ _ _ i=>?_⟩
 ·simp at g
 ·simp at d
 ·rw[i.bl]; exact k H'
def qov{K:Qqq}(b:Only H)(h:SqL K H a xs):SqF K H a xs:=by
 rcases h with (h|⟨o,h⟩)|h
 ·rcases b a with z|⟨ob,ys,z⟩
  ·rw[h]at z; cases z
  ·rw[h]at z; cases z
 ·exact .inl ⟨o,h⟩
 ·exact .inr h
def walk_law{l:PySem.W.OpenLaw}{K:Qp->Qqq}(hn:l.most=Y 63)(b:d.params.defaults=[])(hr:Room k Z1)(e:∀(w:Qj) (h:Heap),YP w h->(K w.params).In h)(F:∀(w:Qj) (mg:Y4->Y2 Y7) (c:Y5) (h:Heap),(K w.params).In h->h.Ns mainGlobals mg->mg d.name=Y (.ref c)->
   ∃fd:Qn,(∀(s:Qz) (u:Y7),BindsTo s fd ⟨[u],[]⟩ [(x,u)])/\∀base:Heap,(K w.params).In base->base.Ns mainGlobals mg->FnOk l.prog w (K w.params) mg base CX0 k c fd [x] (qm0 (K w.params))):
  PySem.W.WalkO q loose XP YP l.row.toRowW d [] (λf vs=>PySem.call f vs):=
 L2.walk_of hn ?c b hr e F (λ_ _ a ns hl g hS=>⟨a,ns,rfl,qov g hS,hl,λ_=>rfl⟩) λ_ _ _ _ _ z=>z
def qg1(elt)(gs)(sc)(q)(t)(p)(line)(env):swapsWith (.ListComp elt gs sc q) (Y (.Name t p)) line env=pure Y6\/swapsWith (.ListComp elt gs sc q) (Y (.Name t p)) line env=pure true:=by
 have e:swapsWith (.ListComp elt gs sc q) (Y (.Name t p)) line env=pure (env.blockKind==.function&&env.kindOf t==Y .local&&p.line==q.line && !(sc.names.any λ(n,k)=>n==t&&(k==.local||k==.cell))):=rfl;rw[e]
 cases (env.blockKind==.function&&env.kindOf t==Y .local&&p.line==q.line && !(sc.names.any λ(n,k)=>n==t&&(k==.local||k==.cell))) with
 |false=>exact .inl rfl
 |true=>exact .inr rfl
inductive ClK (K:Qqq) (cn:Y4) (C:Y5):Prop
 |mk (a:Qjd K mainGlobals cn=Y (Y (.ref C))) (pg:PySem.W.plainGet K C Str.empty=L) (hd:PySem.W.hasDictIn K C=L) (po:PySem.W.plainOver K C=L) (sa:PySem.W.findIn K (.ref C) "__setattr__" = Y (Y (.builtin "object.__setattr__"))) (mk:PySem.W.makesIn K C=L) (kp:Qz7 K (.ref C)=L):ClK K cn C
def ClK.cls{K:Qqq}(h:ClK K b C):Cls K C:=by
 cases h with
 |mk a pg hd po sa mk kp=>exact⟨pg,hd,po,sa⟩
def ClK.mo{K:Qqq}(q:ClK K b C)(X:K.In h)(G:h.Ns mainGlobals mg):mg b=Y (.ref C)/\Cls K C/\PySem.W.makesIn K C=L/\Qz7 K (.ref C)=true:=by
 have c:=q.cls
 cases q with
 |mk a pg hd po sa mk kp=>exact⟨Qjl X G a,c,mk,kp⟩
abbrev sq(a b:Y4):Bool:=a.cps.toList==b.cps.toList
def qqw(h:sq a b=L):a=b:=by
 obtain⟨⟨a⟩⟩:=a;obtain⟨⟨b⟩⟩:=b;have:a=b:=by simpa[sq] using h
 rw[this]
def qw6(a):sq a a=true:=by simp[sq]
def qbi(h:(!sq a b)=L):(a==b)=false:=by
 cases e:a==b with
 |false=>rfl
 |true=>
  rw[beq_iff_eq]at e;rw[e,qw6]at h;cases h
abbrev gd{α:Type}(b:Yb)(x:Y2 α):Y2 α:=bif b then x else B
def gd_iff:gd b x=Y e↔b=L/\x=Y e:=by cases b<;>simp[gd]
abbrev lk:Z (Y4×Ql)->Y4->Y2 Ql
 |[],_=>B
 |(y,k)::r,x=>bif sq x y then Y k else lk r x
theorem qwq:∀{l}{x},lk l x=l.lookup x
 |[],_=>rfl
 |(y,k)::r,x=>by
  unfold lk;rw[Qzl]
  cases e:sq x y with
  |true=>rw[qqw e,beq_self_eq_true]; rfl
  |false=>
   have:(x==y)=false:=by
    cases a:x==y with
    |false=>rfl
    |true=>rw[beq_iff_eq]at a; rw[a,qw6]at e; cases e
   rw[this];exact qwq
abbrev ixS(x:Y4):Z Y4->Y2 Y0
 |[]=>B
 |y::r=>bif sq y x then Y 0 else(ixS x r).map (· + 1)
theorem ixS_eq:∀{N}{i},ixS x N=Y i->N[i]?=Y x
 |[],_,h=>nomatch h
 |y::r,i,h=>by
  unfold ixS at h
  cases e:sq y x with
  |true=>rw[e]at h; cases h; rw[qqw e]; rfl
  |false=>
   rw[e]at h;obtain⟨j,hj,rfl⟩:=Qqy.mp (h);exact(ixS_eq hj :)
abbrev kG:Y2 Ql->Yb
 |some .globalImplicit=>L
 |_=>Y6
abbrev kL:Y2 Ql->Yb
 |some .local=>L
 |some .cell=>L
 |_=>Y6
abbrev kV:Y2 Ql->Yb
 |some .local=>L
 |some .cell=>L
 |some .free=>L
 |_=>Y6
def kG_eq(h:kG o=L):o=Y .globalImplicit:=by
 unfold kG at h; split at h
 ·rfl
 ·cases h
def kL_eq(h:kL o=L):o=Y .local\/o=Y .cell:=by
 unfold kL at h; split at h
 ·exact .inl rfl
 ·exact .inr rfl
 ·cases h
def qos(h:kV o=L):o=Y .local\/o=Y .cell\/o=Y .free:=by
 unfold kV at h; split at h
 ·exact .inl rfl
 ·exact .inr ?qu
 ·exact .inr (.inr rfl)
 ·cases h
abbrev isG(c:Ctx)(x:Y4):Bool:=kG (lk c.sc.names x)
abbrev isL(c:Ctx)(x:Y4):Bool:=kL (lk c.sc.names x)
def qz5(h:isG c x=L):c.sc.names.lookup x=Y .globalImplicit:=qwq▸kG_eq h
def qat(h:isL c x=L):c.sc.names.lookup x=Y .local\/c.sc.names.lookup x=Y .cell:=qwq▸kL_eq h
abbrev noD(x:Y4):Bool:=!sq x ("__debug__" : Y4)
abbrev swOk:Expr->Yb
 |.ListComp ..=>Y6
 |.SetComp ..=>Y6
 |.DictComp ..=>Y6
 |_=>L
def sw_ok(h:swOk p=L)(t)(l)(env):swapsWith p t l env=pure false:=by
 cases p<;>first|rfl|cases h
abbrev qx3{α:Type}(k:Y4->Pos->Y2 α):Expr->Y2 α
 |.Name x q=>k x q
 |_=>B
abbrev qd4{α:Type}(k:Z Expr->Y2 α):Expr->Y2 α
 |.Tuple es _ _=>k es
 |_=>B
abbrev onSl{α:Type}(k:Y2 Expr->Y2 Expr->Y2 α):Expr->Y2 α
 |.Slice lo hi s _=>gd s.isNone (k lo hi)
 |_=>B
abbrev qd5{α:Type}(k:Y4->Pos->Z Expr->Pos->Y2 α):Expr->Y2 α
 |.Call g ps ks pos=>gd ks.isEmpty (qx3 (λx q=>k x q ps pos) g)
 |_=>B
abbrev onAt{α:Type}(k:Expr->Y4->Pos->Y2 α):Expr->Y2 α
 |.Attribute a m q=>k a m q
 |_=>B
abbrev onC{α β:Type}(k:β->Z β->Y2 α):Z β->Y2 α
 |[]=>B
 |p::r=>k p r
abbrev on1{α β:Type}(k:β->Y2 α):Z β->Y2 α:=onC λa r=>gd r.isEmpty (k a)
abbrev on2{α β:Type}(k:β->β->Y2 α):Z β->Y2 α:=onC λa=>on1 (k a)
noncomputable abbrev TrE:=Ctx->Expr->Y2 E
abbrev qct(c:Ctx)(x:Y4):Y2 E:=
 bif isG c x then(c.glo.cs.find? λq=>sq q.1 x).bind λq=>gd (noD x) (Y (.glo q.1 q.2))
 else(ixS x c.N).bind λi=>gd (kV (lk c.sc.names x)&&noD x && !sq x ("__classdict__" : Y4)) (Y (.var i))
abbrev trL(f:Expr->Y2 E):Z Expr->Y2 (Z E)
 |[]=>Y []
 |p::r=>(f p).bind λe=>(trL f r).map (e::·)
abbrev trP(f:Expr->Y2 E):Z (Y2 Expr)->Z Expr->Y2 (Z E)
 |[],vs=>gd vs.isEmpty (Y [])
 |k::ks,vs=>k.bind λk=>onC (λv vs=>(f k).bind λa=>(f v).bind λb=>(trP f ks vs).map λr=>a::b::r) vs
abbrev trO(f:Expr->Y2 E):Y2 Expr->Y2 (Y2 E)
 |none=>Y B
 |some p=>(f p).map Y
abbrev qpj(c:Ctx):Expr->Y2 (Y4×Z Y4×Z D):=
 qx3 λx _=>gd (isG c x&&noD x) (c.glo.ds.find? λq=>sq q.1 x)
abbrev inNeg:CmpOp->Y2 Yb
 |.In=>Y Y6
 |.NotIn=>Y L
 |_=>B
abbrev trCmp(o:Y0)(f:Expr->Y2 E)(c:Ctx)(a:Expr)(op:CmpOp)(b:Expr):Y2 E:=
 ((inNeg op).bind λneg=>((qpj c b).bind λq=>(f a).map λx=>.gin neg q.1 q.2.1 x).or
  (gd (o==1) ((f a).bind λx=>(f b).map λy=>.din neg x y))).or
 ((f a).bind λx=>(f b).map λy=>.cmp op x y)
abbrev trSub(o:Y0)(f:Expr->Y2 E)(c:Ctx)(a b:Expr):Y2 E:=
 (onSl (λlo hi=>(f a).bind λx=>(trO f lo).bind λl=>(trO f hi).map λh=>.sli x l h) b).or
 (((qpj c a).bind λq=>(f b).map λy=>.gidx q.1 q.2.1 q.2.2 y).or
 ((f a).bind λx=>(f b).map λy=>bif o==1 then .didx x y else .idx x y))
abbrev bOf(x:Y4):Y2 M.Bq:=[M.Bq.len,.min,.tuple,.list,.all,.sorted,.any,.max,.dict].find? λb=>sq (Str.ofString (qpt b)) x
abbrev tyOf(x:Y4):Y2 M.Ty:=[M.Ty.bl,.int,.str,.tup,.lst].find? λt=>sq (Str.ofString t.name) x
abbrev qmf(c:Ctx):Z Expr->Y2 (Z M.Ty)
 |[]=>Y []
 |p::r=>qx3 (λx _=>(tyOf x).bind λt=>gd (isG c x) ((qmf c r).map (t::·))) p
abbrev mOf(x:Y4):Y2 M.Mt:=[M.Mt.append,.extend,.index,.insert,.pop].find? λk=>sq (mName k) x
abbrev trIsi(f:Expr->Y2 E)(c:Ctx)(a t:Expr):Y2 E:=
 (qx3 (λx _=>(tyOf x).bind λt=>gd (isG c x) ((f a).map λe=>.isi e [t] Y6)) t).or
 (qd4 (λps=>(qmf c ps).bind λts=>gd (decide (ts.length<=1000)) ((f a).map λe=>.isi e ts L)) t)
abbrev trFun(f:Expr->Y2 E)(c:Ctx)(x:Y4)(p:Expr)(r:Z Expr):Y2 E:=
 ((ixS x c.fns).bind λk=>gd (qh0 x) ((trL f (p::r)).map (.call k))).or
 (((c.glo.cl.find? λq=>sq q.1 x).bind λq=>(c.glo.ms.find? λz=>z.2.1==q.2&&sq z.2.2 ("__init__" : Y4)).bind λz=>gd (c.fns[z.1]?).isSome ((trL f (p::r)).map (.new q.2 z.1))).or
 ((gd (sq x ("isinstance" : Y4)) (on1 (λt=>trIsi f c p t) r)).or
 ((bOf x).bind λb=>gd (bOk b) ((trL f (p::r)).map (.bcall b)))))
abbrev qlh(c:Ctx)(x:Y4):Z Expr->Y2 Expr:=
 on1 (qd5 λy _ as _=>on1 (λa=>gd (sq x ("len" : Y4)&&sq y ("set" : Y4)&&isG c y) (Y a)) as)
abbrev qc0(o:Y0)(f:Expr->Y2 E)(c:Ctx)(a:Expr)(m:Y4)(apos:Pos)(ps:Z Expr)(pos:Pos):Y2 E:=
 gd (apos.endLine==pos.line) (bif Nat.ble 3 o then
  (c.glo.ms.find? λz=>z.2.1==o - 3&&sq z.2.2 m).bind λz=>(c.glo.cl.find? λq=>q.2==o - 3).bind λ_=>
   gd ((c.fns[z.1]?).isSome&&decide (ps.length<30)) ((f a).bind λe=>(trL f ps).map λes=>.mcall z.2.1 z.1 z.2.2 e es)
 else onC (λp r=>bif sq m ("get" : Y4) then(f a).bind λe=>(f p).bind λy=>gd r.isEmpty (Y (.dgt e y))
   else(mOf m).bind λk=>gd (decide ((p::r).length<30)) ((f a).bind λe=>(trL f (p::r)).map λes=>.meth e k es)) ps)
abbrev trTs(c:Ctx):Z Expr->Y2 (Z Y0)
 |[]=>Y []
 |p::r=>qx3 (λx _=>(ixS x c.N).bind λi=>gd (isL c x) ((trTs c r).map (i::·))) p
abbrev trT(c:Ctx)(p:Expr):Y2 T:=
 (qx3 (λx _=>(ixS x c.N).bind λi=>gd (isL c x) (Y (.var i))) p).or (qd4 (λes=>(trTs c es).map .tup) p)
abbrev trR(f:Expr->Y2 E)(tg:Expr)(x:Y4)(ps:Z Expr):Y2 E:=
 bif sq x ("range" : Y4) then(on1 (λa=>(f a).map .rng1) ps).or (on2 (λa b=>(f a).bind λx=>(f b).map λy=>.rng2 x y) ps)
 else bif sq x ("zip" : Y4) then qd4 (λ_=>on2 (λa b=>(f a).bind λx=>(f b).map λy=>.zip x y) ps) tg
 else bif sq x ("enumerate" : Y4) then qd4 (λ_=>on1 (λa=>(f a).map .enu) ps) tg
 else gd (sq x ("reversed" : Y4)) (on1 (λa=>(f a).map .rev) ps)
abbrev trI(f:Expr->Y2 E)(c:Ctx)(tg e:Expr):Y2 E:=
 (qd5 (λx _ ps _=>gd (isG c x) (trR f tg x ps)) e).or (f e)
abbrev ndB:Z Y4->Yb
 |[]=>L
 |x::r=>!(r.any (sq x))&&ndB r
abbrev inN(sc:Scope):Z Y4:=(sc.names.filter λy=>y.2==.local && !sq y.1 (".0" : Y4)).map (·.1)++(sc.names.filter λy=>y.2==.free).map (·.1)
abbrev inS(sc:Scope)(N:Z Y4):Z (Y2 Y0):=(inN sc).map λx=>bif kV (lk sc.names x) && !kL (lk sc.names x) then ixS x N else B
abbrev compOk(c:Ctx)(sc:Scope):Bool:=sc.kind==.function&&sc.names.all (λy=>y.2 != .cell)&&sc.names.all (λy=>y.2 != .free||(kV (lk c.sc.names y.1)&&lk c.sc.names y.1 != Y .local))&&sc.names.all (λy=>y.2 != .local||lk sc.names y.1==Y .local)&&ndB (inN sc)
abbrev qy2(R:TrE)(c:Ctx)(elt tg iter:Expr)(ifs:Y2 Expr)(sc:Scope):Y2 E:=
 gd (compOk c sc&&shOk iter) ((trI (R c) c tg iter).bind λi=>(trT (c.inn (inN sc) sc) tg).bind λt=>gd (tlOk (inN sc) (qbs sc c.sc) t)
  ((trO (R (c.inn (inN sc) sc)) ifs).bind λk=>(R (c.inn (inN sc) sc) elt).map λe=>.comp t i k e (inS sc c.N)))
abbrev trC:Const->Y2 E
 |.int i=>Y (.lit (.int i))
 |.bool i=>Y (.lit (.bl i))
 |.none=>Y (.lit .non)
 |.str i=>Y (.lit (.str i))
 |_=>B
abbrev trU(f:Expr->Y2 E)(a:Expr):UnaryOp->Y2 E
 |.USub=>(f a).map .neg
 |.Not=>(f a).map .not
 |_=>B
abbrev bo:BoolOp->E->E->E
 |.And=>.and
 |.Or=>.or
abbrev trBo(f:Expr->Y2 E)(op:BoolOp)(pos:Pos):Z Expr->Y2 E:=
 onC λa r=>(f a).bind λx=>onC (λb r=>(f (bif r.isEmpty then b else .BoolOp op (b::r) pos)).map λy=>bo op x y) r
abbrev trCp(o:Y0)(f:Expr->Y2 E)(c:Ctx)(a:Expr)(os:Z CmpOp)(bs:Z Expr):Y2 E:=
 (on1 (λop=>on1 (λb=>trCmp o f c a op b) bs) os).or
 (on2 (λop op'=>on2 (λb d=>(f a).bind λx=>(f b).bind λy=>(f d).map λz=>.cmp2 op op' x y z) bs) os)
abbrev trCl(o:Y0)(f:Expr->Y2 E)(c:Ctx)(pos:Pos)(g:Expr)(ps:Z Expr)(ks:Z Zs):Y2 E:=
 gd ks.isEmpty ((qx3 (λx _=>onC (λp r=>gd (isG c x&&noD x) (((qlh c x (p::r)).bind λa=>(f a).map .lenset).or (trFun f c x p r))) ps) g).or
 (onAt (λa m apos=>qc0 o f c a m apos ps pos) g))
abbrev trDi(o:Y0)(f:Expr->Y2 E)(ks:Z (Y2 Expr))(vs:Z Expr):Y2 E:=
 gd (decide (ks.length<=15)) ((trP f ks vs).map .dic)
abbrev trLc(o:Y0)(R:TrE)(c:Ctx)(elt:Expr)(sc:Scope):Z Comprehension->Y2 E:=
 on1 λg=>gd (g.is_async==0) ((gd g.ifs.isEmpty (qy2 R c elt g.target g.iter B sc)).or (on1 (λq=>qy2 R c elt g.target g.iter (Y q) sc) g.ifs))
abbrev trX(o:Y0)(R:TrE)(c:Ctx):Expr->Y2 E
 |.Name x _=>qct c x
 |.Constant k _ _=>trC k
 |.BinOp a op b _=>(R c a).bind λx=>(R c b).map λy=>.bin op x y
 |.UnaryOp op a _=>trU (R c) a op
 |.BoolOp op ps pos=>trBo (R c) op pos ps
 |.Compare a os bs _=>trCp o (R c) c a os bs
 |.IfExp q a b _=>(R c q).bind λx=>(R c a).bind λy=>(R c b).map λz=>.ite x y z
 |.Tuple ps _ _=>(trL (R c) ps).map .tup
 |.List ps _=>(trL (R c) ps).map .lst
 |.Subscript a b _=>trSub o (R c) c a b
 |.Call g ps ks pos=>trCl o (R c) c pos g ps ks
 |.Attribute a f _=>gd (Nat.ble 3 o) ((c.glo.ats.find? λz=>z.1==o - 3&&sq z.2 f).bind λz=>(R c a).map λe=>.attr z.1 e z.2)
 |.Dict ks vs _=>trDi o (R c) ks vs
 |.ListComp elt gs sc _=>trLc o R c elt sc gs
 |_=>B
abbrev isGc:E->Yb
 |.gc _=>L
 |_=>Y6
abbrev pk(p:Pos):Nat:=(p.line*1000+p.col)*1000+p.endCol
abbrev trF(o:Y0->Y0)(R:TrE):TrE:=λc p=>gd (shOk p) (match o (pk p.pos) with
 |n=>(trX (n / 2) R c p).bind λe=>gd (qv0 e) (Y (bif (n % 2==1)&&gcOk p && !isGc e then .gc e else e)))
abbrev trE(o:Y0->Y0):Y0->TrE
 |0=>λ_ _=>B
 |n+1=>trF o (trE o n)
def mD{α c:Type}{o:Y2 α}{f:α->c}{b:c}(h:o.map f=Y b):∃a,o=Y a/\f a=b:=Qqy.mp h
def aD(h:(a&&b)=L):a=L/\b=true:=(Qqt _ _).mp h
def bDk{α c:Type}{o:Y2 α}{f:α->Y2 c}{b:c}{P:Prop}(h:o.bind f=Y b)(k:∀a,o=Y a->f a=Y b->P):P:=qzx h k
def mDk{α c:Type}{o:Y2 α}{f:α->c}{b:c}{P:Prop}(h:o.map f=Y b)(k:∀a,o=Y a->f a=b->P):P:=qzd h k
def gDk{x:Y2 α}{e:α}{P:Prop}(h:gd b x=Y e)(k:b=L->x=Y e->P):P:=k (gd_iff.mp h).1 (gd_iff.mp h).2
def aDk{P:Prop}(h:(a&&b)=L)(k:a=L->b=L->P):P:=k ((Qqt _ _).mp h).1 ((Qqt _ _).mp h).2
def fD{α:Type}{p:α->Yb}{l:Z α}{a:α}(h:l.find? p=Y a):a∈l/\p a=true:=⟨Qzw h,Qz1 h⟩
def oDk{α:Type}{a b:Y2 α}{x:α}{P:Prop}(h:a.or b=Y x)(k:a=Y x->P)(c:b=Y x->P):P:=by
 cases a with
 |none=>exact c h
 |some y=>exact k h
def nmDk{k:Y4->Pos->Y2 α}{e:α}{P:Prop}(h:qx3 k p=Y e)(g:∀x q,p=.Name x q->k x q=Y e->P):P:=by
 cases p with
 |Name x q=>exact g x q rfl h
 |_=>exact nn h
def tuDk{k:Z Expr->Y2 α}{e:α}{P:Prop}(h:qd4 k p=Y e)(g:∀es j q,p=.Tuple es j q->k es=Y e->P):P:=by
 cases p with
 |Tuple x j q=>exact g x j q rfl h
 |_=>exact nn h
def slDk{k:Y2 Expr->Y2 Expr->Y2 α}{e:α}{P:Prop}(h:onSl k p=Y e)(g:∀a b q,p=.Slice a b B q->k a b=Y e->P):P:=by
 cases p with
 |Slice a b s q=>
  cases s with
  |none=>exact g a b q rfl h
  |some _=>exact nn h
 |_=>exact nn h
def clDk{k:Y4->Pos->Z Expr->Pos->Y2 α}{e:α}{P:Prop}(h:qd5 k p=Y e)(g:∀x q ps pos,p=.Call (.Name x q) ps [] pos->k x q ps pos=Y e->P):P:=by
 cases p with
 |Call f ps ks pos=>
  cases ks with
  |nil=>exact nmDk h λx q e h=>g x q ps pos (e▸rfl) h
  |cons _ _=>exact nn h
 |_=>exact nn h
def atDk{k:Expr->Y4->Pos->Y2 α}{e:α}{P:Prop}(h:onAt k p=Y e)(g:∀a m q,p=.Attribute a m q->k a m q=Y e->P):P:=by
 cases p with
 |Attribute a m q=>exact g a m q rfl h
 |_=>exact nn h
def cDk{k:b->Z b->Y2 α}{l:Z b}{e:α}{P:Prop}(h:onC k l=Y e)(g:∀a r,l=a::r->k a r=Y e->P):P:=by
 cases l with
 |nil=>exact nn h
 |cons a r=>exact g a r rfl h
def qx9{k:b->Y2 α}{l:Z b}{e:α}{P:Prop}(h:on1 k l=Y e)(g:∀a,l=[a]->k a=Y e->P):P:=
 cDk h λa r e h=>gDk h λhr h=>g a (by cases r with
  |nil=>exact e
  |cons _ _=>cases hr) h
def qgg{k:c->c->Y2 α}{l:Z c}{e:α}{P:Prop}(h:on2 k l=Y e)(g:∀a b,l=[a,b]->k a b=Y e->P):P:=
 cDk h λa _ e h=>qx9 h λb d h=>g a b (d▸e) h
def TrO(Q:Ctx->E->Expr->Prop)(R:TrE):Prop:=∀{c:Ctx}{p:Expr}{e:E},R c p=Y e->Q c e p
noncomputable abbrev Fo(Q:Ctx->E->Expr->Prop)(c:Ctx)(f:Expr->Y2 E):Prop:=∀{p:Expr}{e:E},f p=Y e->Q c e p
def inN_op(h:inNeg a=Y neg):a=inOp neg:=by cases a<;>first|(cases h; done)|(cases h; rfl)
def qcs(h:qct c x=Y e):CkV c e x:=by
 unfold qct at h
 cases g:isG c x with
 |true=>
  rw[g]at h;refine bDk h λq b h=>gDk h λhd h=>?_;cases h;obtain⟨d,a⟩:=fD b;cases qqw a;exact .glo (qz5 g) d (qbi hd)
 |false=>
  rw[g]at h;refine bDk h λi hi h=>gDk h λhd h=>?_;cases h;refine aDk hd λhd h2=>aDk hd λhd h1=>?_;rw[qwq]at hd;exact .var (ixS_eq hi) (qos hd) (qbi h1) (qbi h2)
section
variable (hf:Fo Q c f)
include hf
theorem qx0:∀{ps}{es},trL f ps=Y es->CkL (Q c) es ps
 |[],_,h=>by cases h; exact .nil
 |p::r,es,h=>by
  refine bDk h λe b h=>?_;obtain⟨t,a,rfl⟩:=mD h;exact .cons (hf b) (qx0 a)
theorem qi4:∀{ks}{vs}{es},trP f ks vs=Y es->CkP (Q c) es ks vs
 |[],vs,_,h=>gDk h λhv h=>by
  cases vs with
  |nil=>cases h; exact .nil
  |cons _ _=>cases hv
 |k::ks,vs,es,h=>bDk h λk hk h=>cDk h λv vs hv h=>by
  refine bDk h λa ha h=>bDk h λb hb h=>?_;obtain⟨t,d,rfl⟩:=mD h;subst hk hv;exact .cons (hf ha) (hf hb) (qi4 d)
theorem qcr(h:trO f p=Y e):CkO (Q c) e p:=by
 cases p with
 |none=>cases h; exact .none
 |some p=>
  obtain⟨e,a,rfl⟩:=mD h;exact .some (hf a)
theorem qa5(h:qpj c b=Y q):∃pos,b=.Name q.1 pos/\c.sc.names.lookup q.1=Y .globalImplicit/\(q.1,q.2.1,q.2.2)∈c.glo.ds/\(q.1==("__debug__" : Y4))=false:=
 nmDk h λx pos e h=>gDk h λh1 h=>aDk h1 λh1 h2=>by
  obtain⟨d,a⟩:=fD h;have:=qqw a;subst this e;exact⟨pos,rfl,qz5 h1,d,qbi h2⟩
theorem qgr(h:trCmp o f c a i b=Y e):CkG Q c e (.Compare a [i] [b] pos):=
 oDk h (λh=>bDk h λneg hn h=>by
  rw[inN_op hn];refine oDk h (λh=>bDk h λq j h=>?_) λh=>gDk h λ_ h=>bDk h λx d h=>?_
  ·obtain⟨x,d,rfl⟩:=mD h;obtain⟨p0,rfl,h1,h2,k⟩:=qa5 hf j;exact .gin h1 h2 k (hf d)
  ·obtain⟨y,g,rfl⟩:=mD h
   exact .din (hf d) (hf g)) λh=>bDk h λx d h=>by
  obtain⟨y,g,rfl⟩:=mD h;exact .cmp (hf d) (hf g)
theorem qgn(h:trSub o f c a b=Y e):CkG Q c e (.Subscript a b pos):=by
 refine oDk h (λh=>slDk h λlo hi p0 m h=>bDk h λx d h=>bDk h λl hl h=>?_) λh=>oDk h (λh=>bDk h λq i h=>?_) λh=>bDk h λx d h=>?_
 ·obtain⟨k,hk,rfl⟩:=mD h;subst m;exact .sli (hf d) (qcr hf hl) (qcr hf hk)
 ·obtain⟨x,d,rfl⟩:=mD h;obtain⟨p0,rfl,h1,h2,j⟩:=qa5 hf i;exact .gidx h1 h2 j (hf d)
 ·obtain⟨y,g,rfl⟩:=mD h
  cases n:o==1 with
  |false=>exact .idx (hf d) (hf g)
  |true=>exact .didx (hf d) (hf g)
omit hf in
theorem qch(h:tyOf x=Y t):t≠.non/\Str.ofString t.name=x:=by
 obtain⟨h1,h2⟩:=fD h;refine⟨?_,qqw h2⟩;rintro rfl;simp at h1
omit hf in
theorem qy0:∀{ps}{a},qmf c ps=Y a->CkTys c a ps
 |[],_,h=>by cases h; exact .nil
 |p::r,a,h=>nmDk h λx q e h=>bDk h λt d h=>gDk h λg h=>by
  obtain⟨a,b,rfl⟩:=mD h;obtain⟨h1,rfl⟩:=qch d;subst e;exact .cons h1 (qz5 g) (qy0 b)
theorem qgo(g:c.sc.names.lookup ("isinstance" : Y4)=Y .globalImplicit)(h:trIsi f c a t=Y e):CkG Q c e (.Call (.Name "isinstance" p0) [a,t] [] pos):=by
 refine oDk h (λh=>nmDk h λx q ex h=>bDk h λt b h=>gDk h λi h=>?_) λh=>tuDk h λps j q ex h=>bDk h λts b h=>gDk h λi h=>?_
 ·obtain⟨e,d,rfl⟩:=mD h;obtain⟨h1,rfl⟩:=qch b;subst ex;exact .isi1 g h1 (qz5 i) (hf d)
 ·obtain⟨e,d,rfl⟩:=mD h;subst ex;exact .isiN (of_decide_eq_true i) g (qy0 b) (hf d)
theorem bc_ok(g:isG c x=L)(h:((bOf x).bind λb=>gd (bOk b) ((trL f (p::ps)).map (.bcall b)))=Y e):CkG Q c e (.Call (.Name x p0) (p::ps) [] pos):=by
 refine bDk h λb hb h=>gDk h λh1 h=>?_;obtain⟨es,a,rfl⟩:=mD h;have:=qqw (fD hb).2;subst this;exact .bcall (qz5 g) h1 (qx0 hf a)
theorem qgp(g:isG c x=L)(hd:noD x=L)(h:trFun f c x p r=Y e):CkG Q c e (.Call (.Name x p0) (p::r) [] pos):=by
 refine oDk h (λh=>bDk h λk hk h=>gDk h λh1 h=>?_) λh=>oDk h (λh=>bDk h λq n h=>bDk h λz i h=>gDk h λh1 h=>?_) λh=>oDk h (λh=>gDk h λhi h=>qx9 h λt m h=>?_) (bc_ok hf g)
 ·obtain⟨es,d,rfl⟩:=mD h;exact .call (qz5 g) (ixS_eq hk) (qbi hd) h1 (qx0 hf d)
 ·obtain⟨es,d,rfl⟩:=mD h;obtain⟨y,j⟩:=Qxz.mp h1;obtain⟨o,l⟩:=fD n;obtain⟨b,a⟩:=fD i;refine aDk a λha hb=>?_;have:=qqw l;subst this;obtain⟨w,A,v⟩:=z;have u:=qqw hb;have s:=eq_of_beq ha;subst u s;exact .new (qz5 g) j b o (qbi hd) (qx0 hf d)
 ·have:=qqw hi;subst this m;exact qgo hf (qz5 g) h
omit hf in
theorem qea(h:qlh c x ps=Y a):x=("len" : Y4)/\∃q b,ps=[.Call (.Name "set" q) [a] [] b]/\c.sc.names.lookup ("set" : Y4)=Y .globalImplicit:=
 qx9 h λp e h=>clDk h λy q k b j h=>qx9 h λl i h=>gDk h λh1 h=>by
  cases h;refine aDk h1 λh1 g=>aDk h1 λd h1=>?_;have:=qqw h1;subst this i j e;exact⟨qqw d,q,b,rfl,qz5 g⟩
theorem qcu(h:qc0 o f c a m b ps pos=Y e):CkG Q c e (.Call (.Attribute a m b) ps [] pos):=by
 unfold qc0 at h;refine gDk h λhl h=>?_
 cases t:Nat.ble 3 o with
 |true=>
  rw[t]at h;refine bDk h λz v h=>bDk h λq w h=>gDk h λh1 h=>aDk h1 λh1 h2=>bDk h λx d h=>?_;obtain⟨es,s,rfl⟩:=mD h;obtain⟨y,i⟩:=Qxz.mp h1;obtain⟨A,g⟩:=fD v;obtain⟨l,j⟩:=fD w;refine aDk g λha hb=>?_;obtain⟨H,I,G⟩:=z;obtain⟨K,N⟩:=q;have F:=qqw hb;have D:=eq_of_beq ha;have u:=eq_of_beq j;subst F;rw[<- D]at u;subst u;exact .mcall (hf d) i A l (qx0 hf s) (of_decide_eq_true h2) hl
 |false=>
  rw[t]at h;refine cDk h λp r C h=>?_;subst C
  cases n:sq m ("get" : Y4) with
  |true=>
   cases qqw n;rw[n]at h;refine bDk h λx d h=>bDk h λy i h=>?_
   cases r with
   |nil=>
    cases h;exact .dgt (hf d) (hf i) hl
   |cons P r=>exact nn h
  |false=>
   rw[n]at h;refine bDk h λk hk h=>gDk h λhn h=>bDk h λx d h=>?_;obtain⟨es,s,rfl⟩:=mD h;have:=qqw (fD hk).2;subst this;exact .meth (hf d) (qx0 hf s) (of_decide_eq_true hn) hl
omit hf in
theorem qw3:∀{es}{is},trTs c es=Y is->CkTs c is es
 |[],_,h=>by cases h; exact .nil
 |p::r,is,h=>nmDk h λx q e h=>bDk h λi hi h=>gDk h λg h=>by
  obtain⟨ts,a,rfl⟩:=mD h;subst e;exact .cons (ixS_eq hi) (qat g) (qw3 a)
omit hf in
theorem qcp(h:trT c p=Y t):CkT c t p:=by
 refine oDk h (λh=>nmDk h λx q e h=>bDk h λi hi h=>gDk h λg h=>?_) λh=>tuDk h λes j q e h=>?_
 ·cases h;subst e;exact .var (ixS_eq hi) (qat g)
 ·obtain⟨a,hi,rfl⟩:=mD h;subst e;exact .tup (qw3 hi)
theorem trR_ok(g:isG c x=L)(h:trR f tg x ps=Y e):CkI (Q c) c tg e (.Call (.Name x q) ps [] pos):=by
 unfold trR at h
 cases d:sq x ("range" : Y4) with
 |true=>
  rw[d]at h;have:=qqw d;subst this;refine oDk h (λh=>qx9 h λa i h=>?_) λh=>qgg h λa b i h=>bDk h λx d h=>?_
  ·obtain⟨x,d,rfl⟩:=mD h;subst i;exact .rng1 (qz5 g) (hf d)
  ·obtain⟨y,j,rfl⟩:=mD h;subst i;exact .rng2 (qz5 g) (hf d) (hf j)
 |false=>
  rw[d]at h
  cases d:sq x ("zip" : Y4) with
  |true=>
   rw[d]at h;have:=qqw d;subst this;refine tuDk h λ_ _ _ k h=>qgg h λa b i h=>bDk h λx d h=>?_;obtain⟨y,j,rfl⟩:=mD h;subst k i;exact .zip (qz5 g) (hf d) (hf j)
  |false=>
   rw[d]at h
   cases d:sq x ("enumerate" : Y4) with
   |true=>
    rw[d]at h;have:=qqw d;subst this;refine tuDk h λ_ _ _ k h=>qx9 h λa i h=>?_;obtain⟨y,j,rfl⟩:=mD h;subst k i;exact .enu (qz5 g) (hf j)
   |false=>
    rw[d]at h;refine gDk h λd h=>qx9 h λa i h=>?_;have:=qqw d;subst this i;obtain⟨y,j,rfl⟩:=mD h;exact .rev (qz5 g) (hf j)
theorem qi5(h:trI f c tg p=Y e):CkI (Q c) c tg e p:=
 oDk h (λh=>clDk h λx q ps pos a h=>gDk h λg h=>by
  rw[a]
  exact trR_ok hf g h) λh=>.seq (hf h)
end
theorem qad:∀{l},ndB l=L->l.Nodup
 |[],_=>.nil
 |x::r,h=>by
  refine aDk h λh1 h2=>Qzj.mpr ⟨λa=>?_,qad h2⟩;rw[Qz2.mpr ⟨x,a,qw6 x⟩]at h1;cases h1
def qvm{R:TrE}(r:TrO Q R)(h:qy2 R c elt tg a ifs sc=Y e):CkG Q c e (.ListComp elt [⟨tg,a,ifs.toList,0⟩] sc pos):=by
 unfold qy2 at h;refine gDk h λb h=>aDk b λb p=>aDk b λb w=>aDk b λb A=>aDk b λb C=>aDk b λh1 h2=>bDk h λi hi h=>bDk h λt u h=>gDk h λo h=>?_;have hk:=eq_of_beq h1;have f:=λy g=>by
  have:=Qze.mp h2 y g;simpa using this
 have d:∀y∈sc.names,y.2=.free->c.sc.names.lookup y.1=Y .cell\/c.sc.names.lookup y.1=Y .free:=λy g e=>by
  have:=Qze.mp C y g;rw[e]at this;refine aDk (this) λha hb=>?_;rw[qwq]at ha hb;rcases qos ha with z|z|z
  ·rw[z]at hb; cases hb
  ·exact .inl z
  ·exact .inr z
 have m:∀y∈sc.names,y.2=.local->sc.names.lookup y.1=Y .local:=λy g e=>by
  have:=Qze.mp A y g;rw[e]at this;rw[<- qwq];exact eq_of_beq (this)
 have n:(inS sc c.N).length=(inN sc).length:=by unfold inS; rw[Qqz]
 have l:∀(j i:Y0),(inS sc c.N)[j]?=Y (Y i)->∃x,(inN sc)[j]?=Y x/\c.N[i]?=Y x/\sc.names.lookup x=Y .free:=λj i hj=>by
  unfold inS at hj;rw[Qqv]at hj;refine mDk hj λx s hj=>⟨x,s,?_⟩
  cases hb:kV (lk sc.names x) && !kL (lk sc.names x) with
  |false=>rw[hb]at hj; cases hj
  |true=>
   rw[hb]at hj;refine aDk hb λha hb=>⟨ixS_eq hj,?_⟩
   rw[<- qwq];rcases qos ha with z|z|z
   ·rw[z]at hb; cases hb
   ·rw[z]at hb; cases hb
   ·exact z
 have hs:=λenv x=>qm6 p env x;have ok:CpOk c sc (inS sc c.N) (inN sc) a t:=⟨hk,f,d,m,n,l,qad w,hs,o⟩
 refine bDk h λk q h=>?_;obtain⟨e,v,rfl⟩:=mD h;exact .comp ok (qi5 (r) hi) (qcp u) (qcr r q) (r v)
def bo_ok(h:Q c x p)(k:Q c y (boT a pos (q::r))):CkG Q c (bo a x y) (.BoolOp a (p::q::r) pos):=by
 cases a with
 |And=>exact .and h k
 |Or=>exact .or h k
def trX_ok{R:TrE}(l:TrO Q R)(T:shOk p=L)(h:trX o R c p=Y e):CkG Q c e p:=by
 cases p with
 |Name x q=>
  exact .nm (qcs h)
 |Constant k _ _=>
  cases k with
  |int i=>cases h; exact .int
  |bool i=>cases h; exact .bl
  |none=>cases h; exact .non
  |str i=>cases h; exact .str
  |_=>exact nn h
 |BinOp a s b q=>
  refine bDk h λx j h=>?_;obtain⟨y,n,rfl⟩:=mD h;exact .bin (l j) (l n)
 |UnaryOp s a q=>
  cases s with
  |USub=>
   obtain⟨x,j,rfl⟩:=mD h;exact .neg (l j)
  |Not=>
   obtain⟨x,j,rfl⟩:=mD h;exact .not (l j)
  |_=>exact nn h
 |BoolOp s ps q=>
  refine cDk h λa r F h=>bDk h λx j h=>cDk h λb r u h=>?_;obtain⟨y,n,rfl⟩:=mD h;subst u F;refine bo_ok (l j) ?_
  cases r with
  |nil=>exact l n
  |cons _ _=>exact l n
 |Compare a os bs q=>
  refine oDk h (λh=>qx9 h λs D h=>qx9 h λb u h=>?_) λh=>qgg h λs K D h=>qgg h λb d u h=>bDk h λx j h=>bDk h λy n h=>?_
  ·rw[D,u];exact qgr l h
  ·obtain⟨z,t,rfl⟩:=mD h;subst D u;exact .cmp2 (l j) (l n) (l t)
 |Tuple ps _ _=>
  obtain⟨x,j,rfl⟩:=mD h;exact .tup (qx0 l j)
 |List ps _=>
  obtain⟨x,j,rfl⟩:=mD h;exact .lst (qx0 l j)
 |Subscript a b _=>exact qgn l h
 |Call g ps ks q=>
  refine gDk h λhk h=>?_
  cases ks with
  |nil=>
   refine oDk h (λh=>nmDk h λx p0 w h=>cDk h λp r I h=>gDk h λh1 h=>aDk h1 λH hd=>oDk h (λh=>bDk h λa ha h=>?_) λh=>?_) λh=>atDk h λa m apos F h=>?_
   ·obtain⟨x,j,rfl⟩:=mD h;obtain⟨rfl,q,S,e,hs⟩:=qea ha;cases e;subst w I;exact .lenset (qz5 H) hs (l j)
   ·rw[w,I];exact qgp l H hd h
   ·rw[F];exact qcu l h
  |cons _ _=>cases hk
 |Attribute a f _=>
  refine gDk h λU h=>bDk h λz t h=>?_;obtain⟨x,j,rfl⟩:=mD h;obtain⟨N,C⟩:=fD t;refine aDk C λha hb=>?_;have:=qqw hb;subst this;exact .attr (l j) N
 |Dict ks vs _=>
  refine gDk h λh1 h=>?_;obtain⟨x,j,rfl⟩:=mD h
  cases ks with
  |nil=>
   cases vs with
   |nil=>cases j; exact .dic0
   |cons _ _=>exact nn j
  |cons k ks=>
   cases k with
   |none=>exact nn j
   |some k=>
    cases vs with
    |nil=>exact nn j
    |cons v vs=>exact .dic (qi4 l j) (of_decide_eq_true h1)
 |IfExp q a b _=>
  refine bDk h λx j h=>bDk h λy n h=>?_;obtain⟨z,t,rfl⟩:=mD h;exact .ite (l j) (l n) (l t)
 |ListComp elt V sc _=>
  refine qx9 h λg w h=>?_;subst w;obtain⟨tg,G,A,k⟩:=g;refine gDk h λh1 h=>?_;cases eq_of_beq h1;refine oDk h (λh=>gDk h λhi h=>?_) λh=>qx9 h λq P h=>?_
  ·cases A with
   |nil=>exact qvm (ifs:=B) l h
   |cons _ _=>cases hi
  ·cases P;exact qvm (ifs:=Y _) l h
 |_=>exact nn h
def trF_ok{R:TrE}(g:TrO Q R):TrO (CkF Q) (trF o R):=λ{c p e} h=>by
 unfold trF at h;refine gDk h λa h=>bDk h λx f h=>gDk h λd h=>?_;cases h;have k:=trX_ok g a f
 cases hc:(o (pk p.pos) % 2==1)&&gcOk p && !isGc x with
 |false=>exact .of a d k
 |true=>
  refine aDk hc λh1 h2=>aDk h1 λ_ h1=>.gc a d h1 (λb e=>?_) k;rw[e]at h2;cases h2
theorem qy1:∀n,TrO (CkN n) (trE o n)
 |0=>λh=>nomatch h
 |n+1=>trF_ok (qy1 n)
abbrev isComp:Expr->Yb
 |.ListComp ..=>L
 |_=>Y6
abbrev noTup:Expr->Yb
 |.Tuple ..=>Y6
 |_=>L
abbrev trAsg(o:Y0->Y0)(f:Expr->Y2 E)(c:Ctx)(p:Expr):Expr->Y2 S
 |.Name x _=>(ixS x c.N).bind λi=>gd (isL c x) ((f p).map λe=>.set (.var i) e)
 |.Tuple es _ _=>gd (noTup p) ((trTs c es).bind λis=>(f p).map λe=>.set (.tup is) e)
 |.Subscript a i tp=>(f p).bind λe=>(f a).bind λx=>(f i).map λy=>.dset x y e
 |.Attribute a m tp=>(f p).bind λe=>gd (Nat.ble 3 (o (pk tp) / 2)) ((c.glo.ats.find? λz=>z.1==o (pk tp) / 2 - 3&&sq z.2 m).bind λz=>(f a).map λx=>.setA z.1 x z.2 e)
 |_=>B
abbrev trS1(o:Y0->Y0)(f:Expr->Y2 E)(Bq:Z Stmt->Z S)(c:Ctx):Stmt->Y2 S
 |.Assign ts p _=>on1 (trAsg o f c p) ts
 |.Expr p _=>gd (swOk p) ((f p).map .expr)
 |.Return p _=>p.bind λp=>(f p).map .ret
 |.If q a b _=>(f q).map λe=>.ite e (Bq a) (Bq b)
 |.Break _=>Y .brk
 |.For tg it b r pos=>gd r.isEmpty (gd (shOk it) ((trT c tg).bind λt=>bif o (pk pos) / 2==1 then(f it).map λe=>.ford t e (Bq b) else(trI f c tg it).map λe=>.forr t e (Bq b)))
 |_=>B
abbrev isStr:Const->Yb
 |.str _=>L
 |_=>Y6
abbrev isDocE:Expr->Yb
 |.Constant k _ _=>isStr k
 |_=>Y6
abbrev isDoc:Stmt->Yb
 |.Expr e _=>isDocE e
 |_=>Y6
abbrev trSL(g:Stmt->S):Z Stmt->Z S
 |[]=>[]
 |p::r=>bif isDoc p then trSL g r else g p::trSL g r
abbrev trSs(o:Y0->Y0)(f:TrE)(c:Ctx):Y0->Z Stmt->Z S
 |0,ps=>trSL (λ_=>.bad) ps
 |n+1,ps=>trSL (λp=>(trS1 o (f c) (trSs o f c n) c p).getD .bad) ps
theorem qk5(a:∀p,CkS c (g p) p):∀ps,CkSs c (trSL g ps) ps
 |[]=>.nil
 |p::r=>by
  unfold trSL
  cases hd:isDoc p with
  |false=>exact .cons (a p) (qk5 a r)
  |true=>
   cases p with
   |Expr e _=>
    cases e with
    |Constant k _ _=>
     cases k with
     |str _=>exact .doc (qk5 a r)
     |_=>cases hd
    |_=>cases hd
   |_=>cases hd
def qgs(hf:Fo CkE c f)(h:trAsg o f c p t=Y s):CkS c s (.Assign [t] p pos):=by
 cases t with
 |Name x d=>
  refine bDk h λi hi h=>gDk h λhl h=>?_;obtain⟨e,b,rfl⟩:=mD h
  cases hc:isComp p with
  |true=>
   cases p with
   |ListComp=>exact .setC (ixS_eq hi) (qat hl) (hf b) ⟨_,_,_,_,rfl⟩ λenv _=>qg1 _ _ _ _ _ _ _ env
   |_=>cases hc
  |false=>
   refine .set (ixS_eq hi) (qat hl) (hf b) λenv=>sw_ok ?_ _ _ _;have:=(hf b).sh
   cases p<;>first|rfl|(cases hc; done)|(cases this; done)
 |Tuple es k d=>
  refine gDk h λhn h=>bDk h λr hi h=>?_;obtain⟨e,b,rfl⟩:=mD h;refine .setT (qw3 hi) (hf b) λenv=>?_
  cases p<;>first|rfl|cases hn
 |Subscript a i d=>
  refine bDk h λe b h=>bDk h λx j h=>?_;obtain⟨y,n,rfl⟩:=mD h;exact .dset (hf j) (hf n) (hf b)
 |Attribute a m d=>
  refine bDk h λe b h=>gDk h λ_ h=>bDk h λz l h=>?_;obtain⟨x,j,rfl⟩:=mD h;obtain⟨q,g⟩:=fD l;refine aDk g λ_ hb=>?_;have:=qqw hb;subst this;exact .setA (hf j) (hf b) q
 |_=>exact nn h
def qmg(hf:Fo CkE c f)(g:∀ps,CkSs c (Bq ps) ps)(h:trS1 o f Bq c p=Y s):CkS c s p:=by
 cases p with
 |Assign ts p pos=>
  refine qx9 h λt k h=>?_;subst k;exact qgs hf h
 |Expr p pos=>
  refine gDk h λh1 h=>?_;obtain⟨e,d,rfl⟩:=mD h;exact .expr (hf d) λenv=>sw_ok h1 _ _ _
 |Return p pos=>
  refine bDk h λp l h=>?_;obtain⟨e,d,rfl⟩:=mD h;subst l;exact .ret (hf d)
 |If q a b pos=>
  obtain⟨e,d,rfl⟩:=mD h;exact .ite (hf d) (g _) (g _)
 |For tg it b r pos=>
  cases r with
  |cons _ _=>exact nn h
  |nil=>
   refine gDk h λ_ h=>gDk h λh1 h=>bDk h λt i h=>?_
   cases j:o (pk pos) / 2==1 with
   |true=>
    rw[j]at h;obtain⟨e,d,rfl⟩:=mD h;exact .ford (qcp i) (hf d) (g _)
   |false=>
    rw[j]at h;obtain⟨e,d,rfl⟩:=mD h;exact .forr (qcp i) (qi5 hf d) (λenv x=>qm6 h1 _ _) (g _)
 |Break pos=>cases h; exact .brk
 |_=>exact nn h
theorem qk4(hf:TrO CkE f):∀n ps,CkSs c (trSs o f c n ps) ps
 |0,ps=>qk5 (λ_=>.bad) ps
 |n+1,ps=>qk5 (λp=>by
  cases h:trS1 o (f c) (trSs o f c n) c p with
  |none=>exact .bad
  |some s=>exact qmg (hf) (qk4 hf n) h) ps
abbrev argN(st:Stmt):Z Y4:=(qqd st).args.map (·.arg)
abbrev locN(st:Stmt):Z Y4:=argN st++((qzy st).names.filter λy=>kL (Y y.2) && !((argN st).any (sq y.1))).map (·.1)
abbrev trFn(o:Y0->Y0)(names:Z Y4)(glo:Glo)(st:Stmt):Fn:=
 ⟨(argN st).length,(locN st).length,trSs o (trE o 30) ⟨locN st,qzy st,names,glo⟩ 12 (qzt st),Nat.ble 1 (o 0)⟩
abbrev scOk(st:Stmt):Bool:=(qzy st).kind==.function && !(qzy st).isCoroutine && !(qzy st).isGenerator&&ndB (locN st)&&(argN st).all (λx=>kL (lk (qzy st).names x))&&(qzy st).names.all (λy=>y.2 != .free)
def qdd{st:Stmt}(h:scOk st=L):FnScope (locN st) (argN st) (qzy st):=by
 refine aDk h λh c=>aDk h λh d=>aDk h λh e=>aDk h λh f=>aDk h λh1 h2=>?_;refine⟨eq_of_beq h1,by simpa using h2,by simpa using f,qad e,by unfold locN; rw[List.take_left],λx b=>?_,λy a=>?_⟩
 ·have:=kL_eq (Qze.mp d x b);rwa [qwq]at this
 ·simpa using Qze.mp c y a
noncomputable abbrev Orc:=Z (Y0×Z Y0)
noncomputable abbrev Rw:=Y2 Y5×Y4×Y4×Stmt×Orc
abbrev orc:Orc->Y0->Y0
 |[],_=>0
 |(v,l)::r,k=>bif l.any (k.beq ·) then v else orc r k
abbrev msT:Y0->Z Rw->Z (Y0×Y5×Y4)
 |_,[]=>[]
 |n,(Y C,m,_)::r=>(n,C,m)::msT (n+1) r
 |n,(B,_)::r=>msT (n+1) r
abbrev fnsT(names:Z Y4)(glo:Glo)(t:Z Rw):Z Fn:=t.map λr=>trFn (orc r.2.2.2.2) names glo r.2.2.2.1
def ms_mem:∀{n},q∈msT n t->∃k r,q.1=n+k/\t[k]?=Y r/\r.1=Y q.2.1/\r.2.1=q.2.2:=by
 induction t with
 |nil=>exact λh=>nomatch h
 |cons a t b=>
  obtain⟨C,m,z⟩:=a;intro n h;have up:q∈msT (n+1) t->∃k r,q.1=n+k/\((C,m,z)::t)[k]?=Y r/\r.1=Y q.2.1/\r.2.1=q.2.2:=λh=>by
   obtain⟨k,r,e,w⟩:=b h;exact⟨k+1,r,?d,w⟩
  cases C with
  |none=>exact up h
  |some C=>
   rcases Qqc.mp h with rfl|h
   ·exact⟨0,_,rfl,rfl,rfl,rfl⟩
   ·exact up h
noncomputable abbrev Bd(r:Rw):Prop:=∀(kV doc pm:Y7) (an:Y2 Y5) (cdv ct:Y7) (us:Z Y7),us.length=(argN r.2.2.2.1).length->bindArgs (PySem.W.fnOf r.2.1 r.2.2.1 (qqd r.2.2.2.1) (qzt r.2.2.2.1) (qzy r.2.2.2.1) .none kV doc pm an cdv ct) ⟨us,[]⟩=pure ((argN r.2.2.2.1).zip us)
inductive RwK (K:Qqq):Rw->Prop
 |fn {x:Y4}{st:Stmt}{o:Orc}{f:Y5}{od an:Y2 Y5}{sl:Array (Y2 Y7)}{oc kV dc pm cd ct:Y7}(a:Qjd K mainGlobals x=Y (Y (.ref f))) (l:K.lookup f=Y ⟨oc,od,.func (PySem.W.fnOf x x (qqd st) (qzt st) (qzy st) .none kV dc pm an cd ct),sl⟩) (c:PySem.W.codeIn K cd x=L) (k:Qz7 K (.ref f)=L):RwK K (B,x,x,st,o)
 |me {C:Y5}{m x:Y4}{st:Stmt}{o:Orc}{f:Y5}{od an:Y2 Y5}{sl:Array (Y2 Y7)}{oc kV dc pm cd ct:Y7}(a:PySem.W.findIn K (.ref C) m=Y (Y (.ref f))) (fn:PySem.W.isFn K (.ref f)=L) (l:K.lookup f=Y ⟨oc,od,.func (PySem.W.fnOf m x (qqd st) (qzt st) (qzy st) .none kV dc pm an cd ct),sl⟩) (c:PySem.W.codeIn K cd x=L) (k:Qz7 K (.ref f)=L):RwK K (Y C,m,x,st,o)
abbrev rwOk(r:Rw):Bool:=scOk r.2.2.2.1&&(r.1.isNone||(qh0 r.2.2.1).not)
def qg0{K:Qqq}(X:K.In h)(G:h.Ns mainGlobals mg)(d:glo.ms=msT 0 t)(hs:∀r∈t,RwK K r)(hb:∀r∈t,Bd r)(hc:t.all rwOk=L)(f)(x)(e:(t.map (·.2.2.1))[f]?=Y x):FText K mg (fnsT (t.map (·.2.2.1)) glo t) (t.map (·.2.2.1)) glo f x:=by
 rw[Qqv]at e;obtain⟨r,hr,rfl⟩:=mD e;have i:=Qqn hr;have g:(fnsT (t.map (·.2.2.1)) glo t)[f]?=Y (trFn (orc r.2.2.2.2) (t.map (·.2.2.1)) glo r.2.2.2.1):=by
  unfold fnsT;rw[Qqv,hr]
  rfl
 have d:∀C m,(f,C,m)∈glo.ms->r.1=Y C/\r.2.1=m:=λC m w=>by
  rw[d]at w;obtain⟨k,r',e,h1,h2⟩:=ms_mem w;obtain rfl:f=k:=e.trans (Qz3 k);cases hr.symm.trans h1;exact h2
 refine aDk (Qze.mp hc r i) λh1 h2=>?_;have b:=hb r i;have s:=qdd h1
 cases hs r i with
 |fn a l c k=>exact⟨_,_,_,_,_,_,_,g,qwe l c k,⟨λ_=>Qjl X G a,λC m w=>nomatch (d C m w).1⟩,(qwe l c k).binds b,s,qk4 (qy1 30) 12 _,rfl,rfl⟩
 |@me C m x st o f p an sl q kV dc n u ct a fn l c k=>
  refine⟨_,_,_,_,_,_,_,g,qwe l c k,⟨λz=>?_,λC m w=>?_⟩,(qwe l c k).binds b,s,qk4 (qy1 30) 12 _,rfl,rfl⟩
  ·have h2:=h2;rw[z]at h2;cases h2
  ·obtain⟨e,j⟩:=d C m w;cases e;cases j;exact⟨a,fn,k⟩
structure Vof (K:Qqq) (u:Y7) (d:D):Prop where
 ex:∃v,RelV v u/\∀m H,IsD K m H d v
structure Vsf (K:Qqq) (us:Z Y7) (ds:Z D):Prop where
 ex:∃vs,Vals vs us/\∀m H,IsDs K m H ds vs
structure Enf (prm:Qp) (K:Qqq) (es:Z Q3) (ks:Z Y4) (ds:Z D):Prop where
 ex:∃us vs,EntOk prm es ks us/\Vals vs us/\∀m H,IsDs K m H ds vs
def vInt{K:Qqq}:Vof K (.int i t) (.int i):=⟨.int _,⟨_,rfl⟩,λm H=>mkInt _⟩
def vStr{K:Qqq}:Vof K (.str s t) (.str s):=⟨.str _,⟨_,rfl⟩,λm H=>mkStr _⟩
def vNil{K:Qqq}:Vsf K [] []:=⟨[],.nil,λ_ _=>qqk⟩
def vCons{K:Qqq}:Vof K u d->Vsf K us ds->Vsf K (u::us) (d::ds)
 |⟨v,a,b⟩,⟨vs,c,e⟩=>⟨v::vs,.cons a c,λm H=>qzn (b m H) (e m H)⟩
def vTup{K:Qqq}{gd:Y2 Y5}(h:K.lookup a=Y ⟨.type "tuple",gd,.seq vs.toArray b,gs⟩)(q:Vsf K vs ds)(n:Nat.ble vs.length sizeLine=L):Vof K (.ref a) (.tup ds):=by
 obtain⟨vs,c,d⟩:=q;exact⟨.ref _,rfl,λm H=>qq2 (.inr ⟨_,_,_,h,rfl,rfl,Nat.le_of_ble_eq_true n,c⟩) (d m H)⟩
def eNil{K:Qqq}:Enf a K [] [] []:=⟨[],[],.nil,.nil,λ_ _=>qqk⟩
def eCons{K:Qqq}:Vof K u d->Enf g K es ks ds->Enf g K (⟨PyData.keyHash g k,.str k t,u⟩::es) (k::ks) (d::ds)
 |⟨v,a,b⟩,⟨us,vs,e,c,f⟩=>⟨_,v::vs,.cons e,.cons a c,λm H=>qzn (b m H) (f m H)⟩
inductive GlK (K:Qqq) (q:Y4×D):Prop
 |mk {v:Y7}(g:Qjd K mainGlobals q.1=Y (Y v)) (h:Vof K v q.2):GlK K q
inductive GdK (prm:Qp) (K:Qqq) (q:Y4×Z Y4×Z D):Prop
 |mk {a:Y5}{es:Z Q3}{ep:Y0}(g:Qjd K mainGlobals q.1=Y (Y (.ref a))) (l:K.lookup a=Y { cls:=.type "dict",data:=.dict es.toArray ep }) (h:Enf prm K es q.2.1 q.2.2) (n:(a==Qo)=Y6):GdK prm K q
abbrev gloOk(g:Glo):Bool:=(g.ats.all λq=>g.cl.any λz=>z.2==q.1)&&g.ds.all λq=>ndB q.2.1
def glo_mo{K:Qqq}(X:K.In h)(G:h.Ns mainGlobals mg)(hc:gloOk glo=L)(r:∀q∈glo.ds,GdK prm K q)(p:∀q∈glo.cs,GlK K q)(j:∀q∈glo.cl,ClK K q.1 q.2)(o:∀q∈glo.ats,PySem.W.findIn K (.ref q.1) q.2=Y B)(z:∀x∈bNm,Qjd K mainGlobals x=Y B):Mo K mg glo prm:=by
 refine aDk hc λc1 c2=>⟨λs C i=>(j _ i).mo X G,λC f i=>⟨?_,o _ i⟩,λx ks ds i=>?_,λx d i=>?_,λx i=>PySem.W.mg_none_of X G (z x i)⟩
 ·obtain⟨y,m,e⟩:=Qz2.mp (Qze.mp c1 _ i);have e:=eq_of_beq e;subst e;exact(j _ m).cls
 ·cases r _ i with
  |mk g l q n=>
   obtain⟨k,vs,e,c,d⟩:=q.ex;exact⟨_,Qjl X G g,⟨k,vs,_,_,l,e,c,d⟩,qad (Qze.mp c2 _ i),n⟩
 ·cases p _ i with
  |mk g q=>
   obtain⟨v,a,b⟩:=q.ex;exact⟨_,v,Qjl X G g,a,b⟩
def law_mk{l:PySem.W.OpenLaw}{K:Qqq}{st:Stmt}(X:K.In h)(G:h.Ns mainGlobals mg)(d:mg x=Y (.ref f))(e:t[i]?=Y (B,x,x,st,o))(p:argN st=[y])(u:glo.ms=msT 0 t)(hb:∀r∈t,Bd r)(hc:(t.all rwOk&&gloOk glo)=L)(ok:∀ns:Z J,ns.length<=63->∃st',M.callD (fnsT (t.map (·.2.2.1)) glo t) (n+1) i [.lst (ns.map D.int)] []=Y (.bl L,st'))(hs:∀r∈t,RwK K r)(H:∀q∈glo.ds,GdK w.params K q)(E:∀q∈glo.cs,GlK K q)(C:∀q∈glo.cl,ClK K q.1 q.2)(A:∀q∈glo.ats,PySem.W.findIn K (.ref q.1) q.2=Y B)(z:∀x∈bNm,Qjd K mainGlobals x=Y B):∃fd:Qn,(∀(s:Qz) (v:Y7),BindsTo s fd ⟨[v],[]⟩ [(y,v)])/\∀base:Heap,K.In base->base.Ns mainGlobals mg->FnOk l.prog w K mg base CX0 (2*(n+1)) f fd [y] (qm0 K):=by
 refine aDk hc λc1 c2=>?_;have g:=glo_mo X G c2 H E C A z;have T:=qg0 X G u hs hb c1;have j:=Qqn e;have b:=hb _ j;have s:=qdd (aD (Qze.mp c1 _ j)).1
 cases hs _ j with
 |fn a m c k=>
  cases d.symm.trans (Qjl X G a);have F:=λbase=>(ql1 (P:=l.prog) (base:=base) (tab_ok T g _) g (by unfold fnsT; rw[Qqv,e]; rfl) (qwe m c k) s (qk4 (qy1 30) 12 _) rfl rfl).imp (law_sp ok);have b:=b;dsimp only[Bd]at b;rw[p]at F b;exact⟨_,λs v=>.of_eq (b _ _ _ _ _ _ [v] rfl),λbase _ _=>F base⟩
end MS
end
open M.D renaming int->O,loc->Y3,tup->Y9,lst->Yc
open M.Ya renaming lst->Y8
open M.E renaming var->Yd
section
namespace K52
open PySem L2 MS
open M (D Fn)
noncomputable abbrev tF(x:Y4)(i:Y0)(l:Orc):Rw:=(B,x,x,top i,l)
noncomputable abbrev tM(C:Y5)(m x:Y4)(i j:Y0)(l:Orc):Rw:=(Y C,m,x,cb (top i) j,l)
abbrev tab:Z Rw:=[tF "bounds" 20 [],
 tF "fits" 21 [],
 tF "all_fit" 22 [(1,[42015079]),(2,[42028039])],
 tF "is_cell" 23 [(1,[44040072])],
 tF "good_steps" 24 [(1,[46040081])],
 tF "good_outcrops" 25 [(1,[50015059])],
 tF "sound_vein" 26 [],
 tF "numbers_agree" 27 [],
 tF "sound" 28 [(1,[66011049])],
 tF "inside" 34 [],
 tF "has_one" 35 [(1,[75015052])],
 tF "can_part" 36 [],
 tF "parted" 37 [],
 tF "in_ground" 38 [],
 tF "counted" 40 [],
 tF "through" 41 [(1,[98011030])],
 tM 289 "__init__" "Claim.__init__" 43 0 [(584,[103008018,104008019,105008017,106008017,107008019,108008018])],
 tM 289 "piece" "Claim.piece" 43 1 [(584,[111042051,111054063,112008020,112023034])],
 tM 289 "state" "Claim.state" 43 3 [(584,[119011021,121017026,123011022])],
 tM 371 "__init__" "Claims.__init__" 44 0 [(748,[129008017,130008017,131008016])],
 tM 371 "names" "Claims.names" 44 1 [(748,[134020029])],
 tM 371 "named" "Claims.named" 44 2 [(2,[137011032,139015030]),(748,[137023032,139015024])],
 tM 371 "standing" "Claims.standing" 44 3 [(748,[142033041,142045054]),(2,[142045060]),(584,[142045071])],
 tM 371 "stake" "Claims.stake" 44 4 [(748,[145008017,145059068,146008037]),(2,[145008022]),(1,[145070075])],
 tM 371 "vest" "Claims.vest" 44 5 [(748,[149016025,152012020]),(2,[149016031]),(584,[150011027,150054066,151012024])],
 tM 371 "vest_all" "Claims.vest_all" 44 6 [(749,[155020032]),(748,[156012042])],
 tM 371 "change" "Claims.change" 44 7 [(2,[160011032,162016031]),(748,[160023032,162016025,166019039,169033042]),(584,[163011027,168012022,169012022,169044054,171012023,173012023])],
 tM 371 "part" "Claims.part" 44 8 [(748,[177016025,182008017,184012020,184028036]),(2,[177016034,182008022]),(584,[178024036,181008020,182025056,183011023])],
 tF "own_course" 47 [],
 tF "climbed" 48 [],
 tF "met_columns" 49 [(1352,[210012028,211012030,214022034]),(2,[213037050])],
 tF "columns_at" 50 [(1352,[217021033]),(1353,[221016029]),(2,[222008017,223051060]),(1,[223021061])],
 tF "ground_of" 52 [(1352,[227011029])],
 tF "outcrop" 53 [(1352,[229011030])],
 tF "outcrops" 54 [],
 tF "covers" 55 [],
 tF "standing_grounds" 57 [(1353,[236058074])],
 tF "ranked" 58 [],
 tF "heirs" 59 [(1,[247012052,247028051,248018041])],
 tF "check_district" 69 [],
 tF "check_day" 70 [],
 tM 673 "__init__" "Field.__init__" 71 0 [(1,[0]),(1352,[276008019,277008017,278008016,279008018,280008019,281008019,282008016,283008018]),(4,[282019021])],
 tM 673 "enter" "Field.enter" 71 1 [(1,[0]),(1352,[287021032,289018026,291008016,292015032])],
 tM 673 "answer" "Field.answer" 71 2 [(1352,[296019040,298019040,300019041,302019039,304019039,305015026,305034042]),(748,[305015049])],
 tM 673 "enter_vein" "Field.enter_vein" 71 3 [(1352,[308008018,308019027,309008019,309029037]),(2,[308008028]),(748,[309008047])],
 tM 673 "enter_join" "Field.enter_join" 71 4 [(2,[315011033,315037060,319011030,321008025]),(1352,[315023033,315050060,319019030,321008019])],
 tM 673 "enter_stake" "Field.enter_stake" 71 5 [(2,[326008048,327028044]),(1352,[326020030,327028038,328008019,328026034]),(748,[328008065])],
 tM 673 "pass_to" "Field.pass_to" 71 10 [(1,[0]),(1352,[356017025,358008016])],
 tM 673 "size" "Field.size" 71 12 [(1352,[364015026])],
 tM 673 "veins" "Field.veins" 71 14 [(1352,[370020030])],
 tM 673 "vein" "Field.vein" 71 16 [(2,[376011033,378015031]),(1352,[376023033,378015025])],
 tM 673 "joined" "Field.joined" 71 17 [(2,[381011033]),(1352,[381023033,383015026])],
 tM 673 "claim" "Field.claim" 71 18 [(1352,[386016027]),(748,[386016039]),(584,[387016027,387029041,387043053,387055067,387069080])],
 tM 673 "standing" "Field.standing" 71 21 [(1352,[396015026,396036044]),(748,[396015045])],
 tM 802 "__init__" "Diary.__init__" 73 0 [(1610,[408008019,409008017,410008017,411008017,412008017])],
 tM 802 "tell" "Diary.tell" 73 1 [(1610,[416021032,418018027,420008041,421008017]),(2,[418011027])],
 tM 802 "perform" "Diary.perform" 73 5 [(1610,[433008041,434008017])],
 tM 802 "put" "Diary.put" 73 6 [(1610,[438012021,440012021]),(2,[438012030,440012034])],
 tM 802 "facts" "Diary.facts" 73 9 [(1610,[449022031,449056065]),(2,[449022036]),(1,[449049066])],
 tM 802 "field" "Diary.field" 73 13 [(1610,[462016033]),(1352,[463008026])],
 tM 802 "entered" "Diary.entered" 73 14 [(1610,[467022033,467038049,467054065,467070079]),(1611,[468025037]),(1352,[470016038])],
 tF "_law_draw" 75 [],
 tF "_law_same" 76 [(1,[503024108,503025072])],
 tF "_law_size" 77 [(1,[512017101,513017111,513030111])],
 tF "_law_term" 78 [(1,[517011085])],
 tF "_law_spots" 79 [],
 tF "_law_rect" 80 [(1,[524013127,524020126,525013131,525020130])],
 tF "_law_steps" 81 [(1,[528017125,528018039])],
 tF "_law_outs" 82 [(1,[534072085])],
 tF "_law_who" 83 [(1,[540054073])],
 tF "_law_pick" 84 [],
 tF "_law_vein" 85 [(1,[546075124])],
 tF "_law_claim_fact" 86 [(1,[554011129])],
 tF "_law_fact" 87 [(1,[557017105,558017116])],
 tF "_law_plan" 88 [(1,[568016029])],
 tF "_law_in" 89 [],
 tF "_law_diary" 90 [(1610,[580008054])],
 tF "_law_turned" 91 [],
 tF "_law_some_spots" 92 [(1,[589022048])],
 tF "_law_roots" 93 [(2,[596012037,597043079,598012037,598040074])],
 tF "_law_touched" 94 [(1,[602015095]),(2,[602024050])],
 tF "_law_course" 95 [(1,[606022024,608019073,609026131,609044131])],
 tF "_law_first" 96 [(1,[612012059,612012068,612062068])],
 tF "_law_stays" 97 [(1,[614071098])],
 tF "law" 98 [(1,[620021097,621017105,625038073,626021131,627065166,627093136,628016142,631023083,635025072,636024092,636025057,636059091]),(2,[625038069]),(1610,[629018049,630004078,634043083])]]
abbrev names:Z Y4:=tab.map (·.2.2.1)
abbrev glo:Glo:=⟨[("COINS",.tup [.int 1,.int 1000000]),("DAYS",.tup [.int 1,.int 400]),("DEPTHS",.tup [.int 0,.int 12]),("FOLK",.tup [.int 1,.int 40]),("LEFT",.int 0),("LENGTHS",.tup [.int 1,.int 24]),("LINES",.tup [.int 1,.int 23]),("LOW",.int 3),("MOST_COLUMNS",.int 16),("MOVES",.tup [.tup [.int 0,.int 0],.tup [.int 1,.int 0],.tup [.int (-1),.int 0],.tup [.int 0,.int 1],.tup [.int 0,.int (-1)]]),("RIGHT",.int 2),("SIDES",.tup [.int 0,.int 1]),("STEPS",.tup [.int 0,.int 4]),("TERMS",.tup [.int 1,.int 400]),("TOP",.int 1)],[("ASKS",["join","stake","work","sell","part","give","dig","pay"],[.tup [.str "day",.str "day",.str "below"],.tup [.str "folk",.str "x",.str "y",.str "x",.str "y"],.tup [.str "day"],.tup [.str "day",.str "folk"],.tup [.str "day",.str "side",.str "line",.str "folk"],.tup [.str "day"],.tup [.str "folk",.str "x",.str "y",.str "x",.str "y",.str "floor",.str "coins"],.tup [.str "folk",.str "folk",.str "coins"]])],msT 0 tab,[("Claim",289),("Claims",371),("Field",673),("Diary",802)],[(289,"days"),(289,"given"),(289,"ground"),(289,"last"),(289,"owner"),(289,"vested"),(371,"book"),(371,"row"),(371,"year"),(673,"day"),(673,"debts"),(673,"dug"),(673,"extent"),(673,"found"),(673,"joints"),(673,"staked"),(673,"year"),(802,"back"),(802,"done"),(802,"extent"),(802,"kept"),(802,"year")]⟩
abbrev fns:Z Fn:=fnsT names glo tab
end K52
end
section
namespace K52
open PySem (Str)
open M
noncomputable abbrev sO(x:String):D:=.str (Str.ofString x)
structure Cl where
 nm:J
 j:Y0
 o:J
 g:J×J×J×J
 ds:Z J
 la:J
 v:Y2 J
 gv:Y2 J
abbrev oD:Y2 J->D
 |none=>.non
 |some i=>.int i
abbrev rD(g:J×J×J×J):D:=.tup [.int g.1,.int g.2.1,.int g.2.2.1,.int g.2.2.2]
abbrev Cl.cel(c:Cl)(x:D):Ya:=.obj 289 [("owner",.int c.o),("ground",rD c.g),("days",x),("last",.int c.la),("vested",oD c.v),("given",oD c.gv)]
noncomputable abbrev Cl.cell(c:Cl):Ya:=c.cel (.loc (c.j+8))
abbrev Cl.dl(c:Cl):Ya:=.lst L (c.ds.map .int)
structure Zt where
 s:D
 dg:Z (D×D)
 es:Z D
abbrev FS(sz:Zt)(T d:J)(fo jo bo:Z (D×D))(ro:Z D)(rest:Y1):Y1:=
 .obj 673 [("extent",sz.s),("year",.int T),("day",.int d),("found",.loc 1),("joints",.loc 2),("staked",.loc 3),("dug",.loc 6),("debts",.loc 7)]::.dic L fo::.dic L jo::.obj 371 [("year",.int T),("book",.loc 4),("row",.loc 5)]::.dic L bo::.lst L ro::.dic L sz.dg::.lst L sz.es::rest
def isN(h:o=B):isNon (oD o)=true:=by rw[h]; rfl
def isS(h:o=Y x):isNon (oD o)=false:=by rw[h]; rfl
def nnN(h:o=B):(!isNon (oD o))=false:=by rw[h]; rfl
def nnS(h:o=Y x):(!isNon (oD o))=true:=by rw[h]; rfl
section
variable {sz:Zt}{T d:J}{fo jo bo:Z (D×D)}{ro:Z D}{rest:Y1}
abbrev stW(c:Cl)(day:J):String:=if c.gv.isSome then "given" else if c.la<day then "fallen" else if c.v.isNone then "unvested" else "stands"
def qi9(m){S:Y1}(c)(day)(h:S[p]?=Y (c.cel y)):callD fns (m+1) 18 [Y3 p,O day] S=Y (sO (stW c day),S):=by
 unfold stW
 cases a:c.gv with
 |some x=>
  exact qzz 0 [] 1 [Kr h,Kb (nnS a)]
 |none=>
  by_cases hl:c.la<day
  ·rw[Z9 hl];exact qzz 0 [] 1 [Kr h,Kb (nnN a),Kr h,Kb (Z6 hl)]
  ·rw[Z8 hl]
   cases hv:c.v with
   |none=>exact qzz 0 [] 1 [Kr h,Kb (nnN a),Kr h,Kb (Z7 hl),Kr h,Kb (isN hv)]
   |some x=>exact qzz 0 [] 1 [Kr h,Kb (nnN a),Kr h,Kb (Z7 hl),Kr h,Kb (isS hv)]
def qqn(m)(c)(day)(h:rest[c.j+1]?=Y c.cell):callD fns (m+1) 18 [Y3 (c.j+9),O day] (FS sz T d fo jo bo ro rest)=Y (sO (stW c day),FS sz T d fo jo bo ro rest):=qi9 m c day h
end
abbrev cD(p:J×J):D:=.tup [.int p.1,.int p.2]
abbrev inB(g:J×J×J×J)(p:J×J):Bool:=decide (g.1<=p.1)&&decide (p.1<=g.2.2.1)&&(decide (g.2.1<=p.2)&&decide (p.2<=g.2.2.2))
def qet(hf:f=9\/f=75)(m)(st)(g)(p):callD fns (m+1) f [rD g,cD p] st=Y (.bl (inB g p),st):=by
 unfold inB
 by_cases h1:g.1<=p.1
 ·by_cases h2:p.1<=g.2.2.1
  ·by_cases a:g.2.1<=p.2
   ·by_cases b:p.2<=g.2.2.2
    ·rw[Z6 h1,Z6 h2,Z6 a,Z6 b];rcases hf with rfl|rfl<;>exact qzz 0 [] 1 [Kb (Z6 h1),Kb (Z6 h2),Kb (Z6 a),Kb (Z6 b)]
    ·rw[Z6 h1,Z6 h2,Z6 a,Z7 b];rcases hf with rfl|rfl<;>exact qzz 0 [] 1 [Kb (Z6 h1),Kb (Z6 h2),Kb (Z6 a),Kb (Z7 b)]
   ·rw[Z6 h1,Z6 h2,Z7 a,Bool.false_and];rcases hf with rfl|rfl<;>exact qzz 0 [] 1 [Kb (Z6 h1),Kb (Z6 h2),Kb (Z7 a)]
  ·rw[Z6 h1,Z7 h2];rcases hf with rfl|rfl<;>exact qzz 0 [] 1 [Kb (Z6 h1),Kb (Z7 h2)]
 ·rw[Z7 h1];rcases hf with rfl|rfl<;>exact qzz 0 [] 1 [Kb (Z7 h1)]
def qwb(m)(st)(g)(p):callD fns (m+1) 9 [rD g,cD p] st=Y (.bl (inB g p),st):=qet ?qu m st g p
theorem asB:∀bs:Z Yb,asBools (bs.map .bl)=Y bs
 |[]=>rfl
 |b::r=>by show(asBools (r.map .bl)).map (b::·)=_; rw[asB r]; rfl
def nlB(bs:Z Yb):noLocs (bs.map .bl)=true:=qzj λ_ _=>rfl
def qk7(h:τ[i]?=Y (Y q))(a:rowAt st q=Y ds):∃s,src (RL c) τ st (.var i)=Y (s,st)/\(∀i,s.at st i=Y ds[i]?)/\s.size st=ds.length:=by
 have e:=qqx c τ st (.var i) (q,st) (by show(match τ[i]? with|some (Y d)=>Y (d,st)|_=>B)=_; rw[h])
 cases q with
 |tup xs=>
  cases a;exact⟨.tup ds,by show((RL c).ev τ st (.var i)).bind _=_; rw[e]; rfl,λi=>rfl,rfl⟩
 |lst xs=>
  have a:=a;exact⟨.lst (.lst xs),by show((RL c).ev τ st (.var i)).bind _=_; rw[e]; rfl,qz9 a,qzh a⟩
 |loc l=>
  have a:seqAt st (Y3 l)=Y ds:=a;exact⟨.lst (Y3 l),by show((RL c).ev τ st (.var i)).bind _=_; rw[e]; show(seqAt st (Y3 l)).map _=_; rw[a]; rfl,qz9 a,qzh a⟩
 |_=>cases a
def qvb{α:Type}(xs:Z α)(f g:α->D)(h:τ[i]?=Y (Y q))(m:rowAt st q=Y (xs.map f))(hl:xs.length<lim)(b:inner sr τ=B::a)(n:∀x∈xs,(RL c).ev (Y (f x)::a) st elt=Y (g x,st)):
  stepEv (RL c) τ st (.comp ?K (Yd i) B elt sr)=Y (Y3 st.length,st++[Y8 L (xs.map g)]):=by
 obtain⟨s,h1,h2,o⟩:=qk7 h m;refine qxd h1 h2 o b ?g (by simpa using hl) λk d e hd j=>?_;rw[Qqv]at hd j;obtain⟨x,l,rfl⟩:=Qqy.mp hd;rw[l]at j;cases j;exact n x (Qqn l)
abbrev hasB(g:J×J×J×J)(ps:Z (J×J)):Bool:=ps.any (inB g)
def qlu(m)(a:rowAt st q=Y ?y)(hl:ps.length<lim):callD fns (m+2) 10 [rD g,q] st=Y (.bl (hasB g ps),st):=by
 have h1:=qvb (c:=callD fns (m+1)) (τ:=[Y (rD g),Y q]) (i:=1) (elt:=.call 9 [Yd 1,Yd 0]) (sr:=[B,Y 0]) ps cD (λp=>.bl (inB g p)) rfl a hl rfl λp _=>qzr 0 [9] 1 [Kc (qwb m st g p)];have e:ps.map (λp=>D.bl (inB g p))=(ps.map (inB g)).map .bl:=by rw[Qqp]; rfl
 rw[e]at h1;have b:bfun st .any [Yc ((ps.map (inB g)).map .bl)]=Y (.bl (hasB g ps),st):=by
  show(asBools _).map _=_;rw[asB];simp[hasB,List.any_map,Function.comp_def]
 exact qzz 0 [] 2 [Kc h1,Kl (qzv (st:=st) (nlB (ps.map (inB g)))),Kc b]
def gl{st:Y1}:(st++[c])[st.length]?=Y c:=by simp
def sl{st:Y1}:(st++[c]).set st.length c'=st++[c']:=by simp
def qz1{ds:Z D}(P:Y0->Sl->Y1->Prop)(h:src (RL c) τ st it=Y (s,st))(g:s.size st=ds.length)(f:∀k τ' st',P k τ' st'->s.at st' k=Y ds[k]?)(i:P 0 τ st)(hs:∀k τ' st' d,ds[k]?=Y d->P k τ' st'->∃a b,((setT t d τ').bind λe=>(RL c).ex e st' body)=Y (.nx a,b)/\P (k+1) a b):
  ∃τ' st',stepEx (RL c) τ st (.forr t it body)=Y (.nx τ',st')/\P ds.length τ' st':=by
 obtain⟨τ',st',l,j⟩:=qag P i g f hs;refine⟨τ',st',?_,j⟩;show(src (RL c) τ st it).bind _=_;rw[h];exact l
def qe8(P:Y0->Sl->Y1->Prop)(h:τ[i]?=Y (Y q))(n:P 0 τ st)(j:∀k τ' st',P k τ' st'->rowAt st' q=Y ds)(hs:∀k τ' st' d,ds[k]?=Y d->P k τ' st'->∃b f,((setT t d τ').bind λg=>(RL c).ex g st' body)=Y (.nx b,f)/\P (k+1) b f):
  ∃τ' st',stepEx (RL c) τ st (.forr t (.var i) body)=Y (.nx τ',st')/\P ds.length τ' st':=by
 have e:=qqx c τ st (.var i) (q,st) (by show(match τ[i]? with|some (Y d)=>Y (d,st)|_=>B)=_; rw[h]);have a:∀s:Src,src (RL c) τ st (.var i)=Y (s,st)->s.size st=ds.length->(∀k τ' st',P k τ' st'->s.at st' k=Y ds[k]?)->∃τ' st',stepEx (RL c) τ st (.forr t (.var i) body)=Y (.nx τ',st')/\P ds.length τ' st':=λs h1 h2 o=>qz1 P h1 h2 o n hs;have h1:=j 0 τ st n
 cases q with
 |tup xs=>
  cases h1;exact a (.tup ds) (by show((RL c).ev τ st (.var i)).bind _=_; rw[e]; rfl) rfl λk τ' st' _=>rfl
 |lst xs=>
  exact a (.lst (.lst xs)) (by show((RL c).ev τ st (.var i)).bind _=_; rw[e]; rfl) (qzh h1) λk τ' st' m=>qz9 (show seqAt st' (.lst xs)=_ from j k τ' st' m) k
 |loc l=>
  have h1:seqAt st (Y3 l)=Y ds:=h1;exact a (.lst (Y3 l)) (by show((RL c).ev τ st (.var i)).bind _=_; rw[e]; show(seqAt st (Y3 l)).map _=_; rw[h1]; rfl) (qzh h1) λk τ' st' m=>qz9 (show seqAt st' (Y3 l)=_ from j k τ' st' m) k
 |_=>cases h1
def qyc(h:ks≠[]):idxD (st++[.lst w (ks.map O)]) ?R (O (-1))=Y (O (ks.getLast h)):=by
 have hl:=Qx5.mpr h;show(seqAt (st++[.lst w (ks.map O)]) ?R).bind _=_;have:seqAt (st++[.lst w (ks.map O)]) ?R=Y (ks.map O):=by show listAt _ _=_; unfold listAt; rw[gl]
 rw[this];show atI (ks.map D.int) (-1)=_;unfold atI ixN;rw[Z8 ?c,Z9 ?r];simp only[oBs,Qqz];rw[show(-1+(ks.length:J)).toNat=ks.length - 1 by lia,Qqv,List.getLast_eq_getElem,Qqb ?d]
 rfl
abbrev chS(T:J)(ks:Z J)(x:J):Z Int:=if h:ks=[] then [x] else if x<=ks.getLast h+T then ks++[x] else ks
def chS_ne(T)(ks)(x):chS T ks x≠[]:=by
 unfold chS
 split
 ·exact List.cons_ne_nil _ _
 ·rename_i h
  split
  ·simp
  ·exact h
theorem qmz{T:J}:∀{xs ks},xs≠[]\/ks≠[]->xs.foldl (chS T) ks≠[]
 |[],_,h=>h.resolve_left λz=>z rfl
 |x::r,ks,_=>qmz (xs:=r) (.inr (chS_ne T ks x))
def qcx(m){T:J}{xs:Z J}(hl:xs.length<1000)(u:∀r,rowAt (st++r) q=Y (xs.map O)):callD fns (m+1) 14 [O T,q] st=Y (Y3 st.length,st++[Y8 L ((xs.foldl (chS T) []).map O)]):=by
 obtain⟨τ',st',h1,k,o,ks,rfl,rfl,s,v⟩:=qe8 (c:=callD fns m) (i:=1) (t:=.var 3) (body:=[.ite (.or (.not (.var 2)) (.cmp .LtE ?qk (.bin .Add (.idx (.var 2) (.neg (.lit (O 1)))) ?K))) [.expr (.meth (.var 2) .append [.var 3])] []])
  (λk τ' st'=>k<=xs.length/\∃o ks,τ'=[Y (O T),Y q,Y ?R,o]/\st'=st++[Y8 L ((ks:Z J).map O)]/\ks=(xs.take k).foldl (chS T) []/\ks.length<=k)
  rfl ⟨Qzg _,B,[],rfl,rfl,rfl,Qqw _⟩ (λk τ' st' h=>by obtain⟨_,o,ks,_,rfl,_⟩:=h; exact u _) (λk τ' st' d hd h=>by
   obtain⟨hk,o,ks,rfl,rfl,h1,h2⟩:=h;rw[Qqv]at hd;obtain⟨x,l,rfl⟩:=Qqy.mp hd;have g:=(Qqk.mp l).1;have tk:(xs.take (k+1)).foldl (chS T) []=chS T ks x:=by rw[Qjf,l,Qxv,<- h1]; rfl
   have f:(ks.map D.int).length<lim:=by simp; unfold lim; lia
   have p:(st++[Ya.lst L (ks.map O)]).set st.length (Y8 L (ks.map O++[O x]))=st++[Y8 L ((ks++[x]).map O)]:=by rw[sl]; simp
   have j:=gl (st:=st) (c:=Y8 L (ks.map O))
   by_cases e:ks=[]
   ·subst e;exact⟨[Y (O T),Y q,Y ?R,Y (O x)],(st++[Ya.lst L []]).set st.length (Y8 L [O x]),qzp 0 [] 0 [Kr j,Kk,Kr j,Kr j,Kb (Z6 f)],g,Y (O x),[x],rfl,sl,tk.symm,?g⟩
   ·have n:(!(ks.map D.int).isEmpty)=true:=by cases ks with|nil=>exact absurd rfl e|cons a b=>rfl
    by_cases hc:x<=ks.getLast e+T
    ·exact⟨[Y (O T),Y q,Y ?R,Y (O x)],(st++[Ya.lst L (ks.map O)]).set st.length (Y8 L (ks.map O++[O x])),qzp 0 [] 0 [Kr j,Kb n,Ki (qyc (st:=st) (w:=L) e),Kb (Z6 hc),Kr j,Kr j,Kb (Z6 f)],g,Y (O x),ks++[x],rfl,p,by rw[tk]; unfold chS; rw[dif_neg e,Z9 hc],?r⟩
    ·exact⟨[Y (O T),Y q,Y ?R,Y (O x)],st++[Y8 L (ks.map O)],qzp 0 [] 0 [Kr j,Kb n,Ki (qyc (st:=st) (w:=L) e),Kb (Z7 hc)],g,Y (O x),ks,rfl,rfl,by rw[tk]; unfold chS; rw[dif_neg e,Z8 hc],?d⟩)
 rw[Qqz,Qzb]at s;rw[<- s];exact qzz 0 [] 1 [Ks h1]
def nlI(ks:Z J):noLocs (ks.map O)=true:=qzj λ_ _=>rfl
abbrev thr(T:J)(xs:Z J):Int:=(xs.foldl (chS T) []).getLast?.getD 0+T
def qkf(m){T:J}(a:xs≠[])(hl:xs.length<1000)(b:∀r,rowAt (st++r) q=Y (xs.map O)):callD fns (m+2) 15 [O T,q] st=Y (O (thr T xs),st):=by
 have h2:=qcx m (T:=T) hl b;have h1:=qmz (T:=T) (xs:=xs) (ks:=[]) (.inl a);unfold thr;generalize xs.foldl (chS T) []=ks at h1 h2;rw[Qj5 h1];have e:idxD st (.lst (ks.map O)) (O (-1))=Y (O (ks.getLast h1)):=by
  have:=qyc (st:=[]) (w:=L) h1;exact this
 exact qzz 0 [14] 2 [Kc h2,Kl (qzv (st:=st) (nlI ks)),Ki e]
abbrev ik(st:Y1)(C:Y0)(F:Z (Y4×D)):Y0->Y1
 |0=>st++[.obj C (F.take 0)]
 |k+1=>(ik st C F k).set st.length (.obj C (F.take (k+1)))
theorem qo9:∀k,ik st C F k=st++[.obj C (F.take k)]
 |0=>rfl
 |k+1=>by show(ik st C F k).set _ _=_; rw[qo9 k,sl]
def ik_at(k):(ik st C F k)[st.length]?=Y (.obj C (F.take k)):=by rw[qo9 k,gl]
abbrev clF(o:J)(g:J×J×J×J)(dl:D)(la:J):Z (Y4×D):=[("owner",.int o),("ground",rD g),("days",dl),("last",.int la),("vested",.non),("given",.non)]
def cinit(m)(st)(o la)(g)(dl):callD fns (m+1) 16 [Y3 st.length,O o,rD g,dl,O la] (st++[.obj 289 []])=Y (.non,st++[.obj 289 (clF o g dl la)]):=by
 have h:=λk=>ik_at (st:=st) (C:=289) (F:=clF o g dl la) k;exact qve 0 [] 1 (.non,ik st 289 (clF o g dl la) 6) (λq=>_/\_/\_/\_/\_/\_/\q) [.r (.obj 289 ((clF o g dl la).take 0)),.r (.obj 289 ((clF o g dl la).take 1)),.r (.obj 289 ((clF o g dl la).take 2)),.r (.obj 289 ((clF o g dl la).take 3)),.r (.obj 289 ((clF o g dl la).take 4)),.r (.obj 289 ((clF o g dl la).take 5))] ⟨h 0,h 1,h 2,h 3,h 4,h 5,by rw[qo9]; rfl⟩
structure InvK (K:Cl->Ya) (rest:Y1) (cs:Z Cl):Prop where
 at_:∀c∈cs,rest[c.j]?=Y c.dl/\rest[c.j+1]?=Y (K c)
 pw:cs.Pairwise λa b=>a.j+1<b.j
 ne:∀c∈cs,c.ds≠[]/\c.ds.length<900
 nd:(cs.map (·.nm)).Nodup
noncomputable abbrev Inv:=InvK Cl.cell
abbrev qzf(cs:Z Cl):Z (D×D):=cs.map λc=>(.int c.nm,.loc (c.j+9))
def InvK.inj(h:InvK K rest cs)(ha:a∈cs)(hb:b∈cs)(e:a.nm=b.nm):a=b:=by
 have:=h.nd;clear h
 induction cs with
 |nil=>cases ha
 |cons c r g=>
  rw[Qqd,Qzj]at this;rcases Qqc.mp ha with rfl|f<;>rcases Qqc.mp hb with rfl|d
  ·rfl
  ·exact absurd (Qqj.mpr ⟨b,d,e.symm⟩) this.1
  ·exact absurd (Qqj.mpr ⟨a,f,e⟩) this.1
  ·exact g f d this.2
def qwl(a)(r)(n):dget (qzf (a::r)) (O n)=bif a.nm==n then Y (Y3 (a.j+9)) else dget (qzf r) (O n):=by
 unfold dget qzf;rw[Qqd,Qq2];show Option.map _ (match (a.nm==n) with|true=>_|false=>_)=_;cases a.nm==n<;>rfl
def qpi(h:∀c∈cs,c.nm≠n):dget (qzf cs) (O n)=none:=by
 induction cs with
 |nil=>rfl
 |cons c r a=>
  rw[qwl,beq_false_of_ne (h c (.head _))];exact a λc hc=>h c (.tail _ hc)
def qic(h:c∈cs)(hn:(cs.map (·.nm)).Nodup):dget (qzf cs) (O c.nm)=Y (Y3 (c.j+9)):=by
 induction cs with
 |nil=>cases h
 |cons a r b=>
  rw[qwl];rw[Qqd,Qzj]at hn;rcases Qqc.mp h with rfl|h'
  ·rw[beq_self_eq_true]; rfl
  ·rw[beq_false_of_ne λe=>hn.1 (Qqj.mpr ⟨c,h',e.symm⟩)];exact b h' hn.2
def InvK.get(h:InvK K rest cs)(hc:c∈cs):dget (qzf cs) (O c.nm)=Y (Y3 (c.j+9)):=qic hc h.nd
def InvK.apart(h:InvK K rest cs)(ha:a∈cs)(hb:b∈cs)(e:a.nm≠b.nm):a.j+1<b.j\/b.j+1<a.j:=by
 have:=h.pw;clear h
 induction cs with
 |nil=>cases ha
 |cons c r g=>
  rw[Qxj]at this;rcases Qqc.mp ha with rfl|f<;>rcases Qqc.mp hb with rfl|d
  ·exact absurd rfl e
  ·exact .inl (this.1 b d)
  ·exact .inr (this.1 a f)
  ·exact g f d this.2
abbrev upd(cs:Z Cl)(c':Cl):Z Cl:=cs.map λx=>if x.nm=c'.nm then c' else x
def qjj(hc:c∈cs)(hn:(cs.map (·.nm)).Nodup)(e:c'.nm=c.nm)(i:c'.j=c.j):qzf (upd cs c')=qzf cs:=by
 unfold qzf upd;rw[Qqp];refine Qzr λx d=>?_;show(D.int (if x.nm=c'.nm then c' else x).nm,D.loc ((if x.nm=c'.nm then c' else x).j+9))=_
 by_cases h:x.nm=c'.nm
 ·have f:x=c:=by
   have:∀{l:Z Cl},(l.map (·.nm)).Nodup->x∈l->c∈l->x.nm=c.nm->x=c:=λ{l} hn d hc e=>by
    induction l with
    |nil=>cases d
    |cons y r g=>
     rw[Qqd,Qzj]at hn;rcases Qqc.mp d with rfl|a<;>rcases Qqc.mp hc with rfl|b
     ·rfl
     ·exact absurd (Qqj.mpr ⟨c,b,e.symm⟩) hn.1
     ·exact absurd (Qqj.mpr ⟨x,a,e⟩) hn.1
     ·exact g hn.2 a b
   exact this hn d hc (h.trans e)
  rw[Z9 h,e,i,f]
 ·rw[Z8 h]
def qqh:(upd cs c').map (·.nm)=cs.map (·.nm):=by
 unfold upd;rw[Qqp];refine Qzr λx _=>?_;show(if x.nm=c'.nm then c' else x).nm=x.nm
 by_cases h:x.nm=c'.nm
 ·rw[Z9 h,h]
 ·rw[Z8 h]
def InvK.put(h:InvK K rest cs)(hc:c∈cs)(e:c'.nm=c.nm)(i:c'.j=c.j)(hd:c'.ds≠[]/\c'.ds.length<900):InvK K ((rest.set c.j c'.dl).set (c.j+1) (K c')) (upd cs c'):=by
 have lt:=(Qqk.mp (h.at_ c hc).2).1;refine⟨λx f=>?_,?_,λx f=>?_,by rw[qqh]; exact h.nd⟩
 ·obtain⟨y,d,rfl⟩:=Qqj.mp f
  by_cases hn:y.nm=c'.nm
  ·rw[Z9 hn,i];constructor
   ·rw[Qq7 ?d,Qza ?d]
   ·rw[Qza (by rw[Qxw]; lia)]
  ·rw[Z8 hn];have:=h.at_ y d;rcases h.apart d hc (λz=>hn (z.trans e.symm)) with z|z
   ·exact⟨by rw[Qq7 ?d,Qq7 ?d]; exact this.1,by rw[Qq7 ?d,Qq7 ?d]; exact this.2⟩
   ·exact⟨by rw[Qq7 ?d,Qq7 ?d]; exact this.1,by rw[Qq7 ?d,Qq7 ?d]; exact this.2⟩
 ·unfold upd;rw[Qjg];have g:∀y∈cs,(if y.nm=c'.nm then c' else y).j=y.j:=λy d=>by
   by_cases hn:y.nm=c'.nm
   ·rw[Z9 hn,i,h.inj d hc (hn.trans e)]
   ·rw[Z8 hn]
  refine List.Pairwise.imp_of_mem (λ{a b} ha hb z=>?_) h.pw;rw[g a ha,g b hb];exact z
 ·obtain⟨y,d,rfl⟩:=Qqj.mp f
  by_cases hn:y.nm=c'.nm
  ·rw[Z9 hn]; exact hd
  ·rw[Z8 hn]; exact h.ne y d
def InvK.cell(h:InvK K rest cs)(hc:c∈cs)(e:c'.nm=c.nm)(a:c'.j=c.j)(hd:c'.ds=c.ds):InvK K (rest.set (c.j+1) (K c')) (upd cs c'):=by
 have:=h.put hc e a (hd▸h.ne c hc);have lt:=(Qqk.mp (h.at_ c hc).2).1;have z:rest.set c.j c'.dl=rest:=by
  apply Qkv;intro i
  by_cases hi:c.j=i
  ·subst hi;rw[Qza ?d,(h.at_ c hc).1];unfold Cl.dl;rw[hd]
  ·rw[Qq7 hi]
 rwa [z]at this
def InvK.more(h:InvK K rest cs)(r):InvK K (rest++r) cs:=
 ⟨λc hc=>⟨by rw[Qq9 (Qqk.mp (h.at_ c hc).1).1]; exact(h.at_ c hc).1,by rw[Qq9 (Qqk.mp (h.at_ c hc).2).1]; exact(h.at_ c hc).2⟩,h.pw,h.ne,h.nd⟩
def InvK.add(h:InvK K rest cs)(c)(e:c.j=rest.length)(hn:∀x∈cs,x.nm≠c.nm)(hd:c.ds≠[]/\c.ds.length<900):InvK K (rest++[c.dl,K c]) (cs++[c]):=by
 have m:=h.more [c.dl,K c];refine⟨λx d=>?_,?_,λx d=>?_,?_⟩
 ·rcases Qqi.mp d with d|d
  ·exact m.at_ x d
  ·cases Qqa.mp d;rw[e];constructor<;>simp
 ·rw[Qxf];refine⟨h.pw,Qkg ..,λa ha b hb=>?_⟩;cases Qqa.mp hb;have:=(Qqk.mp (h.at_ a ha).2).1
  lia
 ·rcases Qqi.mp d with d|d
  ·exact h.ne x d
  ·cases Qqa.mp d; exact hd
 ·rw[Qqg,Qxk];refine⟨h.nd,?g,λa ha b hb=>?_⟩;obtain⟨x,d,rfl⟩:=Qqj.mp ha;simp only[Qqd,Qxs,Qqa]at hb;subst hb;exact hn x d
def qbx(hn:∀x∈cs,x.nm≠c.nm):dput (qzf cs) (O c.nm) (Y3 (c.j+9))=qzf (cs++[c]):=by
 unfold dput;have:(qzf cs).any (λp=>eqT p.1 (O c.nm))=false:=by
  rw[Qkz];intro p b;obtain⟨x,a,rfl⟩:=Qqj.mp b;show ¬ (x.nm==c.nm)=L;simpa using hn x a
 rw[this];simp[qzf]
def qcg{R:Z Cl}(e:c'.nm=c.nm)(h:((A++c::R).map (·.nm)).Nodup):upd (A++c::R) c'=A++c'::R:=by
 rw[Qqg,Qqd,Qxk,Qzj]at h;have a:∀x∈A,x.nm≠c'.nm:=λx d=>by
  rw[e];exact h.2.2 _ (Qqj.mpr ⟨x,d,rfl⟩) _ (Qzk ..)
 have b:∀x∈R,x.nm≠c'.nm:=λx d z=>h.2.1.1 (Qqj.mpr ⟨x,d,by rw[z,e]⟩);unfold upd;rw[Qqg,Qqd,Z9 e.symm];have g:A.map (λx=>if x.nm=c'.nm then c' else x)=A:=by
  conv=>rhs; rw[<- Qxp A]
  exact Qzr λx d=>Z8 (a x d)
 have f:R.map (λx=>if x.nm=c'.nm then c' else x)=R:=by
  conv=>rhs; rw[<- Qxp R]
  exact Qzr λx d=>Z8 (b x d)
 rw[g,f]
noncomputable abbrev rowD(ro:Z J):Z D:=ro.map .int
section
variable {sz:Zt}{T d:J}{fo jo:Z (D×D)}{ro:Z J}{rest:Y1}{cs:Z Cl}
noncomputable abbrev FC(sz:Zt)(T d:J)(fo jo:Z (D×D))(cs:Z Cl)(ro:Z J)(rest:Y1):Y1:=FS sz T d fo jo (qzf cs) (rowD ro) rest
def qxz(c)(day):(stW c day = "unvested"/\c.v=B/\c.gv=B/\day<=c.la)\/(stW c day = "stands"/\c.v≠B/\c.gv=B/\day<=c.la)\/(stW c day = "given"/\c.gv≠B)\/(stW c day = "fallen"/\c.la<day/\c.gv=B):=by
 unfold stW
 cases a:c.gv with
 |some x=>exact .inr (.inr (.inl ⟨rfl,?g⟩))
 |none=>
  by_cases hl:c.la<day
  ·exact .inr (.inr (.inr ⟨by simp[hl],hl,rfl⟩))
  ·cases hv:c.v with
   |none=>exact .inl ⟨by simp[hl],rfl,rfl,?d⟩
   |some x=>exact .inr (.inl ⟨by simp[hl],?g,rfl,?d⟩)
abbrev hit(day:J)(ps:Z (J×J))(c:Cl):Bool:=decide (stW c day = "unvested")&&hasB c.g ps
abbrev vst(day:J)(ps:Z (J×J))(c:Cl):Cl:=if hit day ps c then { c with v:=Y day } else c
def qcf(m)(I:Inv rest cs)(hc:c∈cs)(day)(i:rowAt ?z q=Y ?y)(hl:ps.length<lim)(hr:ro.length<1000):
  callD fns (m+3) 24 [Y3 3,O c.nm,O day,q] ?z=Y (.non,if hit day ps c then FC sz T d fo jo cs (ro++[c.nm]) (rest.set (c.j+1) (vst day ps c).cell) else FC sz T d fo jo cs ro rest):=by
 have hs:=qqn (sz:=sz) (T:=T) (d:=d) (fo:=fo) (jo:=jo) (bo:=qzf cs) (ro:=rowD ro) (m+1) c day (I.at_ c hc).2;have b:=I.get hc;have f:=qlu m (g:=c.g) i hl;have a:=(I.at_ c hc).2;have no:∀w,stW c day=w->(w = "stands"\/w = "given"\/w = "fallen")->hit day ps c=false:=λw e h=>by
  unfold hit;rw[e];rcases h with rfl|rfl|rfl<;>rfl
 rcases qxz c day with⟨e,h1,h2,j⟩|⟨e,_⟩|⟨e,_⟩|⟨e,_⟩
 ·rw[e]at hs;have hi:hit day ps c=hasB c.g ps:=by unfold hit; rw[e]; rfl
  cases hb:hasB c.g ps with
  |true=>
   rw[hb]at hi f;have hv:vst day ps c={ c with v:=Y day }:=by unfold vst; rw[hi]; rfl
   rw[hi,Z9 rfl,hv];have el:rowD (ro++[c.nm])=rowD ro++[O c.nm]:=by simp
   unfold FC;rw[el];exact qzz 8 [18,10] 3 [Kq b,Kr a,Kc hs,Kr a,Kc f,Kr a,Kb (Z6 (show(rowD ro).length<lim by simp; unfold lim; lia))]
  |false=>
   rw[hb]at hi f;rw[hi,Z8 ?g];exact qzz 8 [18,10] 3 [Kq b,Kr a,Kc hs,Kr a,Kc f]
 ·rw[no _ e ?qu,Z8 ?g];rw[e]at hs;exact qzz 8 [18,10] 3 [Kq b,Kr a,Kc hs]
 ·rw[no _ e (.inr ?qu),Z8 ?g];rw[e]at hs;exact qzz 8 [18,10] 3 [Kq b,Kr a,Kc hs]
 ·rw[no _ e (.inr (.inr rfl)),Z8 ?g];rw[e]at hs;exact qzz 8 [18,10] 3 [Kq b,Kr a,Kc hs]
def qzl(day)(ps)(c):(vst day ps c).nm=c.nm/\(vst day ps c).j=c.j/\(vst day ps c).ds=c.ds:=by
 unfold vst;cases hit day ps c<;>exact⟨rfl,rfl,rfl⟩
abbrev rvF(K:Cl->Ya)(day:J)(ps:Z (J×J))(r:Y1)(c:Cl):Y1:=if hit day ps c then r.set (c.j+1) (K (vst day ps c)) else r
def qmj(m)(I:Inv rest cs)(day)(ps)(hl:ps.length<lim)(hr:ro.length+cs.length<1000):
  (∀sz:Zt,callD fns (m+4) 25 [Y3 3,O day,.tup ?y] ?z=Y (.non,FC sz T d fo jo (cs.map ?qh) (ro++(cs.filter (hit day ps)).map (·.nm)) (cs.foldl (rvF Cl.cell day ps) rest)))/\Inv (cs.foldl (rvF Cl.cell day ps) rest) (cs.map ?qh):=by
 have a:∀sz:Zt,callD fns (m+4) 25 [Y3 3,O day,.tup ?y] ?z=Y (.non,FC sz T d fo jo (cs.map ?qh) (ro++(cs.filter (hit day ps)).map (·.nm)) (cs.foldl (rvF Cl.cell day ps) rest))/\Inv (cs.foldl (rvF Cl.cell day ps) rest) (cs.map ?qh):=λsz=>by
  have bk:∀A R:Z Cl,qzf (A.map ?qh++R)=qzf (A++R):=λA R=>by
   unfold qzf;rw[Qqg,Qqg,Qqp]
   congr 1
   exact Qzr λc _=>by
    show(D.int (vst day ps c).nm,D.loc ((vst day ps c).j+9))=_;rw[(qzl day ps c).1,(qzl day ps c).2.1]
  have keys:keysOf (qzf cs)=cs.map λc=>D.int c.nm:=by unfold keysOf qzf; rw[Qqp]; rfl
  have l:(?q0).ev [Y (Y3 3),Y (O day),Y (.tup ?y),B] ?z (.gc (.mcall 371 20 "names" ?K []))=Y (.lst (cs.map λc=>D.int c.nm),FC sz T d fo jo cs ro rest):=by
   have g:=qzv (st:=FC sz T d fo jo cs ro rest) (ds:=keysOf (qzf cs)) (by rw[keys]; exact qzj λ_ _=>rfl);rw[<- keys];exact qzr 8 [] 3 [Kl g]
  obtain⟨τ',st',h1,o,r',h2,s,r,i⟩:=qz1 (it:=.gc (.mcall 371 20 "names" ?K [])) (ds:=cs.map λc=>D.int c.nm) (t:=.var 3) (body:=[.expr (.mcall 371 24 "vest" ?K [.var 3,.var 1,.var 2])])
   (λk τ' st'=>∃o r',τ'=[Y (Y3 3),Y (O day),Y (.tup ?y),o]/\st'=FC sz T d fo jo ((cs.take k).map ?qh++cs.drop k) (ro++((cs.take k).filter (hit day ps)).map (·.nm)) r'/\Inv r' ((cs.take k).map ?qh++cs.drop k)/\r'=(cs.take k).foldl (rvF Cl.cell day ps) rest)
   (by show((?q0).ev _ _ _).bind _=_; rw[l]; rfl) (by simp[Src.size,seqAt]) (λk τ' st' h=>rfl) ⟨B,rest,rfl,?g,by simpa using I,rfl⟩ (λk τ' st' x n h=>by
    obtain⟨o,r',rfl,rfl,f,i⟩:=h;rw[Qqv]at n;obtain⟨c,hc,rfl⟩:=Qqy.mp n;have hk:=(Qqk.mp hc).1;have e:=(Qqk.mp hc).2;have dr:cs.drop k=c::cs.drop (k+1):=by rw[Qx1 hk,e]
    have tk:cs.take (k+1)=cs.take k++[c]:=by rw[Qq3 hk,e]
    rw[dr]at f ⊢;have p:c∈(cs.take k).map ?qh++c::cs.drop (k+1):=by simp
    have j:(ro++((cs.take k).filter (hit day ps)).map (·.nm)).length<1000:=by
     have:=Qz0 (hit day ps) (cs.take k);rw[Qqr,Qqz];rw[Qzy]at this
     lia
    have hv:=qcf (sz:=sz) (T:=T) (d:=d) (fo:=fo) (jo:=jo) m f p day (q:=.tup ?y) rfl hl j;generalize hS:(if hit day ps c=L then _ else _:Y1)=S1 at hv;refine⟨[Y (Y3 3),Y (O day),Y (.tup ?y),Y (O c.nm)],S1,qzp 8 [24] 3 [Kc hv],Y (O c.nm),if hit day ps c then r'.set (c.j+1) (vst day ps c).cell else r',rfl,?_,?_,by rw[tk,Qxv,<- i]; rfl⟩
    ·rw[<- hS]
     cases b:hit day ps c with
     |true=>
      have hb:qzf ((cs.take (k+1)).map ?qh++cs.drop (k+1))=qzf ((cs.take k).map ?qh++c::cs.drop (k+1)):=by rw[bk,bk,Qjs,<- dr,Qjs]
      rw[Z9 rfl,Z9 rfl];unfold FC;rw[hb,tk,Qq8,Qqg];simp[b]
     |false=>
      rw[Z8 ?g,Z8 ?g,tk,Qqg,Qq8,Qqg];have:vst day ps c=c:=by unfold vst; rw[b]; rfl
      simp[b,this]
    ·rw[tk,Qqg,Qqo];show Inv _ (List.map ?qh (cs.take k)++vst day ps c::cs.drop (k+1))
     cases b:hit day ps c with
     |true=>
      have:=f.cell p (qzl day ps c).1 (qzl day ps c).2.1 (qzl day ps c).2.2;rwa [qcg (qzl day ps c).1 f.nd]at this
     |false=>
      have:vst day ps c=c:=by unfold vst; rw[b]; rfl
      rw[this]
      exact f)
  simp only[Qqz,Qzb,Qkd,Qqs]at s r i;subst h2 s;rw[<- i];exact⟨qzz 8 [] 4 [Ks h1],r⟩
 exact⟨λsz=>(a sz).1,(a ⟨.non,[],[]⟩).2⟩
end
section
variable {sz:Zt}{T d:J}{fo jo:Z (D×D)}{ro:Z J}{rest:Y1}{cs:Z Cl}
theorem set2{b':Ya}:∀{rest},(rest++[a,b]).set (rest.length+1) b'=rest++[a,b']
 |[]=>rfl
 |x::r=>congrArg (x::·) (set2)
def bk1(e:c'.nm=c.nm)(a:c'.j=c.j):qzf (cs++[c'])=qzf (cs++[c]):=by simp[qzf,e,a]
def ql2(bo)(r)(s):(FS sz T d fo jo bo r s).length=s.length+8:=by simp[FS]
def qg5(m)(I:Inv rest cs)(dy o)(g)(h:∀bo r,rowAt (FS sz T d fo jo bo (rowD ro) (rest++r)) q=Y ?y)(hl:ps.length<lim)(hr:ro.length+cs.length<900)(hn:∀x∈cs,x.nm≠dy)(k:thr T [dy]=Lq):
  callD fns (m+4) 23 [Y3 3,O dy,O o,rD g,q] ?z=Y (.non,FC sz T d fo jo (cs++[vst dy ps ⟨dy,rest.length,o,g,[dy],Lq,B,B⟩]) (ro++if hit dy ps ⟨dy,rest.length,o,g,[dy],Lq,B,B⟩ then [dy] else []) (rest++[Y8 L [O dy],(vst dy ps ⟨dy,rest.length,o,g,[dy],Lq,B,B⟩).cell]))/\
   Inv (rest++[Y8 L [O dy],(vst dy ps ⟨dy,rest.length,o,g,[dy],Lq,B,B⟩).cell]) (cs++[vst dy ps ⟨dy,rest.length,o,g,[dy],Lq,B,B⟩]):=by
 have hL:=qkf (m+1) (st:=FC sz T d fo jo cs ro (rest++[Y8 L [O dy]])) (T:=T) (q:=Yc [O dy]) (xs:=[dy]) ?g ?g (λr=>rfl);rw[k]at hL;generalize hc:(⟨dy,rest.length,o,g,[dy],Lq,B,B⟩:Cl)=c;have c1:c.nm=dy:=by rw[<- hc]
 have c2:c.j=rest.length:=by rw[<- hc]
 have c3:c.dl=Y8 L [O dy]:=by rw[<- hc]; rfl
 have c4:c.cell=.obj 289 (clF o g (Y3 (rest.length+8)) Lq):=by rw[<- hc]; rfl
 have a:=I.add c c2 (by rw[c1]; exact hn) (by rw[<- hc]; simp);have V:=qzl dy ps c;have b:=cinit (m+2) (FC sz T d fo jo cs ro (rest++[Y8 L [O dy]])) o Lq g (Y3 (rest.length+8));have hv:=qcf m a (c:=c) ?g dy (h _ _) hl ?d;have f:FS sz T d fo jo (dput (qzf cs) (O dy) (Y3 (FC sz T d fo jo cs ro (rest++[Y8 L [O dy]])).length)) (rowD ro) (rest++[Y8 L [O dy]]++[.obj 289 (clF o g (Y3 (rest.length+8)) Lq)])=FC sz T d fo jo (cs++[c]) ro (rest++[c.dl,c.cell]):=by
  have:(FC sz T d fo jo cs ro (rest++[Y8 L [O dy]])).length=c.j+9:=by rw[ql2,c2]; simp
  rw[this,<- c1,qbx (by rw[c1]; exact hn),c1,<- c3,<- c4];simp
 rw[c1,<- f]at hv;have j:=qzv (st:=FC sz T d fo jo cs ro (rest++[Y8 L [O dy]])) (ds:=[O dy]) rfl;generalize hS:(if hit dy ps c=L then _ else _:Y1)=S1 at hv;have e:decide ((qzf cs).length<lim)=true:=Z6 (by unfold qzf lim; rw[Qqz]; lia);have run:callD fns (m+4) 23 [Y3 3,O dy,O o,rD g,q] ?z=Y (.non,S1):=
  qzz 8 [15,16,24] 4 [Kl j,Kc hL,Kc b,Kb e,Kc hv]
 rw[run,<- hS];rw[f]
 cases i:hit dy ps c with
 |true=>
  have:=a.cell ?g V.1 V.2.1 V.2.2;rw[qcg V.1 a.nd,c2,set2]at this;rw[c3]at this;refine⟨?_,this⟩;rw[Z9 rfl,Z9 rfl,c2,set2,c3];unfold FC;rw[bk1 V.1 V.2.1]
 |false=>
  have:vst dy ps c=c:=by unfold vst; rw[i]; rfl
  rw[this,<- c3];refine⟨?_,a⟩;rw[Z8 ?g,Z8 ?g,Qqs]
end
def over(day:J)(c:Cl):Prop:=c.gv≠B\/c.la<day
inductive Op (day:J):Z Cl->Z J->Z Cl->Z J->Prop
 |same {cs ro}:Op day cs ro cs ro
 |upd {cs ro c c'} (hc:c∈cs) (hn:c'.nm=c.nm) (hv:c'.v=c.v):Op day cs ro (upd cs c') ro
 |vein {cs ro} (ps:Z (J×J)):Op day cs ro (cs.map (vst day ps)) (ro++(cs.filter (hit day ps)).map (·.nm))
 |stake {cs ro c} (ps:Z (J×J)) (hn:c.nm=day) (hv:c.v=B):Op day cs ro (cs++[vst day ps c]) (ro++if hit day ps c then [day] else [])
 |part0 {cs ro c c' p} (hc:c∈cs) (hn:c'.nm=c.nm) (hv:c'.v=c.v) (pn:p.nm=day) (pv:p.v=c.v) (h:c.v=B):Op day cs ro (K52.upd cs c'++[p]) ro
 |part1 {cs ro c c' p A R} (hc:c∈cs) (hn:c'.nm=c.nm) (hv:c'.v=c.v) (pn:p.nm=day) (pv:p.v=c.v) (h:c.v≠B) (hr:ro=A++c.nm::R):Op day cs ro (K52.upd cs c'++[p]) (A++c.nm::day::R)
abbrev Cl.z(c:Cl):Cl:={ c with j:=0 }
def qgf(cs)(c):(upd cs c).map Cl.z=upd (cs.map Cl.z) c.z:=by
 unfold upd;rw[Qqp,Qqp];refine Qzr λx _=>?_
 show(if x.nm=c.nm then c else x).z=if x.nm=c.nm then c.z else x.z
 split<;>rfl
abbrev cutG(g:J×J×J×J)(s l:J):Y2 ((J×J×J×J)×(J×J×J×J)):=
 if s=0 then if g.1<l/\l<=g.2.2.1 then Y ((g.1,g.2.1,l - 1,g.2.2.2),(l,g.2.1,g.2.2.1,g.2.2.2)) else B
 else if g.2.1<l/\l<=g.2.2.2 then Y ((g.1,g.2.1,g.2.2.1,l - 1),(g.1,l,g.2.2.1,g.2.2.2)) else B
inductive Tr (T day:J) (zs:Z Cl) (ro:Z J):D->String->Z Cl->Z J->Prop
 |no {n w r} (h:∀c∈zs,c.nm≠n):Tr T day zs ro (.tup (sO w::.int n::r)) "noclaim" zs ro
 |over {c w r} (hc:c∈zs) (ho:over day c):Tr T day zs ro (.tup (sO w::.int c.nm::r)) "ended" zs ro
 |work {c} (hc:c∈zs) (ho:¬ K52.over day c):Tr T day zs ro (.tup [sO "work",.int c.nm]) "good" (upd zs { c with ds:=c.ds++[day],la:=day+T }) ro
 |give {c} (hc:c∈zs) (ho:¬ K52.over day c):Tr T day zs ro (.tup [sO "give",.int c.nm]) "good" (upd zs { c with gv:=Y day }) ro
 |sell {c o} (hc:c∈zs) (ho:¬ K52.over day c):Tr T day zs ro (.tup [sO "sell",.int c.nm,.int o]) "good" (upd zs { c with o:=o }) ro
 |nocut {c s l o} (hc:c∈zs) (ho:¬ K52.over day c) (hs:s=0\/s=1) (h:cutG c.g s l=B):Tr T day zs ro (.tup [sO "part",.int c.nm,.int s,.int l,.int o]) "nocut" zs ro
 |part {c s l o a b ro'} (hc:c∈zs) (ho:¬ K52.over day c) (hs:s=0\/s=1) (h:cutG c.g s l=Y (a,b)) (hr:c.v=B/\ro'=ro\/∃x A R,c.v=Y x/\ro=A++c.nm::R/\c.nm ∉ A/\ro'=A++c.nm::day::R):Tr T day zs ro (.tup [sO "part",.int c.nm,.int s,.int l,.int o]) "good" (upd zs { c with g:=a }++[⟨day,0,o,b,c.ds,c.la,c.v,B⟩]) ro'
def ix1:idxD st (Y9 (a::b::r)) (O 1)=Y b:=by
 show atI (a::b::r) 1=_;unfold atI ixN;rw[Z9 ?c,Z9 ?r]
 rfl
section
variable {sz:Zt}{T d:J}{fo jo:Z (D×D)}{ro:Z J}{rest:Y1}{cs:Z Cl}
def chg_no(m)(day n)(w)(r)(hn:∀c∈cs,c.nm≠n):callD fns (m+1) 26 [Y3 3,O day,Y9 (sO w::O n::r)] ?z=Y (sO "noclaim",FC sz T d fo jo cs ro rest):=
 qzz 8 [] 1 [Ki (ix1 (st:=FC sz T d fo jo cs ro rest) (a:=sO w) (b:=O n) (r:=r)),Kq (qpi hn)]
def qim(m)(I:Inv rest cs)(day)(w)(r)(hc:c∈cs)(h:over day c):callD fns (m+2) 26 [Y3 3,O day,Y9 (sO w::O c.nm::r)] ?z=Y (sO "ended",FC sz T d fo jo cs ro rest):=by
 have hs:=qqn (sz:=sz) (T:=T) (d:=d) (fo:=fo) (jo:=jo) (bo:=qzf cs) (ro:=rowD ro) m c day (I.at_ c hc).2;have g:=I.get hc;have f:=(I.at_ c hc).2;rcases qxz c day with⟨e,h1,h2,i⟩|⟨e,h1,h2,i⟩|⟨e,_⟩|⟨e,_⟩
 ·rcases h with z|z
  ·exact absurd h2 z
  ·lia
 ·rcases h with z|z
  ·exact absurd h2 z
  ·lia
 ·rw[e]at hs;exact qzz 8 [18] 2 [Ki (ix1 (st:=FC sz T d fo jo cs ro rest) (a:=sO w) (b:=O c.nm) (r:=r)),Kq g,Kq g,Kr f,Kc hs]
 ·rw[e]at hs;exact qzz 8 [18] 2 [Ki (ix1 (st:=FC sz T d fo jo cs ro rest) (a:=sO w) (b:=O c.nm) (r:=r)),Kq g,Kq g,Kr f,Kc hs]
def qam(a:¬ over day c):stW c day = "unvested"\/stW c day = "stands":=by
 rcases qxz c day with⟨e,_⟩|⟨e,_⟩|⟨_,e⟩|⟨_,e,_⟩
 ·exact .inl e
 ·exact .inr e
 ·exact absurd (.inl e) a
 ·exact absurd (.inr e) a
def qin(m)(I:Inv rest cs)(day)(hc:c∈cs)(f:¬ over day c):callD fns (m+2) 26 [Y3 3,O day,Y9 [sO "give",O c.nm]] ?z=Y (sO "good",FC sz T d fo jo cs ro (rest.set (c.j+1) { c with gv:=Y day:Cl }.cell)):=by
 have hs:=qqn (sz:=sz) (T:=T) (d:=d) (fo:=fo) (jo:=jo) (bo:=qzf cs) (ro:=rowD ro) m c day (I.at_ c hc).2;have b:=I.get hc;have a:=(I.at_ c hc).2;rcases qam f with e|e
 ·rw[e]at hs;exact qzz 8 [18] 2 [Kq b,Kq b,Kr a,Kc hs,Kr a]
 ·rw[e]at hs;exact qzz 8 [18] 2 [Kq b,Kq b,Kr a,Kc hs,Kr a]
def qil(m)(I:Inv rest cs)(day o)(hc:c∈cs)(f:¬ over day c):callD fns (m+2) 26 [Y3 3,O day,Y9 [sO "sell",O c.nm,O o]] ?z=Y (sO "good",FC sz T d fo jo cs ro (rest.set (c.j+1) { c with o:=o:Cl }.cell)):=by
 have hs:=qqn (sz:=sz) (T:=T) (d:=d) (fo:=fo) (jo:=jo) (bo:=qzf cs) (ro:=rowD ro) m c day (I.at_ c hc).2;have b:=I.get hc;have a:=(I.at_ c hc).2;rcases qam f with e|e
 ·rw[e]at hs;exact qzz 8 [18] 2 [Kq b,Kq b,Kr a,Kc hs,Kr a]
 ·rw[e]at hs;exact qzz 8 [18] 2 [Kq b,Kq b,Kr a,Kc hs,Kr a]
def qii(m)(I:Inv rest cs)(day)(hc:c∈cs)(i:¬ over day c)(l:c.ds.length<899)(j:thr T (c.ds++[day])=Lq):callD fns (m+3) 26 [Y3 3,O day,Y9 [sO "work",O c.nm]] ?z=Y (sO "good",FC sz T d fo jo cs ro ((rest.set c.j { c with ds:=c.ds++[day],la:=Lq:Cl }.dl).set (c.j+1) { c with ds:=c.ds++[day],la:=Lq:Cl }.cell)):=by
 have hs:=qqn (sz:=sz) (T:=T) (d:=d) (fo:=fo) (jo:=jo) (bo:=qzf cs) (ro:=rowD ro) (m+1) c day (I.at_ c hc).2;have h:=I.get hc;obtain⟨b,f⟩:=I.at_ c hc;have lt:=(Qqk.mp b).1;have a:(rest.set c.j (Y8 L (c.ds.map O++[O day])))[c.j+1]?=Y c.cell:=by rw[Qq7 ?d]; exact f
 have g:(c.ds.map D.int).length<lim:=by rw[Qqz]; unfold lim; lia
 have hL:=qkf m (T:=T) (q:=Y3 (c.j+8)) (xs:=c.ds++[day]) ?g ?r (λr=>by
  show listAt _ _=_;unfold listAt;have:(FC sz T d fo jo cs ro (rest.set c.j (Y8 L (c.ds.map O++[O day])))++r)[c.j+8]?=((rest.set c.j (Y8 L (c.ds.map O++[O day])))++r)[c.j]?:=rfl;rw[this,Qq9 (by rw[Qxw]; exact lt),Qza lt]
  simp)
 rw[j]at hL;have k:({ c with ds:=c.ds++[day],la:=Lq:Cl }).dl=Y8 L (c.ds.map O++[O day]):=by unfold Cl.dl; simp
 rw[k];rcases qam i with e|e
 ·rw[e]at hs;exact qzz 8 [18,15] 3 [Kq h,Kq h,Kr f,Kc hs,Kr f,Kr b,Kr b,Kb (Z6 g),Kr a,Kc hL,Kr a]
 ·rw[e]at hs;exact qzz 8 [18,15] 3 [Kq h,Kq h,Kr f,Kc hs,Kr f,Kr b,Kr b,Kb (Z6 g),Kr a,Kc hL,Kr a]
end
section
variable {sz:Zt}{T d:J}{fo jo:Z (D×D)}{ro:Z J}{rest:Y1}{cs:Z Cl}
def ga(X){S:Y1}{p:Y0}(h:S[p]?=Y c):(S++X)[p]?=Y c:=by rw[Qq9 (Qqk.mp h).1]; exact h
def pieceG(m){S:Y1}(c:Cl)(hc:S[p]?=Y (c.cel (Y3 q)))(hd:S[q]?=Y c.dl)(o)(g):callD fns (m+2) 17 [Y3 p,O o,rD g] S=Y (Y3 (S.length+1),S++[c.dl,(⟨0,0,o,g,[],c.la,c.v,B⟩:Cl).cel ?V]):=by
 have a:=cinit m (S++[c.dl]) o c.la g ?V;have b:=gl (st:=S++[c.dl]) (c:=.obj 289 (clF o g ?V c.la));refine qve 0 [16] 2 (Y3 (S++[c.dl]).length,(S++[c.dl]++[Ya.obj 289 (clF o g ?V c.la)]).set (S++[c.dl]).length ((⟨0,0,o,g,[],c.la,c.v,B⟩:Cl).cel ?V)) (λq=>_/\_/\_/\_/\_/\_/\q) [.r (c.cel (Y3 q)),.r c.dl,.r (c.cel (Y3 q)),.c (.non,S++[c.dl]++[.obj 289 (clF o g ?V c.la)]),.r (c.cel (Y3 q)),.r (.obj 289 (clF o g ?V c.la))] ⟨hc,hd,ga [c.dl] hc,a,ga [.obj 289 (clF o g ?V c.la)] (ga [c.dl] hc),b,?_⟩;rw[sl];simp
def qhf(m){c:Cl}(a:rest[c.j]?=Y c.dl)(b:rest[c.j+1]?=Y c.cell)(nm o)(g):callD fns (m+2) 17 [Y3 (c.j+9),O o,rD g] ?z=Y (Y3 (rest.length+9),FC sz T d fo jo cs ro (rest++[c.dl,(⟨nm,rest.length,o,g,c.ds,c.la,c.v,B⟩:Cl).cell])):=by
 have:=pieceG m (S:=FC sz T d fo jo cs ro rest) (p:=c.j+9) (q:=c.j+8) c b a o g;rw[ql2]at this;exact this
abbrev cuD:Y2 ((J×J×J×J)×(J×J×J×J))->D
 |some p=>.tup [rD p.1,rD p.2]
 |none=>.non
def qd0(m)(g)(s line)(hs:s=0\/s=1)(st):callD fns (m+2) 12 [rD g,O s,O line] st=Y (cuD (cutG g s line),st):=by
 unfold cutG;rcases hs with rfl|rfl
 ·rw[Z9 rfl]
  by_cases h1:g.1<line
  ·by_cases h2:line<=g.2.2.1
   ·rw[Z9 ⟨h1,h2⟩];exact qzz 0 [] 2 [Kb (Z6 h1),Kb (Z6 h2),Kk]
   ·rw[Z8 λz=>h2 z.2];exact qzz 0 [] 2 [Kb (Z6 h1),Kb (Z7 h2)]
  ·rw[Z8 λz=>h1 z.1];exact qzz 0 [] 2 [Kb (Z7 h1)]
 ·rw[Z8 ?c]
  by_cases h1:g.2.1<line
  ·by_cases h2:line<=g.2.2.2
   ·rw[Z9 ⟨h1,h2⟩];exact qzz 0 [] 2 [Kb (Z6 h1),Kb (Z6 h2),Kk]
   ·rw[Z8 λz=>h2 z.2];exact qzz 0 [] 2 [Kb (Z6 h1),Kb (Z7 h2)]
  ·rw[Z8 λz=>h1 z.1];exact qzz 0 [] 2 [Kb (Z7 h1)]
def qo6(X:Z D)(y z)(Zq):(X++y::Zq).take (X.length+1)++z::(X++y::Zq).drop (X.length+1)=X++y::z::Zq:=by
 induction X with
 |nil=>rfl
 |cons x r a=>exact congrArg (x::·) a
def eqI(a b):eqT (O a) (O b)=(a==b):=rfl
def row_ix{R:Z J}(h:n ∉ A)(st:Y1):(if flat 9 (O n)&&flats 9 (rowD (A++n::R)) then((rowD (A++n::R)).findIdx? λy=>eqT y (O n)).map λ(j:Y0)=>(D.int (j:J),st) else B)=Y (O (A.length:J),st):=by
 have f:∀l:Z J,flats 9 (rowD l)=true:=λl=>by
  induction l with
  |nil=>rfl
  |cons a r b=>show(flat 9 (O a)&&flats 9 (rowD r))=L; rw[b]; rfl
 rw[f,show flat 9 (O n)=L from rfl,Qx8,Z9 rfl];have:(rowD (A++n::R)).findIdx? (λy=>eqT y (O n))=Y A.length:=by
  induction A with
  |nil=>show(if (n==n)=L then _ else _)=_; simp
  |cons a r b=>
   have ha:(a==n)=false:=by simp only[Qqc,not_or]at h; simpa using λe=>h.1 e.symm
   show List.findIdx? _ (D.int a::rowD (r++n::R))=_;rw[List.findIdx?_cons];rw[eqI,ha];simp only[Qzo,if_false];rw[b (λz=>h (Qq6 _ z))]
   rfl
 rw[this]
 rfl
def qn6(m)(I:Inv rest cs)(day line o s)(hs:s=0\/s=1)(hc:c∈cs)(hr:ro.length+cs.length<900)(hn:∀x∈cs,x.nm≠day)(hv:c.v≠B->∃A R,ro=A++c.nm::R/\c.nm ∉ A)(v:¬ over day c):
  ∃w cs' ro' k,(∀sz:Zt,callD fns (m+3) 27 [Y3 3,O day,Y9 [sO "part",O c.nm,O s,O line,O o]] ?z=Y (sO w,FC sz T d fo jo cs' ro' k))/\Inv k cs'/\Op day cs ro cs' ro'/\(∀c∈cs',∃x,x.ds.length<=c.ds.length/\c.ds.length<=x.ds.length+1/\x∈cs)/\Tr T day (cs.map Cl.z) ro (Y9 [sO "part",O c.nm,O s,O line,O o]) w (cs'.map Cl.z) ro':=by
 have U:=I.get hc;have E:c.z∈cs.map Cl.z:=Qqj.mpr ⟨c,hc,rfl⟩;obtain⟨V,j⟩:=I.at_ c hc;have F:=qd0 m c.g s line hs
 cases l:cutG c.g s line with
 |none=>
  rw[l]at F;exact⟨"nocut",cs,ro,rest,λsz=>qzz 8 [12] 3 [Kq U,Kr j,Kc (F ?z),Kk],I,.same,λc hc=>⟨c,?d,?d,hc⟩,.nocut (c:=c.z) E v hs l⟩
 |some q=>
  obtain⟨a,b⟩:=q;rw[l]at F;have Jq:=I.cell (c':={ c with g:=a }) hc rfl rfl rfl;have lt:=(Qqk.mp j).1;have k1:(rest.set (c.j+1) ({ c with g:=a }:Cl).cell)[c.j]?=Y ({ c with g:=a }:Cl).dl:=by rw[Qq7 ?d]; exact V
  have k2:(rest.set (c.j+1) ({ c with g:=a }:Cl).cell)[c.j+1]?=Y ({ c with g:=a }:Cl).cell:=Qza ?d;have i:=λsz:Zt=>qhf (sz:=sz) (T:=T) (d:=d) (fo:=fo) (jo:=jo) (cs:=cs) (ro:=ro) (m:=m) (c:={ c with g:=a }) k1 k2 day o b;have W:=qjj (c':={ c with g:=a }) hc I.nd rfl rfl;generalize u:rest.set (c.j+1) ({ c with g:=a }:Cl).cell=r at Jq k1 k2 i;have a0:r.length=rest.length:=by rw[<- u,Qxw]
  generalize f:(⟨day,r.length,o,b,({ c with g:=a }:Cl).ds,({ c with g:=a }:Cl).la,({ c with g:=a }:Cl).v,B⟩:Cl)=p at i;have p1:p.nm=day:=by rw[<- f]
  have p2:p.j=r.length:=by rw[<- f]
  have p3:p.dl=({ c with g:=a }:Cl).dl:=by rw[<- f]; rfl
  have p4:p.v=c.v:=by rw[<- f]
  have G:∀x∈upd cs { c with g:=a },x.nm≠p.nm:=λx hx=>by
   have:x.nm∈(upd cs { c with g:=a }).map (·.nm):=Qqj.mpr ⟨x,hx,rfl⟩;rw[qqh]at this;obtain⟨y,t,e⟩:=Qqj.mp this;rw[<- e,p1];exact hn y t
  have X:=Jq.add p p2 G (by rw[<- f]; exact I.ne c hc);rw[p3]at X;have n:dput (qzf cs) (O day) (Y3 (r.length+9))=qzf (upd cs { c with g:=a }++[p]):=by
   rw[<- qbx G,W,p1,p2]
  have Q:(r++[({ c with g:=a }:Cl).dl,p.cell])[c.j+1]?=Y ({ c with g:=a }:Cl).cell:=by rw[Qq9 ?d]; exact k2
  have P:decide ((qzf cs).length<lim)=true:=Z6 (by unfold qzf lim; rw[Qqz]; lia);have N:∀y∈upd cs { c with g:=a }++[p],∃x,x.ds.length<=y.ds.length/\y.ds.length<=x.ds.length+1/\x∈cs:=λy t=>by
   rcases Qqi.mp t with t|t
   ·obtain⟨z,E,rfl⟩:=Qqj.mp t
    by_cases e:z.nm=({ c with g:=a }:Cl).nm
    ·rw[Z9 e]; exact⟨c,Qqw _,Qxo _,hc⟩
    ·rw[Z8 e]; exact⟨z,Qqw _,Qxo _,E⟩
   ·cases Qqa.mp t;exact⟨c,by rw[<- f]; exact Qqw _,by rw[<- f]; exact Qxo _,hc⟩
  have C:(upd cs { c with g:=a }++[p]).map Cl.z=upd (cs.map Cl.z) { c.z with g:=a }++[⟨day,0,o,b,c.ds,c.la,c.v,B⟩]:=by rw[Qqg,qgf,<- f]; rfl
  cases h:c.v with
  |none=>
   refine⟨"good",upd cs { c with g:=a }++[p],ro,r++[({ c with g:=a }:Cl).dl,p.cell],λsz=>?_,X,.part0 hc rfl rfl p1 p4 h,N,by rw[C]; exact .part (c:=c.z) E v hs l (.inl ⟨h,rfl⟩)⟩;rw[<- u]at i k2 Q n ⊢;unfold FC;rw[<- n];exact qzz 8 [12,17] 3 [Kq U,Kr j,Kc (F ?z),Kk,Kr j,Kr k2,Kc (i sz),Kb P,Kr Q,Kb (nnN h)]
  |some x=>
   obtain⟨A,R,e,hA⟩:=hv (by rw[h]; simp);refine⟨"good",upd cs { c with g:=a }++[p],A++c.nm::day::R,r++[({ c with g:=a }:Cl).dl,p.cell],λsz=>?_,X,.part1 hc rfl rfl p1 p4 (λz=>nomatch z.symm.trans h) e,N,by rw[C]; exact .part (c:=c.z) E v hs l (.inr ⟨x,A,R,h,e,hA,rfl⟩)⟩;rw[<- u]at i k2 Q n ⊢;have K:=row_ix (R:=R) hA (FS sz T d fo jo (dput (qzf cs) (O day) (Y3 ((rest.set (c.j+1) ({ c with g:=a }:Cl).cell).length+9))) (rowD ro) (rest.set (c.j+1) ({ c with g:=a }:Cl).cell++[({ c with g:=a }:Cl).dl,p.cell]));rw[<- e]at K;have H:(rowD ro).length=ro.length:=by simp
   have a1:ro.length=A.length+(R.length+1):=by rw[e]; simp
   have hok:decide (0<=(A.length:J)+1/\(A.length:J)+1<=(rowD ro).length/\(rowD ro).length<lim)=true:=Z6 ⟨?d,by rw[H]; lia,by rw[H]; unfold lim; lia⟩;have S:(rowD ro).take ((A.length:J)+1).toNat++O day::(rowD ro).drop ((A.length:J)+1).toNat=rowD (A++c.nm::day::R):=by
    rw[show((A.length:J)+1).toNat=(rowD A).length+1 by simp,e];have:=qo6 (rowD A) (O c.nm) (O day) (rowD R);simpa[rowD] using this
   unfold FC;rw[<- n,<- S];exact qzz 8 [12,17] 3 [Kq U,Kr j,Kc (F ?z),Kk,Kr j,Kr k2,Kc (i sz),Kb P,Kr Q,Kb (nnS h),Kc K,Kb hok]
end
structure RowI (day:J) (cs:Z Cl) (ro:Z J):Prop where
 in1:∀n∈ro,∃c∈cs,c.nm=n
 in2:∀c∈cs,c.v≠B->c.nm∈ro
 le:∀c∈cs,c.nm<=day
abbrev voD(vs:Z (J×D×Z (J×J))):Z (D×D):=vs.map λv=>(.int v.1,.tup [v.2.1,.tup ?qr])
def ChI(T:J)(c:Cl):Prop:=c.ds.foldl (chS T) []=c.ds/\c.la=thr T c.ds
def qc2{T:J}(a:ds≠[])(hf:ds.foldl (chS T) []=ds)(hd:day<=thr T ds):(ds++[day]).foldl (chS T) []=ds++[day]/\thr T (ds++[day])=day+T:=by
 unfold thr at hd;rw[hf,Qj5 a]at hd;have hd:day<=ds.getLast a+T:=hd;have e:(ds++[day]).foldl (chS T) []=ds++[day]:=by
  rw[Qxv,hf];show chS T ds day=_;unfold chS;rw[dif_neg a,Z9 hd]
 refine⟨e,?_⟩;unfold thr;rw[e];simp
section
variable {sz:Zt}{T d:J}{fo jo:Z (D×D)}{ro:Z J}{rest:Y1}{cs:Z Cl}
def qaa(h:Op day cs ro cs' f):(∀c∈cs',(∃x∈cs,x.nm=c.nm)\/c.nm=day)/\cs'.length<=cs.length+1/\f.length+cs.length<=ro.length+cs'.length+cs.length:=by
 have e:∀(cs:Z Cl) b,(upd cs b).length=cs.length:=λcs b=>by unfold upd; simp
 have un:∀(cs:Z Cl) b,∀c∈upd cs b,∃x∈cs,x.nm=c.nm:=λcs b c hc=>by
  have:c.nm∈(upd cs b).map (·.nm):=Qqj.mpr ⟨c,hc,rfl⟩;rw[qqh]at this;exact Qqj.mp this
 cases h with
 |same=>exact⟨λc hc=>.inl ⟨c,hc,rfl⟩,?d,?d⟩
 |upd hc hn hv=>exact⟨λc hc=>.inl (un _ _ c hc),by rw[e]; lia,by rw[e]; lia⟩
 |vein ps=>
  refine⟨λc hc=>?_,?g,?_⟩
  ·obtain⟨x,a,rfl⟩:=Qqj.mp hc;exact .inl ⟨x,a,(qzl day ps x).1.symm⟩
  ·have:=Qz0 (hit day ps) cs;simp
   lia
 |@stake c ps hn hv=>
  refine⟨λx a=>?_,?g,?_⟩
  ·rcases Qqi.mp a with a|a
   ·exact .inl ⟨x,a,rfl⟩
   ·cases Qqa.mp a;exact .inr ((qzl day ps c).1.trans hn)
  ·split<;>simp<;>lia
 |@part0 c b p hc hn hv pn g h=>
  refine⟨λx a=>?_,by simp[e],by simp[e]<;>lia⟩;rcases Qqi.mp a with a|a
  ·exact .inl (un _ _ x a)
  ·cases Qqa.mp a; exact .inr pn
 |@part1 c b p A R hc hn hv pn g h hr=>
  subst hr;refine⟨λx a=>?_,by simp[e],by simp[e]; lia⟩;rcases Qqi.mp a with a|a
  ·exact .inl (un _ _ x a)
  ·cases Qqa.mp a; exact .inr pn
inductive CF':D->Prop
 |work (n:J):CF' (.tup [sO "work",.int n])
 |give (n:J):CF' (.tup [sO "give",.int n])
 |sell (n o:J) (ho:1<=o/\o<=40):CF' (.tup [sO "sell",.int n,.int o])
 |part (n s l o:J) (hs:s=0\/s=1) (ho:1<=o/\o<=40):CF' (.tup [sO "part",.int n,.int s,.int l,.int o])
def qa4(cs:Z Cl)(n):(∀c∈cs,c.nm≠n)\/∃c∈cs,c.nm=n:=by
 by_cases h:∃c∈cs,c.nm=n
 ·exact .inr h
 ·exact .inl λc hc e=>h ⟨c,hc,e⟩
theorem qv7:∀{l:Z J},n∈l->∃A R,l=A++n::R/\n ∉ A
 |a::r,h=>by
  by_cases e:a=n
  ·exact⟨[],r,by rw[e]; rfl,?g⟩
  ·rcases Qqc.mp h with z|z
   ·exact absurd z.symm e
   ·obtain⟨A,R,rfl,hA⟩:=qv7 z;exact⟨a::A,R,rfl,by simp only[Qqc,not_or]; exact⟨λq=>e q.symm,hA⟩⟩
def qfn(m)(I:Inv rest cs)(i day)(hd:i<day)(hr:ro.length+cs.length<900)(E:∀c∈cs,c.ds.length<899)(Rw:RowI i cs ro)(p:∀c∈cs,ChI T c)(hf:CF' f):
  ∃w cs' ro' a,(∀sz:Zt,callD fns (m+4) 26 [Y3 3,O day,f] ?z=Y (sO w,FC sz T d fo jo cs' ro' a))/\Inv a cs'/\Op day cs ro cs' ro'/\(∀c∈cs',∃x,x.ds.length<=c.ds.length/\c.ds.length<=x.ds.length+1/\(x∈cs))/\Tr T day (cs.map Cl.z) ro f w (cs'.map Cl.z) ro':=by
 have t:∀{c:Cl},c∈cs->c.z∈cs.map Cl.z:=λh=>Qqj.mpr ⟨_,h,rfl⟩;have self:∀c∈cs,∃x,x.ds.length<=c.ds.length/\c.ds.length<=x.ds.length+1/\x∈cs:=λc hc=>⟨c,?d,?d,hc⟩
 have g:∀{c q:Cl},c∈cs->c.ds.length<=q.ds.length->q.ds.length<=c.ds.length+1->∀y∈upd cs q,∃x,x.ds.length<=y.ds.length/\y.ds.length<=x.ds.length+1/\x∈cs:=λ{c q} hc h1 h2 y G=>by
  obtain⟨z,F,rfl⟩:=Qqj.mp G
  by_cases e:z.nm=q.nm
  ·rw[Z9 e]; exact⟨c,h1,h2,hc⟩
  ·rw[Z8 e]; exact self z F
 have no:∀n w r,(∀c∈cs,c.nm≠n)->∃k cs' ro' a,(∀sz:Zt,callD fns (m+4) 26 [Y3 3,O day,Y9 (sO w::O n::r)] ?z=Y (sO k,FC sz T d fo jo cs' ro' a))/\Inv a cs'/\Op day cs ro cs' ro'/\(∀c∈cs',∃x,x.ds.length<=c.ds.length/\c.ds.length<=x.ds.length+1/\(x∈cs))/\Tr T day (cs.map Cl.z) ro (Y9 (sO w::O n::r)) k (cs'.map Cl.z) ro':=λn w r h=>
  ⟨"noclaim",cs,ro,rest,λ_=>chg_no (m+3) day n w r h,I,.same,self,.no λc hc=>by obtain⟨x,A,rfl⟩:=Qqj.mp hc; exact h x A⟩
 have u:∀c w r,c∈cs->over day c->∃k cs' ro' a,(∀sz:Zt,callD fns (m+4) 26 [Y3 3,O day,Y9 (sO w::O c.nm::r)] ?z=Y (sO k,FC sz T d fo jo cs' ro' a))/\Inv a cs'/\Op day cs ro cs' ro'/\(∀c∈cs',∃x,x.ds.length<=c.ds.length/\c.ds.length<=x.ds.length+1/\(x∈cs))/\Tr T day (cs.map Cl.z) ro (Y9 (sO w::O c.nm::r)) k (cs'.map Cl.z) ro':=λc w r h b=>
  ⟨"ended",cs,ro,rest,λ_=>qim (m+2) I day w r h b,I,.same,self,.over (c:=c.z) (t h) b⟩
 cases hf with
 |work n=>
  rcases qa4 cs n with h|⟨c,hc,rfl⟩
  ·exact no n _ _ h
  ·by_cases b:over day c
   ·exact u c _ _ hc b
   ·have h:=λsz:Zt=>qii (sz:=sz) (T:=T) (d:=d) (fo:=fo) (jo:=jo) (ro:=ro) (m+1) I day hc b (E c hc) (qc2 (I.ne c hc).1 (p c hc).1 (by rw[<- (p c hc).2]; unfold over at b; lia)).2;refine⟨"good",upd cs { c with ds:=c.ds++[day],la:=day+T },ro,_,?_,I.put hc rfl rfl ⟨?g,by have:=E c hc; simp; lia⟩,.upd hc rfl rfl,g hc ?g ?g,by rw[qgf]; exact .work (c:=c.z) (t hc) b⟩
    ·intro sz;unfold FC;rw[qjj (c':={ c with ds:=c.ds++[day],la:=day+T }) hc I.nd rfl rfl];exact h sz
 |give n=>
  rcases qa4 cs n with h|⟨c,hc,rfl⟩
  ·exact no n _ _ h
  ·by_cases b:over day c
   ·exact u c _ _ hc b
   ·refine⟨"good",upd cs { c with gv:=Y day },ro,_,?_,I.cell hc rfl rfl rfl,.upd hc rfl rfl,g hc (Qqw _) ?g,by rw[qgf]; exact .give (c:=c.z) (t hc) b⟩;intro sz;unfold FC;rw[qjj (c':={ c with gv:=Y day }) hc I.nd rfl rfl];exact qin (m+2) I day hc b
 |sell n o C=>
  rcases qa4 cs n with h|⟨c,hc,rfl⟩
  ·exact no n _ _ h
  ·by_cases b:over day c
   ·exact u c _ _ hc b
   ·refine⟨"good",upd cs { c with o:=o },ro,_,?_,I.cell hc rfl rfl rfl,.upd hc rfl rfl,g hc (Qqw _) ?g,by rw[qgf]; exact .sell (c:=c.z) (t hc) b⟩;intro sz;unfold FC;rw[qjj (c':={ c with o:=o }) hc I.nd rfl rfl];exact qil (m+2) I day o hc b
 |part n s l o hs C=>
  rcases qa4 cs n with h|⟨c,hc,rfl⟩
  ·exact no n _ _ h
  ·by_cases b:over day c
   ·exact u c _ _ hc b
   ·obtain⟨w,cs',ro',a,h1,h2,N,K,H⟩:=qn6 (T:=T) (d:=d) (fo:=fo) (jo:=jo) m I day l o s hs hc hr (λx A e=>by have:=Rw.le x A; lia) (λhv=>qv7 (Rw.in2 c hc hv)) b;have v:=I.get hc;have j:=(I.at_ c hc).2;refine⟨w,cs',ro',a,λsz=>?_,h2,N,K,H⟩;have h1:=h1 sz;have hst:=qqn (sz:=sz) (T:=T) (d:=d) (fo:=fo) (jo:=jo) (bo:=qzf cs) (ro:=rowD ro) (m+2) c day j;rcases qam b with e|e
    ·rw[e]at hst;exact qzz 8 [18,27] 4 [Kq v,Kq v,Kr j,Kc hst,Kc h1]
    ·rw[e]at hst;exact qzz 8 [18,27] 4 [Kq v,Kq v,Kr j,Kc hst,Kc h1]
end
inductive Jn (fo jo:Z (D×D)) (a b f:J):String->Z (D×D)->Prop
 |nv1 (h:dget fo (.int a)=B):Jn fo jo a b f "novein" jo
 |nv2 {x} (h:dget fo (.int a)=Y x) (h2:dget fo (.int b)=B):Jn fo jo a b f "novein" jo
 |ord {x y} (h:dget fo (.int a)=Y x) (h2:dget fo (.int b)=Y y) (h3:a<=b):Jn fo jo a b f "order" jo
 |joi {x y z} (h:dget fo (.int a)=Y x) (h2:dget fo (.int b)=Y y) (h3:¬ a<=b) (h4:dget jo (.int a)=Y z):Jn fo jo a b f "joined" jo
 |good {x y} (h:dget fo (.int a)=Y x) (h2:dget fo (.int b)=Y y) (h3:¬ a<=b) (h4:dget jo (.int a)=B):Jn fo jo a b f "good" (dput jo (.int a) (.tup [.int b,.int f]))
def vst_z(day)(ps)(c):(vst day ps c).z=vst day ps c.z:=by
 unfold vst
 show(if hit day ps c then _ else c).z=if hit day ps c then _ else _
 split<;>rfl
def vsts_z(day)(ps)(cs:Z Cl):(cs.map ?qh).map Cl.z=(cs.map Cl.z).map ?qh/\(cs.filter (hit day ps)).map (·.nm)=((cs.map Cl.z).filter (hit day ps)).map (·.nm):=by
 constructor
 ·rw[Qqp,Qqp];exact Qzr λc _=>vst_z day ps c
 ·rw[Qj4,Qqp]
  rfl
section
variable {sz:Zt}{T d:J}{fo jo:Z (D×D)}{ro:Z J}{rest:Y1}{cs:Z Cl}
def qbk(m)(st)(day)(b:1<=day)(a:day<=400):callD fns (m+2) 40 [O day] st=Y (.non,st):=
 qzz 0 [] 2 [Kb (Z6 b),Kb (Z6 a)]
def qjc(m){S:Y1}(b:1<=day)(a:day<=400)(hd:d<day)(hs:callD fns (m+6) 8 [sz.s,f] ?z=Y (.bl L,FC sz T d fo jo cs ro rest))(ha:callD fns (m+6) 43 [Y3 0,f] (FC sz T day fo jo cs ro rest)=Y (v,S)):
  callD fns (m+7) 42 [Y3 0,O day,f] ?z=Y (v,S):=
 qzz 8 [40,8,43] 7 [Kc (qbk (m+4) ?z day b a),Kc hs,Kb (Z7 (show ¬ day<=d by lia)),Kc ha]
def qga(m){S:Y1}(hf:CF' f)(h:callD fns (m+4) 26 [Y3 3,O d,f] ?z=Y (v,S)):callD fns (m+5) 43 [Y3 0,f] ?z=Y (v,S):=by
 cases hf with
 |work n=>exact qzz 8 [26] 5 [Kc h]
 |give n=>exact qzz 8 [26] 5 [Kc h]
 |sell n o _=>exact qzz 8 [26] 5 [Kc h]
 |part n s l o hs _=>exact qzz 8 [26] 5 [Kc h]
def qir(m)(a b f)(hj:jo.length<1000):∃w c,(∀sz:Zt,callD fns (m+2) 43 [Y3 0,Y9 [sO "join",O a,O b,O f]] ?z=Y (sO w,FC sz T d fo c cs ro rest))/\Jn fo jo a b f w c/\c.length<=jo.length+1/\(c=jo\/(b<a/\(dget fo (O b)).isSome/\c=dput jo (O a) (Y9 [O b,O f]))):=by
 have hl:decide (jo.length<lim)=true:=Z6 (by unfold lim; lia);have dl:∀v,(dput jo (O a) v).length<=jo.length+1:=λv=>by unfold dput; split<;>simp
 cases h1:dget fo (O a) with
 |none=>exact⟨"novein",jo,λsz=>qzz 8 [] 2 [Kq h1],.nv1 h1,?d,.inl rfl⟩
 |some x=>
  cases h2:dget fo (O b) with
  |none=>exact⟨"novein",jo,λsz=>qzz 8 [] 2 [Kq h1,Kq h2],.nv2 h1 h2,?d,.inl rfl⟩
  |some y=>
   by_cases e:a<=b
   ·exact⟨"order",jo,λsz=>qzz 8 [] 2 [Kq h1,Kq h2,Kb (Z6 e)],.ord h1 h2 e,?d,.inl rfl⟩
   ·cases g:dget jo (O a) with
    |some z=>exact⟨"joined",jo,λsz=>qzz 8 [] 2 [Kq h1,Kq h2,Kb (Z7 e),Kq g],.joi h1 h2 e g,?d,.inl rfl⟩
    |none=>exact⟨"good",dput jo (O a) (Y9 [O b,O f]),λsz=>qzz 8 [] 2 [Kq h1,Kq h2,Kb (Z7 e),Kq g,Kb hl],.good h1 h2 e g,dl _,.inr ⟨?d,rfl,rfl⟩⟩
def qqb(h:∀p∈kvs,eqT p.1 (O n)=Y6):dput kvs (O n) v=kvs++[(O n,v)]:=by
 unfold dput;have:kvs.any (λp=>eqT p.1 (O n))=false:=by
  rw[Qkz];intro p a;rw[h p a];simp
 rw[this];simp
def qge(h:∀v∈vs,v.1≠n)(s)(ps):dput ?qg (O n) (Y9 [s,Y9 ?y])=voD (vs++[(n,s,ps)]):=by
 rw[qqb λp a=>?_]
 ·simp[voD]
 ·obtain⟨v,hv,rfl⟩:=Qqj.mp a;show(v.1==n)=Y6;simpa using h v hv
def qip(m)(I:Inv rest cs)(s)(ps)(vs)(hv:∀v∈vs,v.1≠d)(a:vs.length<1000)(hl:ps.length<1000)(hr:ro.length+cs.length<1000):
  (∀sz:Zt,callD fns (m+6) 43 [Y3 0,Y9 [sO "vein",s,Y9 ?y]] (FC sz T d ?qg jo cs ro rest)=Y (sO "good",FC sz T d (voD (vs++[(d,s,ps)])) jo (cs.map (vst d ps)) (ro++(cs.filter (hit d ps)).map (·.nm)) (cs.foldl (rvF Cl.cell d ps) rest)))/\Inv (cs.foldl (rvF Cl.cell d ps) rest) (cs.map (vst d ps)):=by
 obtain⟨h1,h2⟩:=qmj (T:=T) (d:=d) (fo:=voD (vs++[(d,s,ps)])) (jo:=jo) m I d ps (by unfold lim; lia) hr;refine⟨λsz=>?_,h2⟩;have h1:=h1 sz;have hb:decide ((?qg).length<lim)=true:=Z6 (by unfold voD lim; rw[Qqz]; lia);rw[<- qge hv]at h1 ⊢;exact qzz 8 [25] 6 [Kb hb,Kc h1]
end
section
variable {sz:Zt}{T d:J}{jo:Z (D×D)}{ro:Z J}{rest:Y1}{cs:Z Cl}
abbrev FSf(sz:Zt)(T d:J)(fo jo bo:Z (D×D))(ro:Z D)(rest:Y1):Y1:=
 .obj 673 [("extent",sz.s),("year",.int T),("day",.int d),("found",.loc 1),("joints",.loc 2),("staked",.loc 3),("dug",.loc 6),("debts",.loc 7)]::.dic Y6 fo::.dic L jo::.obj 371 [("year",.int T),("book",.loc 4),("row",.loc 5)]::.dic L bo::.lst L ro::.dic L sz.dg::.lst L sz.es::rest
def thr1(T d):thr T [d]=d+T:=by
 unfold thr;show((chS T [] d).getLast?.getD 0)+T=_;unfold chS;rw[dif_pos rfl]
 rfl
theorem qys:∀{vs}{v},v∈vs->(vs.map (·.1)).Nodup->dget ?qg (O v.1)=Y (Y9 [v.2.1,Y9 ?qr])
 |a::r,v,h,hn=>by
  unfold dget voD;rw[Qqd,Qq2];show Option.map _ (match (a.1==v.1) with|true=>_|false=>_)=_;rw[Qqd,Qzj]at hn;rcases Qqc.mp h with rfl|h'
  ·simp
  ·have e:(a.1==v.1)=false:=by
    rw[beq_eq_false_iff_ne];exact λe=>hn.1 (Qqj.mpr ⟨v,h',e.symm⟩)
   rw[e];exact qys h' hn.2
def qgw(m)(I:Inv rest cs)(o)(g)(vs)(t:(vs.map (·.1)).Nodup)(F:vs.length<1000)(i:∀v∈vs,v.2.2.length<=16)(hr:ro.length+cs.length<900)(hn:∀x∈cs,x.nm≠d):
  ∃cs' ro' b,(∀sz:Zt,callD fns (m+6) 43 [Y3 0,.tup ?D] (FC sz T d ?qg jo cs ro rest)=Y (sO "good",FC sz T d ?qg jo cs' ro' b))/\Inv b cs'/\Op d cs ro cs' ro'/\(∀c∈cs',c∈cs\/c.ds.length=1)/\cs'.map Cl.z=cs.map Cl.z++[vst d (vs.flatMap (·.2.2)) ⟨d,0,o,g,[d],d+T,B,B⟩]/\ro'=ro++(if hit d (vs.flatMap (·.2.2)) ⟨d,0,o,g,[d],d+T,B,B⟩ then [d] else []):=by
 have keys:keysOf ?qg=vs.map λv=>D.int v.1:=by unfold keysOf voD; rw[Qqp]; rfl
 have n:∀k,((vs.take k).flatMap (·.2.2)).length<=16*k:=λk=>by
  rw[List.length_flatMap];have:∀l:Z (J×D×Z (J×J)),(∀v∈l,v.2.2.length<=16)->(l.map λv=>v.2.2.length).sum<=16*l.length:=λl=>by
   induction l with
   |nil=>intro _; simp
   |cons a r E=>
    intro h;have h1:=h a (Qzk ..);have h2:=E λv hv=>h v (Qq6 _ hv);simp only[Qqd,List.sum_cons,Qqm]
    lia
  have h:=this (vs.take k) λv hv=>i v (List.mem_of_mem_take hv);have:(vs.take k).length<=k:=by rw[Qzy]; lia
  lia
 obtain⟨ps,e⟩:∃ps,vs.flatMap (·.2.2)=ps:=⟨_,rfl⟩
 have u:ps.length<lim:=by
  have:=n vs.length;rw[Qzb,e]at this;unfold lim
  lia
 have all:∀sz:Zt,callD fns (m+6) 43 [Y3 0,.tup ?D] (FC sz T d ?qg jo cs ro rest)=Y (sO "good",FC sz T d ?qg jo (cs++[vst d ps ⟨d,(rest++[Ya.lst L ?y]).length,o,g,[d],thr T [d],B,B⟩]) (ro++if hit d ps ⟨d,(rest++[Ya.lst L ?y]).length,o,g,[d],thr T [d],B,B⟩ then [d] else []) (rest++[Y8 L ?y]++[Y8 L [O d],(vst d ps ⟨d,(rest++[Ya.lst L ?y]).length,o,g,[d],thr T [d],B,B⟩).cell]))/\Inv (rest++[Y8 L ?y]++[Y8 L [O d],(vst d ps ⟨d,(rest++[Ya.lst L ?y]).length,o,g,[d],thr T [d],B,B⟩).cell]) (cs++[vst d ps ⟨d,(rest++[Ya.lst L ?y]).length,o,g,[d],thr T [d],B,B⟩]):=λsz=>by
  obtain⟨τ',st',h1,h2⟩:=qag (f:=λτ st x=>(setT ?qk x τ).bind λτ'=>(RL (callD fns (m+4))).ex τ' st [.expr (.meth (.var 2) .extend [.idx (.didx (.attr 673 ?K "found") ?qk) (.lit (O 1))])]) (s:=.tup (keysOf ?qg)) (ds:=vs.map λv=>D.int v.1) (st:=FSf sz T d ?qg jo (qzf cs) (rowD ro) (rest++?qv))
   (λk τ' st'=>∃x,τ'=[Y (Y3 0),Y (.tup ?D),Y (Y3 (rest.length+8)),x]/\st'=FSf sz T d ?qg jo (qzf cs) (rowD ro) (rest++[Y8 L (((vs.take k).flatMap (·.2.2)).map cD)]))
   ⟨B,rfl,?g⟩ (by simp[Src.size,keys]) (λk τ' st' _=>by rw[keys]; rfl) (λk τ' st' x A h=>by
    obtain⟨y,rfl,rfl⟩:=h;rw[Qqv]at A;obtain⟨v,hv,rfl⟩:=Qqy.mp A;have hk:=(Qqk.mp hv).1;have w:=(Qqk.mp hv).2;have tk:vs.take (k+1)=vs.take k++[v]:=by rw[Qq3 hk,w]
    have G:=qys (Qqn hv) t;have C:=gl (st:=rest) (c:=Y8 L (((vs.take k).flatMap (·.2.2)).map cD))
    have hb:decide ((((vs.take k).flatMap (·.2.2)).map cD).length+(?qr).length<=lim)=true:=Z6 (by
     have:=n k;have:=i v (Qqn hv);rw[Qqz,Qqz];unfold lim
     lia)
    refine⟨[Y (Y3 0),Y (.tup ?D),Y (Y3 (rest.length+8)),Y (O v.1)],FSf sz T d ?qg jo (qzf cs) (rowD ro) ((rest++[Ya.lst L (((vs.take k).flatMap (·.2.2)).map cD)]).set rest.length (Y8 L (((vs.take k).flatMap (·.2.2)).map cD++v.2.2.map cD))),qzp 8 [] 4 [Kr C,Kq G,Kr C,Kb hb],Y (O v.1),rfl,?_⟩;rw[sl,tk]
    simp)
  obtain⟨x,rfl,rfl⟩:=h2;rw[Qqz,Qzb]at h1;rw[e]at h1;have j:stepEx (RL (callD fns (m+4))) [Y (Y3 0),Y (.tup ?D),Y (Y3 (rest.length+8)),B] (FC sz T d ?qg jo cs ro (rest++?qv)) (.ford ?qk (.attr 673 ?K "found") [.expr (.meth (.var 2) .extend [.idx (.didx (.attr 673 ?K "found") ?qk) (.lit (O 1))])])=Y (.nx [Y (Y3 0),Y (.tup ?D),Y (Y3 (rest.length+8)),x],FC sz T d ?qg jo cs ro (rest++[Y8 L ?y])):=by
   have K:(RL (callD fns (m+4))).ev [Y (Y3 0),Y (.tup ?D),Y (Y3 (rest.length+8)),B] (FC sz T d ?qg jo cs ro (rest++?qv)) (.attr 673 ?K "found")=Y (Y3 1,FC sz T d ?qg jo cs ro (rest++?qv)):=qzr 8 [] 4 [];show((RL (callD fns (m+4))).ev _ _ _).bind _=_;rw[K];show((loop (.tup (keysOf ?qg)) _ ((?qg).length+1) 0 _ (FSf sz T d ?qg jo (qzf cs) (rowD ro) (rest++?qv))).bind _)=_;have:(?qg).length+1=(Src.tup (keysOf ?qg)).size (FSf sz T d ?qg jo (qzf cs) (rowD ro) (rest++?qv))+1:=by simp[Src.size,keysOf]
   rw[this,h1]
   rfl
  have ⟨z,H⟩:=qg5 (sz:=sz) (T:=T) (d:=d) (fo:=voD vs) (jo:=jo) (ro:=ro) m (I.more [Y8 L ?y]) d o g (q:=Y3 (rest.length+8)) (λbo r=>by
   show listAt _ _=_;unfold listAt;have:(FS sz T d ?qg jo bo (rowD ro) (rest++[Y8 L ?y]++r))[rest.length+8]?=(rest++[Ya.lst L ?y]++r)[rest.length]?:=rfl;rw[this]
   simp) u hr hn rfl
  have p:∀cs' ro' b,callD fns (m+4) 23 [Y3 3,O d,O o,rD g,Y3 (rest.length+8)] (FC sz T d ?qg jo cs ro (rest++[Y8 L ?y]))=Y (.non,FC sz T d ?qg jo cs' ro' b)->callD fns (m+6) 43 [Y3 0,.tup ?D] (FC sz T d ?qg jo cs ro rest)=Y (sO "good",FC sz T d ?qg jo cs' ro' b):=λcs' ro' b z=>
   qzz 8 [23] 6 [Ks j,Kc z]
  exact⟨p _ _ _ z,H⟩
 refine⟨_,_,_,λsz=>(all sz).1,(all ⟨.non,[],[]⟩).2,.stake ps rfl rfl,?_,?_,?_⟩
 ·intro c hc;rcases Qqi.mp hc with hc|hc
  ·exact .inl hc
  ·cases Qqa.mp hc;rw[(qzl _ _ _).2.2];exact .inr rfl
 ·rw[Qqg,List.map_singleton,vst_z,e,thr1]
  rfl
 ·rw[e,thr1]
  rfl
end
abbrev stB(cs:Z Cl)(day:J)(n:J):Bool:=match cs.find? λc=>c.nm==n with
 |some c=>decide (stW c day = "stands")
 |none=>Y6
def stB_of(hn:(cs.map (·.nm)).Nodup)(hc:c∈cs)(day):stB cs day c.nm=decide (stW c day = "stands"):=by
 have:cs.find? (λx=>x.nm==c.nm)=Y c:=by
  induction cs with
  |nil=>cases hc
  |cons a r d=>
   rw[Qqd,Qzj]at hn;rw[Qq2];rcases Qqc.mp hc with rfl|b
   ·simp
   ·have e:(a.nm==c.nm)=false:=by
     rw[beq_eq_false_iff_ne];exact λe=>hn.1 (Qqj.mpr ⟨c,b,e.symm⟩)
    rw[e];exact d hn.2 b
 unfold stB;rw[this]
structure Pl where
 a:Y0
 f:Y0
 j:Y0
 s:Y0
 b:Y0
 r:Y0
 T:D
 g:D
 e:D
 bo:Z (D×D)
noncomputable abbrev Pl.fc(p:Pl)(sz:D)(d:J):Ya:=.obj 673 [("extent",sz),("year",p.T),("day",.int d),("found",.loc p.f),("joints",.loc p.j),("staked",.loc p.s),("dug",p.g),("debts",p.e)]
noncomputable abbrev Pl.sc(p:Pl):Ya:=.obj 371 [("year",p.T),("book",.loc p.b),("row",.loc p.r)]
structure FA (p:Pl) (sz:D) (d:J) (fo jo:Z (D×D)) (cs:Z Cl) (ro:Z J) (S:Y1):Prop where
 hf:S[p.a]?=Y (p.fc sz d)
 hv:S[p.f]?=Y (.dic L fo)
 hj:S[p.j]?=Y (.dic L jo)
 hs:S[p.s]?=Y p.sc
 hb:S[p.b]?=Y (.dic L p.bo)
 hr:S[p.r]?=Y (.lst L (rowD ro))
 hc:∀c∈cs,∃q y,dget p.bo (.int c.nm)=Y (.loc q)/\S[q]?=Y (c.cel (.loc y))/\S[y]?=Y c.dl
 hk:keysOf p.bo=cs.map λc=>.int c.nm
structure FV (p:Pl) (sz:D) (d:J) (fo jo:Z (D×D)) (S:Y1):Prop where
 hf:S[p.a]?=Y (p.fc sz d)
 hv:S[p.f]?=Y (.dic L fo)
 hj:S[p.j]?=Y (.dic L jo)
def FA.v{S:Y1}(A:FA p sz d fo jo cs ro S):FV p sz d fo jo S:=⟨A.hf,A.hv,A.hj⟩
def FV.app{S:Y1}(A:FV p sz d fo jo S)(X):FV p sz d fo jo (S++X):=⟨ga X A.hf,ga X A.hv,ga X A.hj⟩
section
variable {p:Pl}{sz:D}{d:J}{fo jo:Z (D×D)}{ro:Z J}{S:Y1}{cs:Z Cl}
def qg4(m)(A:FA p sz d fo jo cs ro S)(nd:(cs.map (·.nm)).Nodup)(g:∀n∈ro,∃c∈cs,c.nm=n)(hl:ro.length<1000):callD fns (m+3) 53 [Y3 p.a] S=Y (Y3 S.length,S++[Y8 L (rowD (ro.filter (stB cs d)))]):=by
 have b:listAt S p.r=Y (rowD ro):=by unfold listAt; rw[A.hr]
 have j:(?I).ev [Y (Y3 p.s),Y (O d)] S (.attr 371 ?K "row")=Y (Y3 p.r,S):=qzr 0 [] 1 [Kr A.hs];have h:=qq7 (it:=.attr 371 ?K "row") (elt:=.var 0) (c:=.cmp .Eq (.mcall 289 18 "state" (.didx (.attr 371 (.var 2) "book") ?K) [.var 1]) (.lit (sO "stands"))) (sr:=[B,Y 1,Y 0]) (p:=λx=>match x with|O n=>stB cs d n|_=>Y6) (s:=.lst (Y3 p.r)) id
  (by show((?I).ev _ _ _).bind _=_; rw[j]; show(listAt S p.r).map _=_; rw[b]; rfl) (qz9 b) (qzh b) rfl ?l
  (λi x k=>by
   rw[Qqv]at k;obtain⟨n,hn,rfl⟩:=Qqy.mp k;obtain⟨c,hc,rfl⟩:=g n (Qqn hn);obtain⟨q,y,f,a,_⟩:=A.hc c hc;have hst:=qi9 m c d a;show _=Y (stB cs d c.nm,_);rw[stB_of nd hc];rcases qxz c d with⟨e,_⟩|⟨e,_⟩|⟨e,_⟩|⟨e,_⟩<;>rw[e]at hst ⊢
   ·exact qzm 0 [18] 1 [Kr A.hs,Kr A.hb,Kq f,Kr a,Kc hst]
   ·exact qzm 0 [18] 1 [Kr A.hs,Kr A.hb,Kq f,Kr a,Kc hst]
   ·exact qzm 0 [18] 1 [Kr A.hs,Kr A.hb,Kq f,Kr a,Kc hst]
   ·exact qzm 0 [18] 1 [Kr A.hs,Kr A.hb,Kq f,Kr a,Kc hst])
  (λi x _ _=>qqx _ _ _ _ _ rfl)
 have e:((rowD ro).filter λx=>match x with|O n=>stB cs d n|_=>Y6).map id=rowD (ro.filter (stB cs d)):=by
  rw[Qxp];unfold rowD;rw[Qj4]
  rfl
 rw[e]at h;exact qzz 0 [] 3 [Kr A.hf,Kr A.hs,Kr A.hf,Kc h]
noncomputable abbrev clT(c:Cl):D:=.tup [.int c.o,rD c.g,.int c.la,oD c.v,oD c.gv]
def qih(m)(A:FA p sz d fo jo cs ro S)(hc:c∈cs):callD fns (m+2) 52 [Y3 p.a,O c.nm] S=Y (clT c,S):=by
 obtain⟨q,y,a,h,_⟩:=A.hc c hc;exact qzz 0 [] 2 [Kr A.hf,Kr A.hs,Kr A.hs,Kr A.hb,Kq a,Kr A.hs,Kr A.hb,Kq a,Kr h,Kr h,Kr h,Kr h,Kr h]
end
def qpd{cs a:Z Cl}(e:a.map (·.nm)=cs.map (·.nm))(h:∃c∈cs,c.nm=n):∃c∈a,c.nm=n:=by
 have:=Qqj.mpr h;rw[<- e]at this;exact Qqj.mp this
def qfj{p:Cl}(h:∃c∈cs,c.nm=n):∃c∈cs++[p],c.nm=n:=by
 obtain⟨c,hc,e⟩:=h;exact⟨c,Qzq _ hc,e⟩
def qvh{Q:Cl->Prop}(h:∀c∈cs,Q c)(a:Q p):∀c∈cs++[p],Q c:=λc hc=>by
 rcases Qqi.mp hc with hc|hc
 ·exact h c hc
 ·cases Qqa.mp hc; exact a
def qq8{Q:Cl->Prop}(h:∀c∈cs,Q c)(b:Q c'):∀c∈upd cs c',Q c:=λc hc=>by
 obtain⟨y,a,rfl⟩:=Qqj.mp hc
 by_cases z:y.nm=c'.nm
 ·rw[Z9 z]; exact b
 ·rw[Z8 z]; exact h y a
def RowI.later(R:RowI a cs ro)(h:a<=day):RowI day cs ro:=
 ⟨R.in1,R.in2,λc hc=>by have:=R.le c hc; lia⟩
def qd2(hd:j<day)(R:RowI j cs ro)(h:Op day cs ro d ro'):RowI day d ro':=by
 have a:∀c∈d,c.nm<=day:=λc hc=>by
  rcases (qaa h).1 c hc with⟨x,b,e⟩|e
  ·have:=R.le x b; lia
  ·lia
 have g:∀c:Cl,c∈cs->∀f:Cl,f.nm=c.nm->f.v=c.v->f.v≠B->f.nm∈ro:=λc hc f hn hv z=>by
  rw[hn]; exact R.in2 c hc (hv▸z)
 cases h with
 |same=>exact⟨R.in1,R.in2,a⟩
 |upd hc hn hv=>exact⟨λn hr=>qpd qqh (R.in1 n hr),qq8 (Q:=λx=>x.v≠B->x.nm∈ro) R.in2 (g _ hc _ hn hv),a⟩
 |vein ps=>
  refine⟨λn hr=>?_,λc hc=>?_,a⟩
  ·have:∃c∈cs,c.nm=n:=by
    rcases Qqi.mp hr with hr|hr
    ·exact R.in1 n hr
    ·obtain⟨c,hc,e⟩:=Qqj.mp hr;exact⟨c,(Qqu.mp hc).1,e⟩
   obtain⟨c,hc,e⟩:=this;exact⟨_,Qqj.mpr ⟨c,hc,rfl⟩,(qzl day ps c).1.trans e⟩
  ·obtain⟨x,b,rfl⟩:=Qqj.mp hc;rw[(qzl day ps x).1];unfold vst
   cases h:hit day ps x with
   |true=>exact λ_=>Qql _ (Qqj.mpr ⟨x,Qqu.mpr ⟨b,h⟩,rfl⟩)
   |false=>exact λz=>Qzq _ (R.in2 x b z)
 |@stake c ps hn hv=>
  refine⟨λn hr=>?_,qvh (Q:=λx=>x.v≠B->x.nm∈_) (λx b z=>Qzq _ (R.in2 x b z)) ?_,a⟩
  ·rcases Qqi.mp hr with hr|hr
   ·exact qfj (R.in1 n hr)
   ·refine⟨_,Qql _ (.head _),(qzl day ps c).1.trans ?_⟩
    cases h:hit day ps c with
    |true=>rw[h]at hr; exact hn.trans (Qqa.mp hr).symm
    |false=>rw[h]at hr; exact nomatch hr
  ·rw[(qzl day ps c).1];unfold vst
   cases h:hit day ps c with
   |true=>exact λ_=>Qql _ (by rw[hn]; exact .head _)
   |false=>exact λz=>absurd hv z
 |part0 hc hn hv pn i h=>
  exact⟨λn hr=>qfj (qpd qqh (R.in1 n hr)),qvh (Q:=λx=>x.v≠B->x.nm∈ro) (qq8 R.in2 (g _ hc _ hn hv)) (λz=>absurd (i.trans h) z),a⟩
 |@part1 c f p A Bq hc hn hv pn i h hr=>
  have up:∀{n},n∈ro->n∈A++c.nm::day::Bq:=λ{n} z=>by
   rw[hr]at z;rcases Qqi.mp z with z|z
   ·exact Qzq _ z
   ·rcases Qqc.mp z with z|z
    ·exact Qql _ (by rw[z]; exact .head _)
    ·exact Qql _ (.tail _ (.tail _ z))
  refine⟨λn z=>?_,qvh (Q:=λx=>x.v≠B->x.nm∈_) (qq8 (λx b z=>up (R.in2 x b z)) λz=>up (g _ hc _ hn hv z)) (λ_=>by rw[pn]; simp),a⟩
  by_cases e:n=day
  ·exact⟨p,Qql _ (.head _),pn.trans e.symm⟩
  ·refine qfj (qpd qqh (R.in1 n ?_));rw[hr];rcases Qqi.mp z with z|z
   ·exact Qzq _ z
   ·rcases Qqc.mp z with z|z
    ·exact Qql _ (by rw[z]; exact .head _)
    ·rcases Qqc.mp z with z|z
     ·exact absurd z e
     ·exact Qql _ (.tail _ z)
theorem qwz{ds:Z D}{S:Y1}(g:D->Y2 D)(P:Sl->Prop)(a:∀i,it.at S i=Y ds[i]?)(hl:ds.length<lim)(hf:∀τ d,d∈ds->P τ->∃τ',f τ S d=Y (g d,τ',S)/\P τ'):
  ∀(k i:Y0) (τ:Sl),i+k=ds.length->P τ->loopC it f (k+1) i ((ds.take i).filterMap g) τ S=Y (ds.filterMap g,S)
 |0,i,τ,h,p=>by
  have e:i=ds.length:=by lia
  subst e;rw[loopC,a,Qzh (Qqw _),Qzb];simp only[oBs];rw[Z8 (by have:=Qxg g ds; lia)]
 |k+1,i,τ,h,p=>by
  have hi:i<ds.length:=by lia
  obtain⟨τ',l,j⟩:=hf τ ds[i] (Qxn hi) p;rw[loopC,a,Qqb hi];simp only[oBs];rw[Z8 (by have:=Qxg g (ds.take i); rw[Qzy]at this; lia),l];have b:=qwz g P a hl hf k (i+1) τ' ?d j;rw[Qq3 hi,Qju]at b;simp only[oBs]
  cases c:g ds[i] with
  |none=>simpa[c] using b
  |some x=>simpa[c] using b
def qqq{ds:Z D}(g:D->Y2 D)(P:Sl->Prop)(hs:src (RL c) τ st it=Y (s,st))(a:∀i,s.at st i=Y ds[i]?)(b:s.size st=ds.length)(hl:ds.length<lim)(e:P (inner sr τ))(hf:∀τ d,d∈ds->P τ->∃τ',turnC (RL c) t test elt τ st d=Y (g d,τ',st)/\P τ'):
  stepEv (RL c) τ st (.comp t it test elt sr)=Y (Y3 st.length,st++[Y8 L (ds.filterMap g)]):=by
 show((src (RL c) τ st it).bind λp=>(loopC p.1 (turnC (RL c) t test elt) (p.1.size p.2+1) 0 [] (inner sr τ) p.2).map λq=>alloc q.2 (Y8 L q.1))=_;rw[hs];simp only[oBs,b];have:=qwz g P a hl hf ds.length 0 (inner sr τ) ?d e;rw[Qkr,List.filterMap_nil]at this;rw[this]
 rfl
def qjf(h:setT t d τ=Y a)(b:(RL c).ev a st elt=Y (x,st)):turnC (RL c) t B elt τ st d=Y (Y x,a,st):=by
 unfold turnC;rw[h];simp only[oBs,b,oMs]
def turn_if(h:setT t d τ=Y a)(e:(RL c).tst a st q=Y (b,st))(f:b=L->(RL c).ev a st elt=Y (x,st)):turnC (RL c) t (Y q) elt τ st d=Y (if b then Y x else B,a,st):=by
 unfold turnC;rw[h];simp only[oBs,e]
 cases b with
 |false=>rfl
 |true=>rw[Z9 rfl,f rfl]; rfl
abbrev szD(W H P:J):D:=.tup [.int W,.int H,.int P]
abbrev bD(W H P:J):Z (D×D):=[(sO "day",.tup [.int 1,.int 400]),(sO "folk",.tup [.int 1,.int 40]),(sO "x",.tup [.int 0,.int (W - 1)]),(sO "y",.tup [.int 0,.int (H - 1)]),(sO "floor",.tup [.int 0,.int P]),(sO "below",.tup [.int 1,.int P]),(sO "side",.tup [.int 0,.int 1]),(sO "line",.tup [.int 1,.int 23]),(sO "step",.tup [.int 0,.int 4]),(sO "coins",.tup [.int 1,.int 1000000])]
def Fit(W H P:J)(p:J×String):Prop:=∃lo hi,dget (bD W H P) (sO p.2)=Y (.tup [.int lo,.int hi])/\lo<=p.1/\p.1<=hi
def qpy(m)(st)(d:a<=v)(c:v<=b):callD fns (m+1) 1 [O v,Y9 [O a,O b]] st=Y (.bl L,st):=
 qzz 0 [] 1 [Kb (Z6 d),Kb (Z6 c)]
def qf7(m)(st)(W H P):callD fns (m+1) 0 [szD W H P] st=Y (Y3 st.length,st++?qm):=
 qve 0 [] 1 (Y3 st.length,(st++[Ya.dic L []]).set st.length (.dic L (bD W H P))) (λq=>_/\q) [.r (.dic L [])] ⟨gl (st:=st) (c:=.dic L []),by rw[sl]⟩
def qx6(m)(st)(d:Z (J×String))(hl:d.length<1000)(hf:∀p∈d,Fit W H P p):callD fns (m+2) 2 [szD W H P,.tup (d.map λp=>sO p.2),.tup (d.map λp=>O p.1)] st=Y (.bl L,st++?qm):=by
 have h1:(!((((d.map λp=>D.int p.1).length:Y0):J)==((d.map λp=>sO p.2).length:Y0)))=false:=by simp
 have j:∀i,pairAt (d.map λp=>D.int p.1) (d.map λp=>sO p.2) i=(d.map λp=>D.tup [O p.1,sO p.2])[i]?:=λi=>by
  unfold pairAt;rw[Qqv,Qqv,Qqv];cases d[i]?<;>rfl
 have h:=qqq (t:=.tup [0,1]) (it:=.zip (.var 2) ?qn) (sr:=[B,B,Y 3]) (λ_=>Y (.bl L)) (λτ=>∃a b,τ=[a,b,Y ?R])
  (by
   have s:(?I).ev [Y ?w,Y (.tup (d.map λp=>sO p.2)),Y (.tup (d.map λp=>O p.1)),Y ?R] (st++?qm) (.var 2)=Y (.tup (d.map λp=>O p.1),st++?qm):=qqx _ _ _ _ _ rfl;have u:(?I).ev [Y ?w,Y (.tup (d.map λp=>sO p.2)),Y (.tup (d.map λp=>O p.1)),Y ?R] (st++?qm) ?qn=Y (.tup (d.map λp=>sO p.2),st++?qm):=qqx _ _ _ _ _ rfl;show((?I).ev _ _ (.var 2)).bind _=_;rw[s];show((?I).ev _ _ ?qn).bind _=_;rw[u]
   rfl) (λi=>by rw[<- j]; rfl) (by simp[Src.size,rowAt]) ?l ⟨B,B,rfl⟩ (λτ x l f=>by
   obtain⟨a,b,rfl⟩:=f;obtain⟨p,f,rfl⟩:=Qqj.mp l;obtain⟨lo,hi,n,o,g⟩:=hf p f;refine⟨[Y (O p.1),Y (sO p.2),Y ?R],?_,Y (O p.1),Y (sO p.2),rfl⟩;have:=qzr (fns:=fns) (k:=m) (τ:=[Y (O p.1),Y (sO p.2),Y ?R]) (st:=st++?qm) (e:=.call 1 [.var 0,.didx (.var 2) ?qn]) (r:=(.bl L,st++?qm)) 0 [1] 1 [Kr (gl (st:=st) (c:=.dic L (bD W H P))),Kq n,Kc (qpy m (st++?qm) o g)]
   exact qjf rfl this)
 have q:(d.map λp=>D.tup [O p.1,sO p.2]).filterMap (λ_=>Y (D.bl L))=(d.map λ_=>L).map .bl:=by
  rw[Qxx,Qqp];exact Qjw▸rfl
 rw[q]at h;have g:bfun (st++?qm) .all [.lst ((d.map λ_=>L).map .bl)]=Y (.bl L,st++?qm):=by
  show(asBools _).map _=_;rw[asB];exact congrArg (λb=>Y (D.bl b,_)) ?g
 exact qzz 0 [0] 2 [Kb h1,Kc (qf7 m st W H P),Kc h,Kl (qzv (st:=st++?qm) (nlB (d.map λ_=>L))),Kc g]
def tkl{st:Y1}:(st++[c]).take st.length=st:=by simp
def gB(st:Y1)(c):noLoc (.bl L)=L/\(st++[c]).take st.length=st:=⟨rfl,tkl⟩
section
def qcz(b:1<=n)(a:n<=400):Fit W H P (n,"day"):=⟨1,400,by kernel_rfl,b,a⟩
def qfq(b:1<=n)(a:n<=40):Fit W H P (n,"folk"):=⟨1,40,by kernel_rfl,b,a⟩
def f_x(a:0<=n)(b:n<W):Fit W H P (n,"x"):=⟨0,W - 1,by kernel_rfl,a,?r⟩
def f_y(a:0<=n)(b:n<H):Fit W H P (n,"y"):=⟨0,H - 1,by kernel_rfl,a,?r⟩
def qpb(b:1<=n)(a:n<=P):Fit W H P (n,"below"):=⟨1,P,by kernel_rfl,b,a⟩
def f_side(b:0<=n)(a:n<=1):Fit W H P (n,"side"):=⟨0,1,by kernel_rfl,b,a⟩
def f_line(b:1<=n)(a:n<=23):Fit W H P (n,"line"):=⟨1,23,by kernel_rfl,b,a⟩
def f_step(b:0<=n)(a:n<=4):Fit W H P (n,"step"):=⟨0,4,by kernel_rfl,b,a⟩
def s_work(m)(st)(b:1<=n)(a:n<=400):callD fns (m+3) 8 [szD W H P,Y9 [sO "work",O n]] st=Y (.bl L,st):=
 qzz 0 [2] 3 [Kc (qx6 m st (W:=W) (H:=H) (P:=P) [(n,"day")] ?g (by simp only[Qqa,forall_eq]; exact qcz b a)),Kg ?qp]
def s_give(m)(st)(b:1<=n)(a:n<=400):callD fns (m+3) 8 [szD W H P,Y9 [sO "give",O n]] st=Y (.bl L,st):=
 qzz 0 [2] 3 [Kc (qx6 m st (W:=W) (H:=H) (P:=P) [(n,"day")] ?g (by simp only[Qqa,forall_eq]; exact qcz b a)),Kg ?qp]
def s_sell(m)(st)(d:1<=n)(c:n<=400)(b:1<=o)(a:o<=40):callD fns (m+3) 8 [szD W H P,Y9 [sO "sell",O n,O o]] st=Y (.bl L,st):=
 qzz 0 [2] 3 [Kc (qx6 m st (W:=W) (H:=H) (P:=P) [(n,"day"),(o,"folk")] ?g (by simp only[Qqc,Qzm,or_false,forall_eq_or_imp,forall_eq]; exact⟨qcz d c,qfq b a⟩)),Kg ?qp]
def s_part(m)(st)(h:1<=n)(g:n<=400)(f:0<=s)(e:s<=1)(d:1<=l)(c:l<=23)(b:1<=o)(a:o<=40):callD fns (m+3) 8 [szD W H P,Y9 [sO "part",O n,O s,O l,O o]] st=Y (.bl L,st):=
 qzz 0 [2] 3 [Kc (qx6 m st (W:=W) (H:=H) (P:=P) [(n,"day"),(s,"side"),(l,"line"),(o,"folk")] ?g (by simp only[Qqc,Qzm,or_false,forall_eq_or_imp,forall_eq]; exact⟨qcz h g,f_side f e,f_line d c,qfq b a⟩)),Kg ?qp]
def s_join(m)(st)(i:1<=a)(h:a<=400)(g:1<=b)(e:b<=400)(d:1<=f)(c:f<=P):callD fns (m+3) 8 [szD W H P,Y9 [sO "join",O a,O b,O f]] st=Y (.bl L,st):=
 qzz 0 [2] 3 [Kc (qx6 m st (W:=W) (H:=H) [(a,"day"),(b,"day"),(f,"below")] ?g (by simp only[Qqc,Qzm,or_false,forall_eq_or_imp,forall_eq]; exact⟨qcz i h,qcz g e,qpb d c⟩)),Kg ?qp]
def s_stake(m)(st){g:J×J×J×J}(i:1<=o)(h:o<=40)(f:0<=g.1)(e:g.1<=g.2.2.1)(d:g.2.2.1<W)(c:0<=g.2.1)(b:g.2.1<=g.2.2.2)(a:g.2.2.2<H):callD fns (m+3) 8 [szD W H P,Y9 ?D] st=Y (.bl L,st):=
 qzz 0 [2] 3 [Kc (qx6 m st (P:=P) [(o,"folk"),(g.1,"x"),(g.2.1,"y"),(g.2.2.1,"x"),(g.2.2.2,"y")] ?g (by simp only[Qqc,Qzm,or_false,forall_eq_or_imp,forall_eq]; exact⟨qfq i h,f_x f ?d,f_y c ?d,f_x ?d d,f_y ?d a⟩)),Kg ?qp,Kb (Z6 e),Kb (Z6 b)]
def Cin(W H:J)(p:J×J):Prop:=0<=p.1/\p.1<W/\0<=p.2/\p.2<H
def qpr(m)(st)(h:Cin W H p):callD fns (m+3) 3 [szD W H P,cD p] st=Y (.bl L,st):=
 qzz 0 [2] 3 [Kc (qx6 m st (P:=P) [(p.1,"x"),(p.2,"y")] ?g (by simp only[Qqc,Qzm,or_false,forall_eq_or_imp,forall_eq]; exact⟨f_x h.1 h.2.1,f_y h.2.2.1 h.2.2.2⟩)),Kg ?qp]
theorem qlm:∀ps:Z (J×J),(?y).mapM keyD=Y (ps.map λp=>[p.1,p.2])
 |[]=>rfl
 |p::r=>by
  rw[Qqd,Qkt,qlm r]
  rfl
def qoi{ps:Z (J×J)}(hn:ps.Nodup)(hl:ps.length<=16):qvv (Y9 ?y)=Y (O (ps.length:J)):=by
 show((?y).mapM keyD).bind _=_;rw[qlm];have h:(ps.map λp=>[p.1,p.2]).Nodup:=by
  refine List.Pairwise.map _ (λa b c z=>c ?_) hn;simp only[List.cons.injEq,and_true]at z;exact Prod.ext z.1 z.2
 show(if (?y).length<=16/\_ then _ else _)=_;rw[Z9 ⟨by simpa using hl,h⟩,Qqz]
def s_vein(m)(st){ss:Z J}{ps:Z (J×J)}(w:(ss.length:J)=P)(q:ss.length<=100)(hs:∀s∈ss,0<=s/\s<=4)(x:1<=ps.length)(r:ps.length<=16)(hn:ps.Nodup)(hc:∀p∈ps,Cin W H p):callD fns (m+6) 8 [szD W H P,Y9 [sO "vein",Y9 ?H,Y9 ?y]] st=Y (.bl L,st):=by
 have hst:=qx6 (m+1) st (W:=W) (H:=H) (P:=P) (ss.map λs=>(s,"step")) ?r (λp e=>by obtain⟨s,a,rfl⟩:=Qqj.mp e; exact f_step (hs s a).1 (hs s a).2);rw[Qqp,Qqp]at hst;have v:ss.map ((λp:J×String=>sO p.2)∘λs=>(s,"step"))=List.replicate ss.length (sO "step"):=by
  rw[List.eq_replicate_iff];refine⟨?g,λb hb=>?_⟩;obtain⟨s,_,rfl⟩:=Qqj.mp hb
  rfl
 have u:ss.map ((λp:J×String=>D.int p.1)∘λs=>(s,"step"))=ss.map O:=rfl;rw[v,u]at hst;have o:binop st .Mult (Y9 [sO "step"]) (O P)=Y (Y9 (List.replicate ss.length (sO "step")),st):=by
  show(if decide (P < -(2 ^ 62))||decide (2 ^ 62<=P)||decide (lim<1*P.toNat) then B else Y (D.tup (List.replicate P.toNat [sO "step"]).flatten,st))=_;have:P.toNat=ss.length:=by lia
  rw[Z8 ?l,this]
  congr 3
  induction ss.length with
  |zero=>rfl
  |succ k n=>rw[Qz8,Qxh,n]; rfl
 have j:decide ((1:J)<=((?y).length:Y0))=true:=Z6 ?r;have h:decide (((?y).length:J)<=16)=true:=Z6 ?r;have d:=qvb (c:=callD fns (m+3)) (τ:=[Y ?w,Y (Y9 ?y)]) (st:=st) (i:=1) (elt:=.call 3 [Yd 1,Yd 0]) (sr:=[B,Y 0]) ps cD (λ_=>.bl L) rfl rfl (by unfold lim; lia) rfl λp e=>qzr 0 [3] 3 [Kc (qpr m st (P:=P) (hc p e))];have t:ps.map (λ_=>D.bl L)=(ps.map λ_=>L).map .bl:=by rw[Qqp]; rfl
 rw[t]at d;have l:bfun st .all [Yc ((ps.map λ_=>L).map .bl)]=Y (.bl L,st):=by
  show(asBools _).map _=_;rw[asB];exact congrArg (λb=>Y (D.bl b,_)) ?g
 have f:qvv (Y9 ?y)=Y (O ((?y).length:J)):=by rw[qoi hn r]; simp
 have g:(((?y).length:J)==((?y).length:Y0))=true:=by simp
 exact qzz 0 [2,3] 6 [Kk,Kc o,Kc hst,Kg ?qp,Kb j,Kb h,Kc d,Kl (qzv (st:=st) (nlB (ps.map λ_=>L))),Kc l,Ki f,Kb g]
end
abbrev scr(ns:Z J):D:=.lst (ns.map .int)
def modE(a)(h:0<b):∃v,(∀S,binop S .Mod (O a) (O b)=Y (O v,S))/\0<=v/\v<b:=⟨_,λS=>bMo S a h,Int.emod_nonneg _ ?d,Int.emod_lt_of_pos _ h⟩
def divE(a)(h:0<b)(c:b<2 ^ 64):∃v,∀S,binop S .FloorDiv (O a) (O b)=Y (O v,S):=⟨_,λS=>bDi S a h c⟩
abbrev itD:Y0->J->J
 |0,a=>a
 |n+1,a=>itD n a / 10000000000
noncomputable abbrev drT(ns:Z J)(k j many cell turn rest:J)(o:Y2 D):Sl:=[Y (scr ns),Y (.int k),Y (.int j),Y (.int many),Y (.int cell),Y (.int turn),Y (.int rest),o,B,B]
def qfb(m)(st)(hj:0<=j)(a:j<100000):∃o,stepEx ?M (drT ns k j many cell turn cell B) st (.forr (.var 7) (.rng1 (.var 2)) [.set (.var 6) (.bin .FloorDiv (.var 6) (.bin .Pow (.lit (O 10)) (.lit (O 10))))])=Y (.nx (drT ns k j many cell turn (itD j.toNat cell) o),st):=by
 obtain⟨τ',st',e,o,rfl,rfl⟩:=qz1 (c:=callD fns m) (τ:=drT ns k j many cell turn cell B) (st:=st) (it:=.rng1 (.var 2)) (s:=.rng 0 j.toNat) (ds:=(List.range j.toNat).map λ(i:Y0)=>D.int (0+i)) (t:=.var 7) (body:=[.set (.var 6) (.bin .FloorDiv (.var 6) (.bin .Pow (.lit (O 10)) (.lit (O 10))))])
  (λi τ' st'=>∃o,τ'=drT ns k j many cell turn (itD i cell) o/\st'=st)
  (by
   have e:(?M).ev (drT ns k j many cell turn cell B) st (.var 2)=Y (O j,st):=qqx _ _ _ _ _ rfl;show((?M).ev _ _ (.var 2)).bind _=_;rw[e];show(if big j=L then B else Y (Src.rng 0 j.toNat,st))=_
   rw[Z8 ?o])
  ?s (λi _ _ _=>qxh _ _ _) ⟨B,rfl,rfl⟩ (λi τ' st' d hd h=>by
   obtain⟨o,rfl,rfl⟩:=h;rw[Qqv]at hd;obtain⟨x,_,rfl⟩:=Qqy.mp hd;refine⟨drT ns k j many cell turn (itD i cell / 10000000000) (Y (O (0+x))),st',?_,_,rfl,rfl⟩;show (?M).ex (drT ns k j many cell turn (itD i cell) (Y (O (0+x)))) st' _=_
   exact qzp (k:=m) 0 [] 0 [Kc (bDi st' (itD i cell) (b:=10000000000) ?c ?c)])
 rw[Qqz,Qxl]at e;exact⟨o,e⟩
noncomputable abbrev drZ(o y t z w x u v:J)(S:Y1):Tp:=[.b L,.b L,.b L,.c (.int o,S),.b L,.c (.int y,S),.c (.int t,S),.c (.int z,S),.b L,.c (.int w,S),.b L,.b L,.c (.int x,S),.c (.int u,S),.c (.int v,S)]
noncomputable abbrev drX(a c t:J)(τ:Sl)(S:Y1)(r:Tp):Tp:=.b L::.c (.int a,S)::.i (.int c)::.c (.int t,S)::.s (.nx τ,S)::r
def dr0(hn:ns.length<=63)(k j)(hj:0<=j)(e:j<100000)(p:0<many):∃v:J,(∀m st,callD fns (m+1) 61 [scr ns,O k,O j,O many] st=Y (O v,st))/\0<=v/\v<many:=by
 obtain⟨cell,c,pre⟩:∃cell c:J,(ns=[]/\cell=0/\c=1)\/(0<((ns.map D.int).length:J)/\∃a,(∀S,binop S .Mod (O k) (O (ns.map D.int).length)=Y (O a,S))/\(∀S,idxD S (scr ns) (O a)=Y (O cell))/\∀S,binop S .FloorDiv (O k) (O (ns.map D.int).length)=Y (O c,S)):=by
  by_cases r:ns=[]
  ·exact⟨0,1,.inl ⟨r,rfl,rfl⟩⟩
  ·have R:=Qx5.mpr r;have hl:(ns.map D.int).length=ns.length:=Qqz _;have d:0<((ns.map D.int).length:J):=by lia
   obtain⟨a,h,N,K⟩:=modE k d;obtain⟨b,h'⟩:=divE k d ?d;have l:a.toNat<ns.length:=by lia
   exact⟨ns[a.toNat],b,.inr ⟨d,a,h,λS=>by simp only[scr,idxD,seqAt,oBs,atI,ixN,N,if_true,K,Qqv,Qqb l,oMs],h'⟩⟩
 obtain⟨one,h1,Q,P⟩:=modE (cell*7919+k*104729+j*1299709+31) (b:=1000000007) ?c;obtain⟨y,h2⟩:=divE cell (b:=1009) ?c ?c;obtain⟨two,G,_,_⟩:=modE (one*48271+y) (b:=998244353) ?c;obtain⟨z,F,z1,z2⟩:=modE one (b:=9973) ?c;obtain⟨tw,l,_,_⟩:=modE (two*(z+1)+j) (b:=1000000009) ?c;obtain⟨w,E⟩:=divE tw (b:=1013) ?c ?c;obtain⟨u,C,_,_⟩:=modE (one*69621+tw*40692+w) (b:=2147483647) ?c;obtain⟨v,A,v1,f⟩:=modE u p;obtain⟨x,I,_,_⟩:=modE (itD j.toNat cell) (b:=10000000000) ?c;obtain⟨n,H,t,s⟩:=modE x p;have tl:=λst=>(⟨qz4 ?c ?c,qz4 ?c ?c,qz4 ?c ?c,h1 st,qz4 ?c ?c,h2 st,G st,F st,qz4 ?d ?d,l st,qz4 ?c ?c,qz4 ?c ?c,E st,C st,A st,rfl⟩:mulOk cell 7919=L/\mulOk k 104729=L/\mulOk j 1299709=L/\_/\mulOk one 48271=L/\_/\_/\_/\mulOk two (z+1)=L/\_/\mulOk one 69621=L/\mulOk tw 40692=L/\_/\_/\_/\(D.int v,st)=(D.int v,st))
 rcases pre with⟨rfl,rfl,rfl⟩|⟨d,a,p1,p2,g⟩
 ·refine⟨v,λm st=>?_,v1,f⟩;obtain⟨o,hl⟩:=qfb m st (ns:=[]) (k:=k) (many:=many) (cell:=0) (turn:=1) hj e;exact qxt (k:=m) 0 [] 1 (λq=>_/\_/\_/\_/\_/\_/\_/\_/\_/\_/\_/\_/\_/\_/\_/\_/\_/\_/\q) (.b Y6::.s (.nx (drT [] k j many 0 1 (itD j.toNat 0) o),st)::.b Y6::drZ one y two z tw w u v st) ⟨(rfl:decide ((0:J)<0)=Y6),hl,(rfl:((1:J)==0)=Y6),tl st⟩
 ·have i:decide (0<((ns.map D.int).length:J))=true:=Z6 d;have lp:=λm st=>qfb m st (ns:=ns) (k:=k) (many:=many) (cell:=cell) (turn:=c) hj e
  by_cases c1:c=0
  ·by_cases c2:1000000000000000000<=cell
   ·by_cases c3:0<itD j.toNat cell
    ·refine⟨n,λm st=>?_,t,s⟩;obtain⟨o,hl⟩:=lp m st;exact qxt (k:=m) 0 [] 1 (λq=>_/\_/\_/\_/\_/\_/\_/\_/\_/\_/\q) (drX a cell c (drT ns k j many cell c (itD j.toNat cell) o) st [.b L,.b L,.b L,.c (O x,st),.c (O n,st)]) ⟨i,p1 st,p2 st,g st,hl,beq_iff_eq.mpr c1,Z6 c2,Z6 c3,I st,H st,rfl⟩
    ·refine⟨v,λm st=>?_,v1,f⟩;obtain⟨o,hl⟩:=lp m st;exact qxt (k:=m) 0 [] 1 (λq=>_/\_/\_/\_/\_/\_/\_/\_/\_/\_/\_/\_/\_/\_/\_/\_/\_/\_/\_/\_/\_/\_/\_/\q) (drX a cell c (drT ns k j many cell c (itD j.toNat cell) o) st (.b L::.b L::.b Y6::drZ one y two z tw w u v st)) ⟨i,p1 st,p2 st,g st,hl,beq_iff_eq.mpr c1,Z6 c2,Z7 c3,tl st⟩
   ·refine⟨v,λm st=>?_,v1,f⟩;obtain⟨o,hl⟩:=lp m st;exact qxt (k:=m) 0 [] 1 (λq=>_/\_/\_/\_/\_/\_/\_/\_/\_/\_/\_/\_/\_/\_/\_/\_/\_/\_/\_/\_/\_/\_/\q) (drX a cell c (drT ns k j many cell c (itD j.toNat cell) o) st (.b L::.b Y6::drZ one y two z tw w u v st)) ⟨i,p1 st,p2 st,g st,hl,beq_iff_eq.mpr c1,Z7 c2,tl st⟩
  ·refine⟨v,λm st=>?_,v1,f⟩;obtain⟨o,hl⟩:=lp m st;exact qxt (k:=m) 0 [] 1 (λq=>_/\_/\_/\_/\_/\_/\_/\_/\_/\_/\_/\_/\_/\_/\_/\_/\_/\_/\_/\_/\_/\q) (drX a cell c (drT ns k j many cell c (itD j.toNat cell) o) st (.b Y6::drZ one y two z tw w u v st)) ⟨i,p1 st,p2 st,g st,hl,beq_eq_false_iff_ne.mpr c1,tl st⟩
section
variable {ns:Z J}(hn:ns.length<=63)
include hn
theorem dr(m)(st)(k j)(hj:0<=j)(b:j<100000)(c:0<many):∃v:J,callD fns (m+1) 61 [scr ns,O k,O j,O many] st=Y (O v,st)/\0<=v/\v<many:=by
 obtain⟨v,h,a⟩:=dr0 hn k j hj b c;exact⟨v,h m st,a⟩
theorem qm3(m)(st)(k):∃W H P:J,callD fns (m+2) 63 [scr ns,O k] st=Y (szD W H P,st)/\1<=W/\W<=24/\1<=H/\H<=24/\0<=P/\P<=12/\(H<=3/\P<=2\/W<=3/\P<=2\/W<=3/\H<=3\/W<=6/\H<=6/\P<=5):=by
 obtain⟨a,ha,s,q⟩:=dr hn m st k 0 (many:=6) ?c ?c ?c;obtain⟨b,hb,b1,b2⟩:=dr hn m st k 1 (many:=6) ?c ?c ?c;obtain⟨c,hc,c1,c2⟩:=dr hn m st k 2 (many:=6) ?c ?c ?c;obtain⟨e,g,p,o⟩:=dr hn m st k 3 (many:=12) ?c ?c ?c;have l:=qzv (st:=st) (ds:=[Y9 [O 24,O (1+(1+b) / 3),O (c / 2)],Y9 [O (1+(1+a) / 3),O 24,O (c / 2)]]) rfl;have j:=qzv (st:=st) (ds:=[Y9 [O (1+(1+a) / 3),O (1+(1+b) / 3),O 12],Y9 [O (1+a),O (1+b),O c]]) rfl;have h:=qzv (st:=st) (ds:=[Y9 [O 24,O (1+(1+b) / 3),O (c / 2)],Y9 [O (1+(1+a) / 3),O 24,O (c / 2)],Y9 [O (1+(1+a) / 3),O (1+(1+b) / 3),O 12],Y9 [O (1+a),O (1+b),O c]]) rfl;have d:∀(i:J) (r:D),(if decide (e<3) then e else 3)=i->idxD st (Yc [Y9 [O 24,O (1+(1+b) / 3),O (c / 2)],Y9 [O (1+(1+a) / 3),O 24,O (c / 2)],Y9 [O (1+(1+a) / 3),O (1+(1+b) / 3),O 12],Y9 [O (1+a),O (1+b),O c]]) (O i)=Y r->callD fns (m+2) 63 [scr ns,O k] st=Y (r,st):=λi r hi hr=>by
  rw[<- hi]at hr
  by_cases f:e<3
  ·rw[Z6 f]at hr;exact qzz 0 [61] 2 [Kc ha,Kc hb,Kc hc,Kl l,Kl j,Kk,Kl h,Kc g,Kb (Z6 f),Ki hr]
  ·rw[Z7 f]at hr;exact qzz 0 [61] 2 [Kc ha,Kc hb,Kc hc,Kl l,Kl j,Kk,Kl h,Kc g,Kb (Z7 f),Ki hr]
 by_cases n:e=0
 ·exact⟨24,1+(1+b) / 3,c / 2,d 0 _ (by subst n; rfl) rfl,?d,?d,?d,?d,?d,?d,?d⟩
 ·by_cases h1:e=1
  ·exact⟨1+(1+a) / 3,24,c / 2,d 1 _ (by subst h1; rfl) rfl,?d,?d,?d,?d,?d,?d,?d⟩
  ·by_cases h2:e=2
   ·exact⟨1+(1+a) / 3,1+(1+b) / 3,12,d 2 _ (by subst h2; rfl) rfl,?d,?d,?d,?d,?d,?d,?d⟩
   ·exact⟨1+a,1+b,c,d 3 _ (by rw[Z7 ?d]; rfl) rfl,?d,?d,?d,?d,?d,?d,?d⟩
theorem qmi(m)(st)(k):∃T:J,callD fns (m+2) 64 [scr ns,O k] st=Y (O T,st)/\1<=T/\T<=400:=by
 obtain⟨a,ha,f,e⟩:=dr hn m st k 5 (many:=400) ?c ?c ?c;obtain⟨b,hb,b1,b2⟩:=dr hn m st k 4 (many:=4) ?c ?c ?c;have g:=qzv (st:=st) (ds:=[O (1+a),O (1+a % 4),O (4+a % 50),O (4+a % 50)]) rfl;have c:∀T:J,idxD st (Yc [O (1+a),O (1+a % 4),O (4+a % 50),O (4+a % 50)]) (O b)=Y (O T)->callD fns (m+2) 64 [scr ns,O k] st=Y (O T,st):=λT h=>
  qzz 0 [61] 2 [Kc ha,Kl g,Kc hb,Ki h]
 have d:b=0\/b=1\/b=2\/b=3:=by lia
 rcases d with rfl|rfl|rfl|rfl
 ·exact⟨1+a,c _ rfl,?d,?d⟩
 ·exact⟨1+a % 4,c _ rfl,?d,?d⟩
 ·exact⟨4+a % 50,c _ rfl,?d,?d⟩
 ·exact⟨4+a % 50,c _ rfl,?d,?d⟩
theorem qny(m)(st)(k j)(hj:0<=j)(l:j<1000)(f:0<W)(i:0<H):∃g:J×J×J×J,callD fns (m+2) 66 [scr ns,O k,O j,O W,O H] st=Y (rD g,st)/\0<=g.1/\g.1<=g.2.2.1/\g.2.2.1<W/\0<=g.2.1/\g.2.1<=g.2.2.2/\g.2.2.2<H:=by
 obtain⟨a,ha,r,q⟩:=dr hn m st k j hj ?d f;obtain⟨b,hb,b1,b2⟩:=dr hn m st k (j+1) ?d ?d f;obtain⟨c,hc,c1,c2⟩:=dr hn m st k (j+2) ?d ?d i;obtain⟨e,n,p,o⟩:=dr hn m st k (j+3) ?d ?d i;have d:∀x y:J,bfun st .sorted [Yc [O x,O y]]=Y (Y3 st.length,st++[Y8 L [O (min x y),O (max x y)]]):=λx y=>by
  show Y (alloc st (Y8 L ((sortInt [x,y]).map O)))=_;have:sortInt [x,y]=[min x y,max x y]:=by
   show(if x<=y then [x,y] else [y,x])=_
   by_cases h:x<=y
   ·rw[Z9 h,Int.min_eq_left h,Int.max_eq_right h]
   ·rw[Z8 h,Int.min_eq_right ?d,Int.max_eq_left ?d]
  rw[this]
  rfl
 refine⟨(min a b,min c e,max a b,max c e),?_,by simp only; lia,by simp only; lia,by simp only; lia,by simp only; lia,by simp only; lia,by simp only; lia⟩;exact qzz 0 [61] 2 [Kc ha,Kc hb,Kl (qzv (st:=st) (ds:=[O a,O b]) rfl),Kc (d a b),Kl (qzv (st:=st) (ds:=[O (min a b),O (max a b)]) rfl),Kc hc,Kc n,Kl (qzv (st:=st) (ds:=[O c,O e]) rfl),Kc (d c e),Kl (qzv (st:=st) (ds:=[O (min c e),O (max c e)]) rfl)]
theorem qiu(m)(st)(k j)(hj:0<=j)(c:j<1000):∃o:J,callD fns (m+2) 69 [scr ns,O k,O j] st=Y (O o,st)/\1<=o/\o<=40:=by
 obtain⟨a,ha,e,d⟩:=dr hn m st k (j+1) (many:=6) ?d ?d ?c;have g:=qzv (st:=st) (ds:=[O 40,O 4,O 4,O 4,O 4,O 4]) rfl;have ⟨w,hw,w1,w2⟩:∃w:J,idxD st (Yc [O 40,O 4,O 4,O 4,O 4,O 4]) (O a)=Y (O w)/\0<w/\w<=40:=by
  have:a=0\/a=1\/a=2\/a=3\/a=4\/a=5:=by lia
  rcases this with rfl|rfl|rfl|rfl|rfl|rfl
  ·exact⟨40,rfl,?c,?c⟩
  all_goals exact⟨4,rfl,?c,?c⟩
 obtain⟨b,hb,b1,b2⟩:=dr hn m st k j hj ?d w1;exact⟨1+b,qzz 0 [61] 2 [Kl g,Kc ha,Ki hw,Kc hb],?d,?d⟩
theorem qyq(m)(st)(k j)(hj:0<=j)(i:j<1000){xs:Z J}(h:∀x∈xs,1<=x/\x<=400):∃n:J,callD fns (m+2) 70 [scr ns,O k,O j,Yc (xs.map O)] st=Y (O n,st)/\1<=n/\n<=400:=by
 obtain⟨b,hb,b1,b2⟩:=dr hn m st k (j+1) (many:=400) ?d ?d ?c
 by_cases f:xs=[]
 ·subst f;exact⟨1+b,qzz 0 [61] 2 [Kk,Kc hb],?d,?d⟩
 ·have hl:=Qx5.mpr f;have g:(((xs.map D.int).length:J)==0)=false:=by
   rw[beq_eq_false_iff_ne];simp;exact f
  obtain⟨a,ha,o,l⟩:=dr hn m st k j (many:=14) ?d ?d ?c
  by_cases h1:a=0
  ·exact⟨1+b,qzz 0 [61] 2 [Kb g,Kc ha,Kb (show(a==0)=L by simpa using h1),Kc hb],?d,?d⟩
  ·obtain⟨c,hc,c1,c2⟩:=dr hn m st k (j+1) (many:=((xs.map D.int).length:J)) ?d ?d ?r;rw[Qqz]at c2;have hi:c.toNat<xs.length:=by lia
   have d:=h xs[c.toNat] (Qxn hi);have e:idxD st (Yc (xs.map O)) (O c)=Y (O xs[c.toNat]):=by
    show atI (xs.map D.int) c=_;unfold atI ixN;rw[Z9 c1,Z9 (by simpa using c2)];simp[Qqb hi]
   exact⟨xs[c.toNat],qzz 0 [61] 2 [Kb g,Kc ha,Kb (show(a==0)=Y6 by simpa using h1),Kc hc,Ki e],d.1,d.2⟩
end
section
variable {ns:Z J}(hn:ns.length<=63)
include hn
omit hn in
abbrev stT(d:J):Int:=[0,1,2,3,4,0,0].getD d.toNat 0
theorem qg2(m)(st)(k j)(hj:0<=j)(o:j<1000)(p:0<=P)(l:P<=12):∃ss:Z J,callD fns (m+2) 67 [scr ns,O k,O j,O P] st=Y (.tup ?H,st)/\(ss.length:J)=P/\∀s∈ss,0<=s/\s<=4:=by
 obtain⟨c,g⟩:=Classical.axiomOfChoice (λx:J=>show ∃v:J,(0<=x->x<100000->∀m st,callD fns (m+1) 61 [scr ns,O k,O x,O 7] st=Y (O v,st))/\0<=v/\v<7 by
  by_cases h:0<=x/\x<100000
  ·obtain⟨v,a,b⟩:=dr0 hn k x (many:=7) h.1 h.2 ?c;exact⟨v,λ_ _=>a,b⟩
  ·exact⟨0,λl h2=>absurd ⟨l,h2⟩ h,?c⟩)
 have hr:(List.range P.toNat).map (λ(i:Y0)=>D.int (0+i))=(List.range P.toNat).map λ(i:Y0)=>D.int i:=Qzr λi _=>by simp
 have h:=qqq (t:=.var 0) (it:=.rng1 ?qk) (elt:=.idx (.gc (.lst [.lit (O 0),.lit (O 1),.lit (O 2),.lit (O 3),.lit (O 4),.lit (O 0),.lit (O 0)])) (.call 61 [.var 3,.var 2,.bin .Add ?qn ?K,.lit (O 7)])) (sr:=[B,Y 2,Y 1,Y 0]) (λd=>match d with|O i=>Y (O (stT (c (j+i))))|_=>B) (λτ=>∃a,τ=[a,Y (O j),Y (O k),Y (scr ns)])
  (by
   have e:(?I).ev [Y (scr ns),Y (O k),Y (O j),Y (O P)] st ?qk=Y (O P,st):=qqx _ _ _ _ _ rfl;show((?I).ev _ _ ?qk).bind _=_;rw[e];show(if big P=L then B else Y (Src.rng 0 P.toNat,st))=_
   rw[Z8 ?o])
  (λi=>by rw[qxh,hr]) ?s ?l ⟨B,rfl⟩ (λτ d hd n=>by
   obtain⟨a,rfl⟩:=n;obtain⟨i,hi,rfl⟩:=Qqj.mp hd;have hi:=Qz6.mp hi;refine⟨[Y (O (i:Y0)),Y (O j),Y (O k),Y (scr ns)],?_,Y (O (i:Y0)),rfl⟩;obtain⟨hd,l1,l2⟩:=g (j+(i:Y0));have hd:=hd ?d ?d m st;have f:idxD st (.lst [O 0,O 1,O 2,O 3,O 4,O 0,O 0]) (O (c (j+(i:Y0))))=Y (O (stT (c (j+(i:Y0))))):=by
    generalize c (j+(i:Y0))=v at l1 l2 ⊢;have:v=0\/v=1\/v=2\/v=3\/v=4\/v=5\/v=6:=by lia
    rcases this with rfl|rfl|rfl|rfl|rfl|rfl|rfl<;>rfl
   exact qjf rfl (qzr 0 [61] 1 [Kl (qzv (st:=st) (ds:=[O 0,O 1,O 2,O 3,O 4,O 0,O 0]) rfl),Kc hd,Ki f]))
 have e:((List.range P.toNat).map λ(i:Y0)=>D.int i).filterMap (λd=>match d with|O i=>Y (D.int (stT (c (j+i))))|_=>B)=((List.range P.toNat).map λ(i:Y0)=>stT (c (j+(i:Y0)))).map O:=by
  rw[Qxx,Qqp];exact Qjw▸rfl
 rw[e]at h;refine⟨(List.range P.toNat).map λ(i:Y0)=>stT (c (j+(i:Y0))),qzz 0 [] 2 [Kc h,Kl (qzv (st:=st) (nlI ((List.range P.toNat).map λ(i:Y0)=>stT (c (j+(i:Y0))))))],?r,λs hs=>?_⟩;obtain⟨i,_,rfl⟩:=Qqj.mp hs;obtain⟨_,l1,l2⟩:=g (j+(i:Y0));generalize c (j+(i:Y0))=v at l1 l2 ⊢;have:v=0\/v=1\/v=2\/v=3\/v=4\/v=5\/v=6:=by lia
 rcases this with rfl|rfl|rfl|rfl|rfl|rfl|rfl<;>decide
omit hn in
theorem flat_c(ps:Z (J×J)):flats 9 ?y=true:=by
 induction ps with
 |nil=>rfl
 |cons p r a=>show(flat 9 (cD p)&&flats 9 (r.map cD))=L; rw[a]; rfl
omit hn in
theorem any_c(ps:Z (J×J))(p):((?y).any λy=>eqT y (cD p))=decide (p∈ps):=by
 induction ps with
 |nil=>rfl
 |cons a r b=>
  have e:eqT (cD a) (cD p)=decide (p=a):=by
   show((a.1==p.1)&&((a.2==p.2)&&L))=_;rw[Qx8,Qkm];simp only[Qqt,beq_iff_eq,decide_eq_true_eq];exact⟨λh=>Prod.ext h.1.symm h.2.symm,λh=>by rw[h]; exact⟨rfl,rfl⟩⟩
  rw[Qqd,Qxb,b,e];simp only[Qqc]
  by_cases h1:p=a<;>by_cases h2:p∈r<;>simp[h1,h2]
theorem qn8(m)(st)(k j)(hj:0<=j)(T:j<1000)(w1:1<=W)(Q:W<=24)(h1:1<=H)(h2:H<=24):∃ps:Z (J×J),callD fns (m+2) 68 [scr ns,O k,O j,szD W H P] st=Y (.tup ?y,st++[Y8 L ?y])/\1<=ps.length/\ps.length<=16/\ps.Nodup/\∀p∈ps,Cin W H p:=by
 have hc:0<W*H:=Int.mul_pos ?d ?d;have V:=Int.mul_le_mul Q h2 ?d ?d;obtain⟨f,hf,f1,f2⟩:=dr hn m st k j hj ?d hc;obtain⟨g,U,g1,g2⟩:=dr hn m st k (j+1) ?d ?d hc;obtain⟨a,ha,a1,a2⟩:=dr hn m (st++?qv) k (j+2) (many:=4) ?d ?d ?c;have ⟨w,hw,N,x2⟩:∃w:J,idxD (st++?qv) (.lst [O 16,O 4,O 4,O 4]) (O a)=Y (O w)/\0<w/\w<=16:=by
  have:a=0\/a=1\/a=2\/a=3:=by lia
  rcases this with rfl|rfl|rfl|rfl
  ·exact⟨16,rfl,?c,?c⟩
  all_goals exact⟨4,rfl,?c,?c⟩
 obtain⟨b,hb,b1,b2⟩:=dr hn m (st++?qv) k (j+3) ?d ?d N;have F:(?I).ev [Y (scr ns),Y (O k),Y (O j),Y ?w,Y (O (W*H)),Y (O f),Y (O (1+g)),Y ?R,B,B] (st++?qv) ?qd=Y (O (1+b),st++?qv):=
  qzr 0 [61] 1 [Kl (qzv (st:=st++?qv) (ds:=[O 16,O 4,O 4,O 4]) rfl),Kc ha,Ki hw,Kc hb]
 obtain⟨τ',st',X,S,o,D,ps,rfl,rfl,p1,p2,x,v⟩:=qz1 (st:=st++?qv) (it:=.rng1 ?qd) (t:=.var 8)
  (body:=[.set (.var 9) (.bin .Mod (.bin .Add (.var 5) (.bin .Mult (.var 8) (.var 6))) (.var 4)),.ite (.cmp .NotIn (.tup [.bin .Mod (.var 9) (.idx ?qk (.lit (O 0))),.bin .FloorDiv (.var 9) (.idx ?qk (.lit (O 0)))]) (.var 7)) [.expr (.meth (.var 7) .append [.tup [.bin .Mod (.var 9) (.idx ?qk (.lit (O 0))),.bin .FloorDiv (.var 9) (.idx ?qk (.lit (O 0)))]])] []])
  (λi τ' st'=>i<=(1+b).toNat/\∃o D ps,τ'=[Y (scr ns),Y (O k),Y (O j),Y ?w,Y (O (W*H)),Y (O f),Y (O (1+g)),Y ?R,o,D]/\st'=st++[Y8 L ((ps:Z (J×J)).map cD)]/\ps.length<=i/\(0<i->1<=ps.length)/\ps.Nodup/\∀p∈ps,Cin W H p)
  (by
   show((?I).ev _ _ _).bind _=_;rw[F];show(if big (1+b)=L then B else Y (Src.rng 0 (1+b).toNat,_))=_
   rw[Z8 ?o])
  ?s (λi τ' st' _=>qxh _ _ _) ⟨Qzg _,B,B,[],rfl,rfl,?g,?g,List.nodup_nil,?g⟩ (λi τ' st' d hd n=>by
   obtain⟨_,o,D,ps,rfl,rfl,p1,p2,x,v⟩:=n;rw[Qqv]at hd;obtain⟨i',q,rfl⟩:=Qqy.mp hd;have E:i<(1+b).toNat:=by
    have:=(Qqk.mp q).1;simpa using this
   rw[Qx3 E]at q;cases q;generalize l:(f+(0+(i:J))*(1+g)) % (W*H)=pl;have l1:0<=pl:=by rw[<- l]; exact Int.emod_nonneg _ ?d
   have l2:pl<W*H:=by rw[<- l]; exact Int.emod_lt_of_pos _ hc
   have I:mulOk (0+(i:J)) (1+g)=true:=qz4 ?d ?d;have G:binop (st++[Y8 L ?y]) .Mod (O (f+(0+(i:J))*(1+g))) (O (W*H))=Y (O pl,st++[Y8 L ?y]):=by rw[bMo _ _ hc,l]
   have C:binop (st++[Y8 L ?y]) .Mod (O pl) (O W)=Y (O (pl % W),st++[Y8 L ?y]):=bMo _ _ ?d;have A:binop (st++[Y8 L ?y]) .FloorDiv (O pl) (O W)=Y (O (pl / W),st++[Y8 L ?y]):=bDi _ _ ?d ?d;have K:=gl (st:=st) (c:=Y8 L ?y);have h:cmpD (st++[Y8 L ?y]) .NotIn (cD (pl % W,pl / W)) ?R=Y (!decide ((pl % W,pl / W)∈ps)):=by
    have e:inD (st++[Y8 L ?y]) (cD (pl % W,pl / W)) ?R=Y (decide ((pl % W,pl / W)∈ps)):=by
     show(seqAt (st++[Y8 L ?y]) ?R).bind _=_;have:seqAt (st++[Y8 L ?y]) ?R=Y ?y:=by show listAt _ _=_; unfold listAt; rw[gl]
     rw[this];show(if flat 9 (cD (pl % W,pl / W))&&flats 9 ?y then Y ((?y).any λy=>eqT y (cD (pl % W,pl / W))) else B)=_;rw[flat_c,any_c]
     rfl
    show(inD _ _ _).map (!·)=_;rw[e]
    rfl
   by_cases s:(pl % W,pl / W)∈ps
   ·rw[Z6 s]at h;refine⟨_,_,qzp 0 [] 1 [Kb I,Kc G,Kc C,Kc A,Kb h],?d,Y (O (0+(i:J))),Y (O pl),ps,rfl,rfl,?d,λ_=>Qx5.mpr (λz=>by rw[z]at s; cases s),x,v⟩
   ·rw[Z7 s]at h;have u:(?y).length<lim:=by rw[Qqz]; unfold lim; lia
    refine⟨_,_,qzp (r:=(.nx [Y (scr ns),Y (O k),Y (O j),Y ?w,Y (O (W*H)),Y (O f),Y (O (1+g)),Y ?R,Y (O (0+(i:J))),Y (O pl)],(st++[Ya.lst L ?y]).set st.length (Y8 L (ps.map cD++[cD (pl % W,pl / W)])))) 0 [] 1 [Kb I,Kc G,Kc C,Kc A,Kb h,Kr K,Kc C,Kc A,Kr K,Kb (Z6 u)],?d,Y (O (0+(i:J))),Y (O pl),ps++[(pl % W,pl / W)],rfl,by rw[sl]; simp,?r,λ_=>by simp,?_,λp n=>?_⟩
    ·rw[Qxk];exact⟨x,?g,λa ha b hb=>by cases Qqa.mp hb; exact λz=>s (z▸ha)⟩
    ·rcases Qqi.mp n with n|n
     ·exact v p n
     ·cases Qqa.mp n;refine⟨Int.emod_nonneg _ ?d,Int.emod_lt_of_pos _ ?d,Int.ediv_nonneg l1 ?d,?_⟩
      exact Int.ediv_lt_of_lt_mul ?d (by rw[Int.mul_comm]; exact l2))
 rw[Qqz,Qxl]at p1 p2 S;refine⟨ps,?_,p2 ?d,?d,x,v⟩;have R:mulOk W H=true:=qz4 ?d ?d;exact qzz 0 [61] 2 [Kb R,Kc hf,Kc U,Ks X,Kr (gl (st:=st) (c:=Y8 L ?y))]
end
inductive DF (W H P:J):D->Prop
 |vein {ss:Z J}{ps:Z (J×J)}(hP:(ss.length:J)=P) (hP2:ss.length<=100) (hs:∀s∈ss,0<=s/\s<=4) (h1:1<=ps.length) (h2:ps.length<=16) (hn:ps.Nodup) (hc:∀p∈ps,Cin W H p):DF W H P (.tup [sO "vein",.tup (ss.map .int),.tup (ps.map cD)])
 |join {a b f:J}(h1:1<=a) (h2:a<=400) (h3:1<=b) (h4:b<=400) (h5:1<=f) (h6:f<=P):DF W H P (.tup [sO "join",.int a,.int b,.int f])
 |stake {o:J}{g:J×J×J×J}(h1:1<=o) (h2:o<=40) (x0:0<=g.1) (x1:g.1<=g.2.2.1) (x2:g.2.2.1<W) (y0:0<=g.2.1) (y1:g.2.1<=g.2.2.2) (y2:g.2.2.2<H):DF W H P (.tup [sO "stake",.int o,.int g.1,.int g.2.1,.int g.2.2.1,.int g.2.2.2])
 |claim {f:D}(h:CF' f) (hs:∀m st,callD fns (m+6) 8 [szD W H P,f] st=Y (.bl L,st)):DF W H P f
def DF.sound(h:DF W H P f)(m)(st):callD fns (m+6) 8 [szD W H P,f] st=Y (.bl L,st):=by
 cases h with
 |vein j a hs h1 h2 hn hc=>exact s_vein m st j a hs h1 h2 hn hc
 |join h1 h2 o n l k=>exact s_join (m+3) st h1 h2 o n l k
 |stake h1 h2 i g e d c b=>exact s_stake (m+3) st h1 h2 i g e d c b
 |claim h hs=>exact hs m st
abbrev wIs(f:D)(ws:Z String):Bool:=match f with
 |.tup (.str z::_)=>ws.any λw=>MS.sq z (Str.ofString w)
 |_=>Y6
abbrev pD(p:J×D):D:=.tup [.int p.1,p.2]
def qyk(ps:Z (J×J)):noLoc (Y9 ?y)=true:=by rw[qv5]; exact qzj λ_ _=>rfl
def gT(st)(ps:Z (J×J)):noLoc (Y9 ?y)=L/\(st++[Ya.lst L ?y]).take st.length=st:=⟨qyk ps,tkl⟩
section
variable {ns:Z J}(hn:ns.length<=63){W H P:J}(w1:1<=W)(w2:W<=24)(h1:1<=H)(h2:H<=24)(p0:0<=P)(p1:P<=12)
include hn w1 w2 h1 h2 p0 p1
theorem qmk(m)(st)(k):∃f,callD fns (m+3) 71 [scr ns,O k,szD W H P] st=Y (f,st)/\DF W H P f:=by
 obtain⟨ss,hs,b,a⟩:=qg2 hn m st k 8 ?c ?c p0 p1;obtain⟨ps,h,g,e,d,c⟩:=qn8 hn m st k 1 (P:=P) ?c ?c w1 w2 h1 h2;exact⟨_,qzz 0 [67,68] 3 [Kc hs,Kc h,Kg (gT st ps)],.vein b ?d a g e d c⟩
theorem qio(m)(st)(k d)(C:0<=d)(A:d<8){xs:Z J}(v:∀x∈xs,1<=x/\x<=400):∃f,callD fns (m+3) 72 [scr ns,O k,O d,szD W H P,Yc (xs.map O)] st=Y (f,st)/\DF W H P f:=by
 obtain⟨c,hc,c1,c2⟩:=qyq hn m st k 1 ?c ?c v;obtain⟨o,n,q,p⟩:=qiu hn m st k 3 ?c ?c;obtain⟨s,hs,u,D⟩:=dr hn (m+1) st k 5 (many:=2) ?c ?c ?c;have ⟨l,hl,l1,l2,b,hb,y⟩:∃l:J,(∃r:J,callD fns (m+2) 61 [scr ns,O k,O 6,O r] st=Y (O l,st)/\r=(if decide ((if s=0 then W else H)<23) then(if s=0 then W else H) else 23))/\0<=l/\l<23/\∃b,decide ((if s=0 then W else H)<23)=b/\True:=by
  by_cases h:(if s=0 then W else H)<23
  ·have w:0<(if s=0 then W else H):=by split<;>lia
   obtain⟨l,hl,l1,l2⟩:=dr hn (m+1) st k 6 ?c ?c w;exact⟨l,⟨_,hl,by rw[Z6 h]; rfl⟩,l1,?d,L,Z6 h,trivial⟩
  ·obtain⟨l,hl,l1,l2⟩:=dr hn (m+1) st k 6 (many:=23) ?c ?c ?c;exact⟨l,⟨_,hl,by rw[Z7 h]; rfl⟩,l1,?d,Y6,Z7 h,trivial⟩
 obtain⟨r,hl,a⟩:=hl;have z:DF W H P (Y9 [sO "work",O c]):=.claim (.work c) λm st=>s_work (m+3) st c1 c2;have dg:DF W H P (Y9 [sO "give",O c]):=.claim (.give c) λm st=>s_give (m+3) st c1 c2;have ds:DF W H P (Y9 [sO "sell",O c,O o]):=.claim (.sell c o ⟨q,p⟩) λm st=>s_sell (m+3) st c1 c2 q p;have dp:DF W H P (Y9 [sO "part",O c,O s,O (1+l),O o]):=.claim (.part c s (1+l) o ?d ⟨q,p⟩) λm st=>s_part (m+3) st c1 c2 u ?d ?d ?d q p;have g:=qzv (st:=st) (ds:=[Y9 [sO "sell",O c,O o],Y9 [sO "part",O c,O s,O (1+l),O o],Y9 [sO "give",O c]]) rfl;have j:∀f,(d<3/\f=Y9 [sO "work",O c])\/(¬ d<3/\idxD st (Yc [Y9 [sO "sell",O c,O o],Y9 [sO "part",O c,O s,O (1+l),O o],Y9 [sO "give",O c]]) (O (d / 2 - 1))=Y f)->callD fns (m+3) 72 [scr ns,O k,O d,szD W H P,Yc (xs.map O)] st=Y (f,st):=λf hf=>by
  have t:s=0\/s=1:=by lia
  rcases t with rfl|rfl
  ·rw[Z9 rfl]at hb a
   cases b with
   |true=>
    rw[hb,Z9 rfl]at a;subst a;rcases hf with⟨i,rfl⟩|⟨i,hf⟩
    ·exact qzz 0 [61,69,70] 3 [Kc hc,Kc n,Kc hs,Kb hb,Kc hl,Kb (Z6 i)]
    ·exact qzz 0 [61,69,70] 3 ?q6
   |false=>
    rw[hb,Z8 ?g]at a;subst a;rcases hf with⟨i,rfl⟩|⟨i,hf⟩
    ·exact qzz 0 [61,69,70] 3 [Kc hc,Kc n,Kc hs,Kb hb,Kc hl,Kb (Z6 i)]
    ·exact qzz 0 [61,69,70] 3 ?q6
  ·rw[Z8 (show ¬ (1:J)=0 by decide)]at hb a
   cases b with
   |true=>
    rw[hb,Z9 rfl]at a;subst a;rcases hf with⟨i,rfl⟩|⟨i,hf⟩
    ·exact qzz 0 [61,69,70] 3 [Kc hc,Kc n,Kc hs,Kb hb,Kc hl,Kb (Z6 i)]
    ·exact qzz 0 [61,69,70] 3 ?q6
   |false=>
    rw[hb,Z8 ?g]at a;subst a;rcases hf with⟨i,rfl⟩|⟨i,hf⟩
    ·exact qzz 0 [61,69,70] 3 [Kc hc,Kc n,Kc hs,Kb hb,Kc hl,Kb (Z6 i)]
    ·exact qzz 0 [61,69,70] 3 ?q6
 by_cases i:d<3
 ·exact⟨_,j _ (.inl ⟨i,rfl⟩),z⟩
 ·have:d / 2 - 1=0\/d / 2 - 1=1\/d / 2 - 1=2:=by lia
  rcases this with e|e|e
  ·exact⟨_,j _ (.inr ⟨i,by rw[e]; rfl⟩),ds⟩
  ·exact⟨_,j _ (.inr ⟨i,by rw[e]; rfl⟩),dp⟩
  ·exact⟨_,j _ (.inr ⟨i,by rw[e]; rfl⟩),dg⟩
end
abbrev dys(pl:Z (J×D))(ws:Z String):Z Int:=(pl.filter λp=>wIs p.2 ws).map (·.1)
def dys_in(h:x∈dys pl a):∃p∈pl,p.1=x:=by
 obtain⟨p,b,rfl⟩:=Qqj.mp h;exact⟨p,(Qqu.mp b).1,rfl⟩
abbrev gW(ws:Z String):D->Y2 D
 |.tup [.int x,f]=>if wIs f ws then Y (.int x) else B
 |_=>B
def qpg(pl)(a):(pl.map pD).filterMap (gW a)=(dys pl a).map O:=by
 unfold dys
 induction pl with
 |nil=>rfl
 |cons p r b=>
  have e:gW a (pD p)=if wIs p.2 a then Y (O p.1) else none:=rfl
  rw[Qqd,Qq5,e,b]
  cases h:wIs p.2 a with
  |true=>simp[Qzz,h]
  |false=>simp[Qzz,h]
section
variable {ns:Z J}(hn:ns.length<=63){W H P:J}(w1:1<=W)(w2:W<=24)(h1:1<=H)(h2:H<=24)(p0:0<=P)(p1:P<=12)
theorem qfi(m){S:Y1}(i:rowAt S q0=Y (pl.map pD))(e)(j:∀p∈pl,DF W H P p.2)(hl:pl.length<1000)(c:τ[3]?=Y (Y q0))(g:∀p:J×D,DF W H P p.2->(?M).tst [Y (O p.1),Y p.2] (S) q=Y (wIs p.2 e,S)):
  stepEv ?M τ (S) (.comp (.tup [0,1]) ?qk (Y q) ?K [B,B])=Y (Y3 S.length,S++[Y8 L ((dys pl e).map O)]):=by
 obtain⟨s,n,l,k⟩:=qk7 c i
 have h:=qqq (t:=.tup [0,1]) (elt:=.var 0) (sr:=[B,B]) (gW e) (λτ=>∃a b,τ=[a,b]) n l k ?l ⟨B,B,rfl⟩ (λτ d hd c=>by
  obtain⟨a,b,rfl⟩:=c;obtain⟨p,f,rfl⟩:=Qqj.mp hd
  exact⟨[Y (O p.1),Y p.2],turn_if rfl (g p (j p f)) λ_=>qqx _ _ _ _ _ rfl,Y (O p.1),Y p.2,rfl⟩)
 rw[qpg]at h;exact h
theorem t_vein(m)(S)(p:J×D)(h:DF W H P p.2):(?M).tst [Y (O p.1),Y p.2] S (.cmp .Eq (.idx (Yd 1) (.lit (O 0))) (.lit (sO "vein")))=Y (wIs p.2 ["vein"],S):=by
 obtain⟨x,f⟩:=p
 cases h with
 |vein=>exact qzm 0 [] 0 []
 |join=>exact qzm 0 [] 0 []
 |stake=>exact qzm 0 [] 0 []
 |claim h _=>cases h<;>exact qzm 0 [] 0 []
theorem t_name(m)(S)(p:J×D)(h:DF W H P p.2):(?M).tst [Y (O p.1),Y p.2] S (.cmp .In (.idx ?qn (.lit (O 0))) (.tup [.lit (sO "stake"),.lit (sO "part")]))=Y (wIs p.2 ["stake","part"],S):=by
 obtain⟨x,f⟩:=p
 cases h with
 |vein=>exact qzm 0 [] 0 []
 |join=>exact qzm 0 [] 0 []
 |stake=>exact qzm 0 [] 0 []
 |claim h _=>cases h<;>exact qzm 0 [] 0 []
include hn w1 w2 h1 h2 p0 p1
theorem qpa(m)(S)(k){pl:Z (J×D)}(K:rowAt S q0=Y (pl.map pD))(I:∀p∈pl,DF W H P p.2/\1<=p.1/\p.1<=400)(hl:pl.length<100):∃f,callD fns (m+4) 73 [scr ns,O k,szD W H P,q0] S=Y (f,S)/\DF W H P f:=by
 obtain⟨y,l,y1,y2⟩:=dr hn (m+2) S k 0 (many:=20) ?c ?c ?c;have d1:∀t,∀x∈dys pl t,1<=x/\x<=400:=λt x hx=>by
  obtain⟨p,d,rfl⟩:=dys_in hx;exact(I p d).2
 have dl:∀t,(((dys pl t).map D.int).length:J)=((dys pl t).length:J):=λt=>by simp
 have c1:=qfi (m+3) K (τ:=[Y (scr ns),Y (O k),Y ?w,Y q0,Y (O y),B,B,B]) ["vein"] (λp d=>(I p d).1) ?d rfl (λp h=>t_vein (m+3) _ p h);have c2:=qfi (m+3) K (τ:=[Y (scr ns),Y (O k),Y ?w,Y q0,Y (O y),Y (Yc ((dys pl ["vein"]).map O)),B,B]) ["stake","part"] (λp d=>(I p d).1) ?d rfl (λp h=>t_name (m+3) _ p h);generalize E:dys pl ["vein"]=vs at c1 c2;generalize F:dys pl ["stake","part"]=u at c2;have R:∀x∈vs,1<=x/\x<=400:=by rw[<- E]; exact d1 _
 have du:∀x∈u,1<=x/\x<=400:=by rw[<- F]; exact d1 _
 have gv:=qzv (st:=S) (nlI vs);have q:=qzv (st:=S) (nlI u);have Q:∀xs:Z J,xs=[]->((((xs.map D.int).length:Y0):J)==0)=true:=λxs h=>by rw[h]; rfl
 have C:∀xs:Z J,xs≠[]->((((xs.map D.int).length:Y0):J)==0)=false:=λxs h=>by
  rw[beq_eq_false_iff_ne];simpa using h
 obtain⟨N,hv,v⟩:=qmk hn w1 w2 h1 h2 p0 p1 m S k
 by_cases j:y<3
 ·exact⟨N,qzz 0 [61,66,69,70,71,72] 4 [Kc l,Kc c1,Kl gv,Kc c2,Kl q,Kb (Z6 j),Kc hv],v⟩
 ·by_cases tA:y<8/\vs=[]
  ·exact⟨N,qzz 0 [61,66,69,70,71,72] 4 [Kc l,Kc c1,Kl gv,Kc c2,Kl q,Kb (Z7 j),Kb (Z6 tA.1),Kb (Q vs tA.2),Kc hv],v⟩
  ·by_cases tB:y<5/\0<P
   ·have n:=λz=>tA ⟨?d,z⟩;have e:y<8:=by lia
    obtain⟨fl,hf,f1,f2⟩:=dr hn (m+2) S k 5 ?c ?c tB.2;obtain⟨a,ha,a1,a2⟩:=qyq hn (m+1) S k 1 ?c ?c R;obtain⟨b,hb,b1,b2⟩:=qyq hn (m+1) S k 3 ?c ?c R;exact⟨_,qzz (r:=(Y9 [sO "join",O a,O b,O (1+fl)],S)) 0 [61,66,69,70,71,72] 4 [Kc l,Kc c1,Kl gv,Kc c2,Kl q,Kb (Z7 j),Kb (Z6 e),Kb (C vs n),Kb (Z6 tB.1),Kb (Z6 tB.2),Kc hf,Kc ha,Kc hb],.join a1 a2 b1 b2 ?d ?d⟩
   ·obtain⟨o,w,o1,o2⟩:=qiu hn (m+1) S k 1 ?c ?c;obtain⟨g,A,x0,X,V,U,z1,z2⟩:=qny hn (m+1) S k 3 (W:=W) (H:=H) ?c ?c ?d ?d;have ds:DF W H P (Y9 ?D):=.stake o1 o2 x0 X V U z1 z2
    by_cases c:y<12
    ·by_cases e:y<8
     ·have n:=λz=>tA ⟨e,z⟩
      by_cases i:y<5
      ·have tp:=λz=>tB ⟨i,z⟩;exact⟨_,qzz 0 [61,66,69,70,71,72] 4 [Kc l,Kc c1,Kl gv,Kc c2,Kl q,Kb (Z7 j),Kb (Z6 e),Kb (C vs n),Kb (Z6 i),Kb (Z7 tp),Kb (Z6 c),Kc w,Kc A],ds⟩
      ·exact⟨_,qzz 0 [61,66,69,70,71,72] 4 [Kc l,Kc c1,Kl gv,Kc c2,Kl q,Kb (Z7 j),Kb (Z6 e),Kb (C vs n),Kb (Z7 i),Kb (Z6 c),Kc w,Kc A],ds⟩
     ·have i:¬ y<5:=by lia
      exact⟨_,qzz 0 [61,66,69,70,71,72] 4 [Kc l,Kc c1,Kl gv,Kc c2,Kl q,Kb (Z7 j),Kb (Z7 e),Kb (Z7 i),Kb (Z6 c),Kc w,Kc A],ds⟩
    ·have e:¬ y<8:=by lia
     have i:¬ y<5:=by lia
     by_cases tC:y<17/\u=[]
     ·exact⟨_,qzz 0 [61,66,69,70,71,72] 4 [Kc l,Kc c1,Kl gv,Kc c2,Kl q,Kb (Z7 j),Kb (Z7 e),Kb (Z7 i),Kb (Z7 c),Kb (Z6 tC.1),Kb (Q u tC.2),Kc w,Kc A],ds⟩
     ·obtain⟨f,hf,T⟩:=qio hn w1 w2 h1 h2 p0 p1 m S k (y - 12) ?d ?d du
      by_cases s:y<17
      ·have G:=λz=>tC ⟨s,z⟩;exact⟨f,qzz 0 [61,66,69,70,71,72] 4 [Kc l,Kc c1,Kl gv,Kc c2,Kl q,Kb (Z7 j),Kb (Z7 e),Kb (Z7 i),Kb (Z7 c),Kb (Z6 s),Kb (C u G),Kc hf],T⟩
      ·exact⟨f,qzz 0 [61,66,69,70,71,72] 4 [Kc l,Kc c1,Kl gv,Kc c2,Kl q,Kb (Z7 j),Kb (Z7 e),Kb (Z7 i),Kb (Z7 c),Kb (Z7 s),Kc hf],T⟩
end
theorem qev{ds:Z D}(P:Y0->Sl->Y1->Prop)(b:D->Y1->Prop)(a:∀i τ st,P i τ st->s.at st i=Y ds[i]?)(hs:∀i τ st d,ds[i]?=Y d->P i τ st->(∃τ' st',f τ st d=Y (.nx τ',st')/\P (i+1) τ' st')\/∃v st',f τ st d=Y (.rt v,st')/\b v st'):
  ∀(k i:Y0) (τ:Sl) (st:Y1),i+k=ds.length->P i τ st->(∃τ' st',loop s f (k+1) i τ st=Y (.nx τ',st')/\P ds.length τ' st')\/∃v st',loop s f (k+1) i τ st=Y (.rt v,st')/\b v st'
 |0,i,τ,st,h,p=>by
  have e:i=ds.length:=by lia
  subst e;refine .inl ⟨τ,st,?_,p⟩;rw[loop,a _ _ _ p];simp[Qzh (Qqw _)]
 |k+1,i,τ,st,h,p=>by
  have hi:i<ds.length:=by lia
  have h1:ds[i]?=Y ds[i]:=by simp
  rw[loop,a _ _ _ p,h1];simp only[oBs];rcases hs i τ st _ h1 p with⟨τ',st',e,q⟩|⟨v,st',e,q⟩
  ·rw[e]; exact qev P b a hs k (i+1) τ' st' ?d q
  ·rw[e]; exact .inr ⟨v,st',rfl,q⟩
def ql3{ds:Z D}(P:Y0->Sl->Y1->Prop)(g:D->Y1->Prop)(l:src (RL c) τ st it=Y (s,st))(j:s.size st=ds.length)(i:∀k τ' st',P k τ' st'->s.at st' k=Y ds[k]?)(m:P 0 τ st)(hs:∀k τ' st' d,ds[k]?=Y d->P k τ' st'->(∃f a,((setT t d τ').bind λb=>(RL c).ex b st' body)=Y (.nx f,a)/\P (k+1) f a)\/∃v a,((setT t d τ').bind λb=>(RL c).ex b st' body)=Y (.rt v,a)/\g v a):
  (∃τ' st',stepEx (RL c) τ st (.forr t it body)=Y (.nx τ',st')/\P ds.length τ' st')\/∃v st',stepEx (RL c) τ st (.forr t it body)=Y (.rt v,st')/\g v st':=by
 have e:∀x,loop s (λτ st d=>(setT t d τ).bind λτ'=>(RL c).ex τ' st body) (ds.length+1) 0 τ st=x->stepEx (RL c) τ st (.forr t it body)=x:=λx h=>by
  show(src (RL c) τ st it).bind _=_;rw[l];simp only[oBs];rw[j];exact h
 rcases qev P g i hs ds.length 0 τ st ?d m with⟨τ',st',q,p⟩|⟨v,st',q,p⟩
 ·exact .inl ⟨τ',st',e _ q,p⟩
 ·exact .inr ⟨v,st',e _ q,p⟩
def gS(x)(st:Y1)(h:noLoc x=L):noLoc x=L/\st.take st.length=st:=⟨h,Qzb⟩
abbrev sgD(gs:Z Cl):Z D:=gs.map λc=>.tup [.int c.nm,rD c.g]
def nl_sg(gs):noLocs (sgD gs)=true:=qzj λ_ _=>rfl
section
variable {p:Pl}{sz:D}{d:J}{fo jo:Z (D×D)}{ro:Z J}{S:Y1}{cs:Z Cl}
def qe4(m)(A:FA p sz d fo jo cs ro S)(hc:c∈cs):callD fns (m+3) 32 [Y3 p.a,O c.nm] S=Y (rD c.g,S):=
 qzz 0 [52] 3 [Kr A.hf,Kc (qih m A hc)]
abbrev stC(cs:Z Cl)(ro:Z J)(d:J):Z Cl:=ro.filterMap λn=>if stB cs d n then cs.find? λc=>c.nm==n else B
def qms(h:c∈stC cs ro d):c∈cs:=by
 obtain⟨n,_,e⟩:=Qxq.mp h
 split at e
 ·exact Qzw e
 ·cases e
def qk6:(stC cs ro d).length<=ro.length:=Qxg _ _
def stC_nm(a:∀n∈ro,∃c∈cs,c.nm=n):(stC cs ro d).map (·.nm)=ro.filter (stB cs d):=by
 unfold stC
 induction ro with
 |nil=>rfl
 |cons n r b=>
  have b:=b λx f=>a x (.tail _ f);rw[Qq5,Qzz];obtain⟨c,hc,e⟩:=a n (.head _)
  cases hb:stB cs d n with
  |false=>exact b
  |true=>
   cases hf:cs.find? λc=>c.nm==n with
   |none=>exact absurd (beq_iff_eq.mpr e) (Qxd.mp hf c hc)
   |some x=>
    have f:x.nm=n:=by simpa using Qz1 hf
    show x.nm::_=n::_;rw[b,f]
def sg_ok(m)(A:FA p sz d fo jo cs ro S)(nd:(cs.map (·.nm)).Nodup)(a:∀n∈ro,∃c∈cs,c.nm=n)(hl:ro.length<1000):callD fns (m+4) 36 [Y3 p.a] S=Y (Y3 S.length,S++[Y8 L (sgD (stC cs ro d))]):=by
 have hst:=qg4 m A nd a hl;rw[<- stC_nm a]at hst;have i:=qk6 (cs:=cs) (ro:=ro) (d:=d);have j:=λc (h:c∈stC cs ro d)=>qms h;generalize stC cs ro d=f at *;have g:(?q0).ev [Y (Y3 p.a)] S (.gc (.mcall 673 53 "standing" ?K []))=Y (.lst (rowD (f.map (·.nm))),S):=
  qzr 0 [53] 3 [Kr A.hf,Kc hst,Kl (qzv (st:=S) (nlI (f.map (·.nm))))]
 have hc:=qxd (it:=.gc (.mcall 673 53 "standing" ?K [])) (elt:=.tup [.var 0,.call 32 [.var 1,.var 0]]) (sr:=[B,Y 0]) (es:=sgD f)
  (by show((?q0).ev _ _ _).bind _=_; rw[g]; rfl) (qz9 rfl) (qzh rfl) rfl (by unfold sgD; simp) ?l λk x e hd b=>by
   have hd:((f.map (·.nm)).map D.int)[k]?=Y x:=hd;rw[Qqp,Qqv]at hd;unfold sgD at b;rw[Qqv]at b;obtain⟨c,h1,rfl⟩:=Qqy.mp hd;rw[h1]at b;cases b;exact qzr 0 [32] 3 [Kc (qe4 m A (j c (Qqn h1)))]
 exact qzz 0 [] 4 [Kc hc]
end
abbrev ing(W H P x y z:J):Bool:=(decide (0<=x)&&decide (x<W))&&((decide (0<=y)&&decide (y<H))&&(decide (0<=z)&&decide (z<=P)))
def qe0(m)(st)(W H P x y z):callD fns (m+1) 13 [szD W H P,Y9 ?qq] st=Y (.bl (ing W H P x y z),st):=by
 unfold ing
 by_cases h1:0<=x
 ·by_cases h2:x<W
  ·by_cases a:0<=y
   ·by_cases b:y<H
    ·by_cases c:0<=z
     ·rw[Z6 h1,Z6 h2,Z6 a,Z6 b,Z6 c];have e:((L&&L)&&((L&&L)&&(L&&decide (z<=P))))=decide (z<=P):=by cases decide (z<=P)<;>rfl
      rw[e];exact qzz 0 [] 1 [Kb (Z6 h1),Kb (Z6 h2),Kb (Z6 a),Kb (Z6 b),Kb (Z6 c),Kb (show decide (z<=P)=decide (z<=P) from rfl)]
     ·rw[Z6 h1,Z6 h2,Z6 a,Z6 b,Z7 c];exact qzz 0 [] 1 [Kb (Z6 h1),Kb (Z6 h2),Kb (Z6 a),Kb (Z6 b),Kb (Z7 c)]
    ·rw[Z6 h1,Z6 h2,Z6 a,Z7 b];exact qzz 0 [] 1 [Kb (Z6 h1),Kb (Z6 h2),Kb (Z6 a),Kb (Z7 b)]
   ·rw[Z6 h1,Z6 h2,Z7 a];exact qzz 0 [] 1 [Kb (Z6 h1),Kb (Z6 h2),Kb (Z7 a)]
  ·rw[Z6 h1,Z7 h2];exact qzz 0 [] 1 [Kb (Z6 h1),Kb (Z7 h2)]
 ·rw[Z7 h1];exact qzz 0 [] 1 [Kb (Z7 h1)]
noncomputable abbrev mvD:D:=.tup [.tup [.int 0,.int 0],.tup [.int 1,.int 0],.tup [.int (-1),.int 0],.tup [.int 0,.int 1],.tup [.int 0,.int (-1)]]
noncomputable abbrev clB:Z M.S:=[.set ?qk (.bin .Sub ?qk (.idx (.idx (.glo "MOVES" mvD) (.var 5)) (.lit (.int 0)))),.set (.var 4) (.bin .Sub (.var 4) (.idx (.idx (.glo "MOVES" mvD) (.var 5)) ?qx)),.ite (.not (.call 13 [.var 0,.tup [.var 3,.var 4,.lit (.int 0)]])) [.ret (.lit .non)] []]
abbrev mvX:J->J×J
 |1=>(1,0)
 |2=>(-1,0)
 |3=>(0,1)
 |4=>(0,-1)
 |_=>(0,0)
abbrev stp(W H P x y s:J):Y2 (J×J):=if ing W H P (x - (mvX s).1) (y - (mvX s).2) 0 then Y (x - (mvX s).1,y - (mvX s).2) else B
def clb_ok(m)(st)(e:0<=s)(d:s<=4)(u v):(?I).ex [Y ?w,Y u,Y v,Y (O x),Y (O y),Y (O s)] st clB=Y (match stp W H P x y s with|some q=>.nx [Y ?w,Y u,Y v,Y (O q.1),Y (O q.2),Y (O s)]|none=>.rt .non,st):=by
 have b:∀s:J,atI [D.tup [O 0,O 0],Y9 [O 1,O 0],Y9 [O (-1),O 0],Y9 [O 0,O 1],Y9 [O 0,O (-1)]] s=Y (Y9 [O (mvX s).1,O (mvX s).2])->(?I).ex [Y ?w,Y u,Y v,Y (O x),Y (O y),Y (O s)] st clB=Y (match stp W H P x y s with|some q=>.nx [Y ?w,Y u,Y v,Y (O q.1),Y (O q.2),Y (O s)]|none=>.rt .non,st):=λs hi=>by
  unfold stp;generalize mvX s=q at hi ⊢;obtain⟨dx,c⟩:=q;have a:=qe0 m st W H P (x - dx) (y - c) 0;dsimp only at hi ⊢
  cases hb:ing W H P (x - dx) (y - c) 0 with
  |true=>
   rw[hb]at a;exact qzp 0 [13] 1 [Ki hi,Kn,Ki hi,Kn,Kc a]
  |false=>
   rw[hb]at a;exact qzp 0 [13] 1 [Ki hi,Kn,Ki hi,Kn,Kc a]
 have hc:s=0\/s=1\/s=2\/s=3\/s=4:=by lia
 rcases hc with rfl|rfl|rfl|rfl|rfl<;>exact b _ rfl
abbrev cO:Y2 (J×J)->D
 |some p=>cD p
 |none=>.non
abbrev clm(W H P:J):J->J->Z J->Y2 (J×J)
 |x,y,[]=>Y (x,y)
 |x,y,s::r=>(stp W H P x y s).bind λq=>clm W H P q.1 q.2 r
theorem qes{Q:J->Prop}:∀{l:Z D},(∀q∈l,∃s,q=O s/\Q s)->∃Lq:Z J,l=Lq.map O/\∀s∈Lq,Q s
 |[],_=>⟨[],rfl,Qq4 _⟩
 |d::r,h=>by
  obtain⟨s,rfl,hs⟩:=h _ (.head _);obtain⟨Lq,rfl,hL⟩:=qes λq a=>h q (.tail _ a);exact⟨s::Lq,rfl,Qjy.mpr ⟨hs,hL⟩⟩
abbrev toI:Z D->Z J
 |[]=>[]
 |.int i::r=>i::toI r
 |_::r=>toI r
theorem qw4:∀l:Z J,toI (l.map O)=l
 |[]=>rfl
 |i::r=>congrArg (i::·) (qw4 r)
abbrev clO(W H P x y z:J)(ss:Z J):Y2 (J×J):=clm W H P x y (toI (cut (ss.map .int) B (Y z))).reverse
def qig(hs:∀s∈ss,0<=s/\s<=4):∀m st,callD fns (m+2) 29 [szD W H P,.tup ?H,.tup ?qq] st=Y (cO (clO W H P x y z ss),st):=by
 obtain⟨Lq,j,hL⟩:=qes (l:=cut (ss.map D.int) B (Y z)) (Q:=λs=>0<=s/\s<=4) λq g=>by
  unfold cut at g;obtain⟨s,h1,rfl⟩:=Qqj.mp (List.mem_of_mem_drop (List.mem_of_mem_take g));exact⟨s,rfl,hs s h1⟩
 have u:clO W H P x y z ss=clm W H P x y Lq.reverse:=by unfold clO; rw[j,qw4]
 rw[u];intro m st;have i:(?I).ev [Y ?w,Y (.tup ?H),Y (.tup ?qq),Y (O x),Y (O y),B] st (.sli ?qn B (Y (.idx (.var 2) (.lit (O 2)))))=Y (.tup (cut ?H B (Y z)),st):=qzr 0 [] 1 [];generalize p:Lq.reverse=R;have o:∀s∈R,0<=s/\s<=4:=λs h=>hL s (by rw[<- p]at h; exact List.mem_reverse.mp h);have f:(cut (ss.map D.int) B (Y z)).reverse=R.map O:=by rw[j,<- List.map_reverse,p]
 generalize cut (ss.map D.int) B (Y z)=n at i f;rcases ql3 (it:=.rev (.sli ?qn B (Y (.idx (.var 2) (.lit (O 2)))))) (t:=.var 5) (ds:=R.map O)
  (λk τ' st'=>∃d c a,clm W H P x y R=clm W H P d c (R.drop k)/\τ'=[Y ?w,Y (.tup ?H),Y (.tup ?qq),Y (O d),Y (O c),a]/\st'=st) (λv st'=>clm W H P x y R=B/\v=.non/\st'=st)
  (by show((?I).ev _ _ _).bind _=_; rw[i]; rfl) (by rw[<- f,List.length_reverse]; rfl) (λk τ' st' _=>by
   rw[<- f];show Y (if k<n.length then n[n.length - 1 - k]? else B)=_
   by_cases hk:k<n.length
   ·rw[Z9 hk,List.getElem?_reverse hk]
   ·rw[Z8 hk,Qzh (by rw[List.length_reverse]; lia)]) ⟨_,_,_,rfl,rfl,rfl⟩ (λk τ' st' q g h=>by
   obtain⟨d,c,a,b,rfl,rfl⟩:=h;rw[Qqv]at g;obtain⟨s,hs,rfl⟩:=Qqy.mp g;obtain⟨hk,hs⟩:=Qqk.mp hs;have r:=o s (hs▸Qxn hk);rw[Qx1 hk,hs]at b;have e:=clb_ok m st' r.1 r.2 (.tup ?H) (.tup ?qq) (W:=W) (H:=H) (P:=P) (x:=d) (y:=c);have b:clm W H P x y R=(stp W H P d c s).bind λq=>clm W H P q.1 q.2 (R.drop (k+1)):=b
   cases hb:stp W H P d c s with
   |some q=>
    rw[hb]at b e;exact .inl ⟨_,_,e,q.1,q.2,_,b,rfl,rfl⟩
   |none=>
    rw[hb]at b e
    exact .inr ⟨_,_,e,b,rfl,rfl⟩) with⟨τ',st',e,d,c,a,b,rfl,rfl⟩|⟨v,st',e,b,rfl,rfl⟩
 ·rw[Qqz,Qkd]at b;rw[b];exact qzz 0 [] 2 [Kn,Kn,Ks e]
 ·rw[b];exact qzz 0 [] 2 [Kn,Kn,Ks e]
theorem qe9{g:D->Y2 D}{Q:J->Prop}:∀{ds:Z D},(∀d∈ds,∀x,g d=Y x->∃i,x=O i/\Q i)->∃ys:Z J,ds.filterMap g=ys.map O/\ys.length<=ds.length/\∀y∈ys,Q y
 |[],_=>⟨[],rfl,Qqw _,Qq4 _⟩
 |d::r,h=>by
  obtain⟨ys,e,l,q⟩:=qe9 λx b=>h x (.tail _ b);rw[Qq5,e]
  cases c:g d with
  |none=>exact⟨ys,rfl,Nat.le_succ_of_le l,q⟩
  |some x=>
   obtain⟨i,rfl,hi⟩:=h d (.head _) x c
   exact⟨i::ys,rfl,Qjm l,λy a=>by
    rcases Qqc.mp a with rfl|a
    ·exact hi
    ·exact q y a⟩
def VsOk(vs:Z (J×D×Z (J×J))):Prop:=∀v∈vs,(∃ss:Z J,v.2.1=.tup (ss.map .int)/\(∀s∈ss,0<=s/\s<=4)/\ss.length<1000)/\v.2.2.length<=16
abbrev enW(w:D):D->Y2 D
 |.tup [.int i,x]=>if eqT x w then Y (.int i) else B
 |_=>B
abbrev ltW(n:Y0):D->Y2 D
 |.int i=>if decide (i<(n:J)) then Y (.int i) else B
 |_=>B
abbrev nmW(v:J×D×Z (J×J)):Z D:=v.2.2.zipIdx.map λp=>D.tup [.int (p.2:J),cD p.1]
abbrev stI:D->Z J
 |.tup ss=>toI ss
 |_=>[]
abbrev ownC(W H P x y z:J)(v:J×D×Z (J×J)):Z Int:=toI ((nmW v).filterMap (enW (cO (clO W H P x y z (stI v.2.1)))))
abbrev mtC(W H P x y z:J)(jo:Z (D×D))(v:J×D×Z (J×J))(xs:Z J):Z Int:=match dget jo (.int v.1) with
 |some (.tup [.int _,.int f])=>if f<=z then toI ((xs.map .int).filterMap (ltW (?qr).length)) else ownC W H P x y z v
 |_=>ownC W H P x y z v
section
variable {p:Pl}{d:J}{jo:Z (D×D)}{S:Y1}{vs:Z (J×D×Z (J×J))}
noncomputable abbrev vD(v:J×D×Z (J×J)):D:=.tup [v.2.1,.tup ?qr]
def qk3(m)(A:FV p sz d ?qg jo S)(a:(vs.map (·.1)).Nodup)(hv:v∈vs):callD fns (m+1) 50 [Y3 p.a,O v.1] S=Y (vD v,S):=by
 have h:=qys hv a;exact qzz 0 [] 1 [Kr A.hf,Kr A.hv,Kq h,Kr A.hf,Kr A.hv,Kq h]
def qar(m)(A:FV p sz d ?qg jo S)(a:(vs.map (·.1)).Nodup)(hv:v∈vs):callD fns (m+1) 51 [Y3 p.a,O v.1] S=Y ((dget jo (O v.1)).getD .non,S):=by
 have h:=qys hv a;exact qzz 0 [] 1 [Kr A.hf,Kr A.hv,Kq h,Kr A.hf,Kr A.hj,Kr A.hj,Kq (show dget jo (O v.1)=dget jo (O v.1) from rfl)]
def met_ok(r:(vs.map (·.1)).Nodup)(hv:v∈vs)(hV:VsOk vs)(a3:xs.length<=16)(T:∀x∈xs,0<=x)(hj:dget jo (O v.1)=B\/∃b f,dget jo (O v.1)=Y (.tup [O b,O f])):
  (∀(m:Y0) (p:Pl) (S:Y1),FV p ?w d ?qg jo S->∀j kvs,S[j]?=Y (.dic L kvs)->(∀b f,dget jo (O v.1)=Y (.tup [O b,O f])->∃l,dget kvs (O b)=Y (Y3 l)/\S[l]?=Y (Y8 L (xs.map O)))->callD fns (m+3) 30 [Y3 p.a,O v.1,.tup ?qq,Y3 j] S=Y (Y3 S.length,S++[Y8 L ((mtC W H P x y z jo v xs).map O)]))/\(mtC W H P x y z jo v xs).length<=16/\∀u∈mtC W H P x y z jo v xs,0<=u/\u<(v.2.2.length:J):=by
 obtain⟨⟨ss,es,V,_⟩,a2⟩:=hV v hv;have hc:=qig (W:=W) (H:=H) (P:=P) (x:=x) (y:=y) (z:=z) V;have I:ownC W H P x y z v=toI ((nmW v).filterMap (enW (cO (clO W H P x y z ss)))):=by unfold ownC stI; rw[es]; show toI ((nmW v).filterMap (enW (cO (clO W H P x y z (toI ?H)))))=_; rw[qw4]
 generalize clO W H P x y z ss=o at hc I;generalize hw:cO o=w at hc I;have U:∀(m:Y0) (p:J×J) (S:Y1) (n:Y0),(?qo).tst [Y (O n),Y (cD p),Y w] S (.cmp .Eq ?qn (.var 2))=Y (eqT (cD p) w,S):=λm p S n=>by
  subst hw
  cases o with
  |none=>exact qzm 0 [] 2 []
  |some q=>exact qzm 0 [] 2 []
 obtain⟨ys,e,l,q⟩:=qe9 (g:=enW w) (Q:=λy=>0<=y/\y<(v.2.2.length:J)) (ds:=v.2.2.zipIdx.map λp=>D.tup [O (p.2:J),cD p.1]) (λx K u c=>by
  obtain⟨p,hp,rfl⟩:=Qqj.mp K;have hi:=List.snd_lt_of_mem_zipIdx hp;have c:(if eqT (cD p.1) w then Y (D.int (p.2:J)) else B)=Y u:=c
  split at c
  ·cases c; exact⟨_,rfl,?d,?d⟩
  ·cases c)
 rw[Qqz,Qje]at l;have I:ownC W H P x y z v=ys:=I.trans ((congrArg toI e).trans (qw4 ys));have own:∀(m:Y0) (S:Y1) (a j:Y0) (k:D),stepEv ?qo [Y (Y3 a),Y (O v.1),Y (.tup ?qq),Y (Y3 j),Y (vD v),Y k,Y w] S (.comp (.tup [0,1]) (.enu (.idx (.var 4) (.lit (O 1)))) (Y (.cmp .Eq ?qn (.var 2))) ?K [B,B,Y 6])=Y (Y3 S.length,S++[Y8 L (ys.map O)]):=λm S a j k=>by
  have F:(?qo).ev [Y (Y3 a),Y (O v.1),Y (.tup ?qq),Y (Y3 j),Y (vD v),Y k,Y w] S (.idx (.var 4) (.lit (O 1)))=Y (.tup ?qr,S):=qzr 0 [] 2 [];have a1:∀i:Y0,((v.2.2.zipIdx.map λp=>D.tup [O (p.2:J),cD p.1])[i]?)=(?qr[i]?).map λx=>D.tup [O i,x]:=λi=>by
   rw[Qqv,List.getElem?_zipIdx,Qqv]
   cases v.2.2[i]? with
   |none=>rfl
   |some p=>show Y (D.tup [O ((0+i:Y0):J),cD p])=_; rw[Qz3]; rfl
  have h:=qqq (t:=.tup [0,1]) (it:=.enu (.idx (.var 4) (.lit (O 1)))) (elt:=.var 0) (sr:=[B,B,Y 6]) (enW w) (λτ=>∃a b,τ=[a,b,Y w])
   (by show((?qo).ev _ _ _).bind _=_; rw[F]; rfl) (λi=>by rw[a1]; rfl) (by rw[Qqz,Qje]; show (?qr).length=_; rw[Qqz]) (by rw[Qqz,Qje]; unfold lim; lia) ⟨B,B,rfl⟩ (λτ x K C=>by
    obtain⟨a,b,rfl⟩:=C;obtain⟨p,hp,rfl⟩:=Qqj.mp K
    exact⟨[Y (O (p.2:J)),Y (cD p.1),Y w],turn_if rfl (U m p.1 S p.2) λ_=>qqx _ _ _ _ _ rfl,_,_,rfl⟩)
  rw[e]at h;exact h
 have N:∀k:D,(dget jo (O v.1)).getD .non=k->(isNon k=L\/∃b f,k=.tup [O b,O f]/\¬ f<=z)->∀(m:Y0) (p:Pl) (S:Y1),FV p ?w d ?qg jo S->∀j,callD fns (m+3) 30 [Y3 p.a,O v.1,.tup ?qq,Y3 j] S=Y (Y3 S.length,S++[Y8 L (ys.map O)]):=λk hn h2 m p S A j=>by
  have G:=qk3 (m+1) A r hv;have h1:=qar (m+1) A r hv;rw[hn]at h1;have hc:=hc m S;have e:=own m S p.a j k;unfold vD at G e;rw[es]at G e;rcases h2 with h2|⟨b,f,rfl,h2⟩
  ·exact qzz 0 [50,51,29] 3 [Kr A.hf,Kc G,Kr A.hf,Kc h1,Kb (show(!isNon k)=Y6 by rw[h2]; rfl),Kr A.hf,Kr A.hf,Kc hc,Kc e]
  ·exact qzz 0 [50,51,29] 3 [Kr A.hf,Kc G,Kr A.hf,Kc h1,Kk,Kb (Z7 h2),Kr A.hf,Kr A.hf,Kc hc,Kc e]
 rcases hj with hj|⟨b,f,hj⟩
 ·have R:mtC W H P x y z jo v xs=ys:=by unfold mtC; rw[hj]; exact I
  rw[R];exact⟨λm p S A j kvs _ _=>N .non (by rw[hj]; rfl) ?qu m p S A j,?d,q⟩
 ·by_cases hf:f<=z
  ·obtain⟨ys,e,le,q⟩:=qe9 (g:=ltW (?qr).length) (Q:=λy=>0<=y/\y<(v.2.2.length:J)) (ds:=xs.map O) (λx K u c=>by
    obtain⟨i,hi,rfl⟩:=Qqj.mp K;have c:(if decide (i<((?qr).length:J)) then Y (D.int i) else B)=Y u:=c
    split at c
    ·rename_i X;cases c;have:=of_decide_eq_true X;rw[Qqz]at this;exact⟨_,rfl,T i hi,this⟩
    ·cases c)
   rw[Qqz]at le;have R:mtC W H P x y z jo v xs=ys:=by unfold mtC; rw[hj]; exact(Z9 hf).trans ((congrArg toI e).trans (qw4 ys))
   rw[R];refine⟨λm p S A j kvs hk a0=>?_,?d,q⟩;obtain⟨l,hb,hl⟩:=a0 b f hj;have G:=qk3 (m+1) A r hv;have hjn:=qar (m+1) A r hv;rw[hj]at hjn;have E:listAt S l=Y (xs.map O):=by unfold listAt; rw[hl]
   have F:(?qo).ev [Y (Y3 p.a),Y (O v.1),Y (.tup ?qq),Y (Y3 j),Y (vD v),Y (.tup [O b,O f]),B] S (.didx ?qk (.idx (.var 5) (.lit (O 0))))=Y (Y3 l,S):=
    qzr 0 [] 2 [Kn,Kr hk,Kq hb]
   have h:=qqq (t:=.var 0) (it:=.didx ?qk (.idx (.var 5) (.lit (O 0)))) (test:=Y (.cmp .Lt ?K (.bcall .len [.idx ?qn (.lit (O 1))]))) (elt:=.var 0) (sr:=[B,Y 4]) (s:=.lst (Y3 l)) (ltW (?qr).length) (λτ=>∃a,τ=[a,Y (vD v)])
    (by show((?qo).ev _ _ _).bind _=_; rw[F]; show(listAt S l).map _=_; rw[E]; rfl) (qz9 E) (qzh E) ?k ⟨B,rfl⟩ (λτ u c C=>by
     obtain⟨a,rfl⟩:=C;obtain⟨i,hi,rfl⟩:=Qqj.mp c
     exact⟨[Y (O i),Y (vD v)],turn_if rfl (qzm 0 [] 2 [Kb (show decide (i<((?qr).length:J))=decide (i<((?qr).length:J)) from rfl)]) λ_=>qqx _ _ _ _ _ rfl,_,rfl⟩)
   rw[e]at h;exact qzz 0 [50,51,29] 3 [Kr A.hf,Kc G,Kr A.hf,Kc hjn,Kk,Kb (Z6 hf),Kc h]
  ·have R:mtC W H P x y z jo v xs=ys:=by unfold mtC; rw[hj]; exact(Z8 hf).trans I
   rw[R];exact⟨λm p S A j kvs _ _=>N _ (by rw[hj]; rfl) (.inr ⟨b,f,rfl,hf⟩) m p S A j,?d,q⟩
end
abbrev metD:Y0->Z J->Z (D×D)
 |_,[]=>[]
 |Bq,a::r=>(.int a,.loc Bq)::metD (Bq+1) r
theorem qae(a):∀(r:Z J) (Bq:Y0),metD Bq (r++[a])=metD Bq r++[(O a,Y3 (Bq+r.length))]
 |[],Bq=>rfl
 |x::r,Bq=>by
  show(D.int x,D.loc Bq)::metD (Bq+1) (r++[a])=_;rw[qae a r,Qqm,show Bq+1+r.length=Bq+(r.length+1) by lia]
  rfl
theorem qyw:∀{r}{Bq i},r.Nodup->r[i]?=Y n->dget (metD Bq r) (O n)=Y (Y3 (Bq+i))
 |x::r,Bq,i,hn,hi=>by
  unfold dget;show Option.map _ (match (x==n) with|true=>_|false=>_)=_;rw[Qzj]at hn
  cases i with
  |zero=>cases hi; rw[beq_self_eq_true]; rfl
  |succ i=>
   have hi:=hi;have a:x≠n:=λe=>hn.1 (by rw[e]; exact Qqn hi);rw[beq_false_of_ne a];have:=qyw (Bq:=Bq+1) hn.2 hi;rw[show Bq+1+i=Bq+(i+1) by lia]at this;exact this
theorem qeq:∀(r:Z J) (Bq:Y0),(metD Bq r).length=r.length
 |[],_=>rfl
 |_::r,Bq=>congrArg (· + 1) (qeq r (Bq+1))
theorem qex:∀{r}{Bq},p∈metD Bq r->∃x∈r,p.1=O x
 |a::r,Bq,h=>by
  rcases Qqc.mp h with rfl|h
  ·exact⟨a,.head _,rfl⟩
  ·obtain⟨x,b,e⟩:=qex h;exact⟨x,.tail _ b,e⟩
theorem set0{a:Ya}:∀{R},(R++a::b::ls).set R.length a'=R++a'::b::ls
 |[]=>rfl
 |x::r=>congrArg (x::·) (set0)
theorem set1{a:Ya}:∀{R},(R++a::b::ls).set (R.length+1) b'=R++a::b'::ls
 |[]=>rfl
 |x::r=>congrArg (x::·) (set1)
theorem get0(i):∀{R:Y1},(R++ls)[R.length+i]?=ls[i]?
 |[]=>by rw[Qja,Qj1,Qz3]
 |x::r=>by
  rw[Qqm,show r.length+1+i=(r.length+i)+1 by lia];exact get0 i
def qpk(h:ex[i]?=Y (Y8 L ds))(hn:noLocs ds=L):gcD st (Y3 (st.length+i),st++ex)=(Yc ds,st):=by
 rw[gc_x ?g];unfold gcX;rw[Z8 (by simp[noLoc])];simp only[Qjn,if_true,get0,h,hn];simp
def CoI(vs:Z (J×D×Z (J×J)))(pr:Z (J×J)):Prop:=∀p∈pr,∃v∈vs,v.1=p.1/\0<=p.2/\p.2<(v.2.2.length:J)
noncomputable abbrev ysC(ys:Z J):Ya:=.lst L (ys.map .int)
def JoI(vs:Z (J×D×Z (J×J)))(jo:Z (D×D)):Prop:=∀p∈jo,∃a b f:J,p=(.int a,.tup [.int b,.int f])/\b<a/\b∈vs.map (·.1)
def jo_get(d:JoI vs jo)(h:dget jo (O a)=Y x):∃b f:J,x=Y9 [O b,O f]/\b<a/\b∈vs.map (·.1):=by
 unfold dget at h;obtain⟨p,c,rfl⟩:=Qqy.mp h;obtain⟨g,b,f,rfl,h1,h2⟩:=d p (Qzw c);have e:=Qz1 c;have e:=e;cases beq_iff_eq.mp e;exact⟨b,f,rfl,h1,h2⟩
section
noncomputable abbrev coB:Z M.S:=[.dset (.var 2) (.var 4) (.call 30 [.var 0,.var 4,.var 1,.var 2]),.expr (.meth ?qk .extend [.gc (.comp ?K (.didx (.var 2) (.var 4)) B (.tup [.var 1,.var 0]) [B,Y 4])])]
noncomputable abbrev coX(S:Y1)(vs:Z (J×D×Z (J×J)))(k:Y0)(s:Z (J×J)×Z (Z J)):Y1:=S++.dic L (metD ?q1 ((vs.take k).map (·.1)))::.lst L (s.1.map cD)::s.2.map ysC
theorem chain{S:Type}{I:Y0->S->Prop}{R:Y0->S->S->Prop}{s0:S}(a:I 0 s0):∀n:Y0,(∀k s,k<n->I k s->∃s',I (k+1) s'/\R k s s')->∃f:Y0->S,f 0=s0/\(∀k,k<=n->I k (f k))/\∀k,k<n->R k (f k) (f (k+1))
 |0,_=>⟨λ_=>s0,rfl,λk hk=>by cases Nat.le_zero.mp hk; exact a,λk hk=>absurd hk (Nat.not_lt_zero k)⟩
 |n+1,h=>by
  obtain⟨f,e,hi,hr⟩:=chain a n λk s hk=>h k s (Qjx hk);obtain⟨s',h1,h2⟩:=h n (f n) (Qzp n) (hi n (Qqw n));refine⟨λk=>if k<=n then f k else s',(Z9 (Qzg n)).trans e,λk hk=>?_,λk hk=>?_⟩<;>dsimp only
  ·by_cases c:k<=n
   ·rw[Z9 c]; exact hi k c
   ·rw[Z8 c,show k=n+1 by lia]; exact h1
  ·rw[Z9 (Qxi hk)]
   by_cases c:k+1<=n
   ·rw[Z9 c]; exact hr k c
   ·rw[Z8 c,show k=n by lia]; exact h2
abbrev lkM(acc:Z (J×Z J))(b:J):Z Int:=((acc.find? λp=>p.1==b).map (·.2)).getD []
abbrev jnN(jo:Z (D×D))(n:J):Int:=match dget jo (.int n) with
 |some (.tup [.int b,.int _])=>b
 |_=>0
abbrev mtM(W H P x y z:J)(jo:Z (D×D))(vs:Z (J×D×Z (J×J))):Z (J×Z J):=vs.foldl (λacc v=>acc++[(v.1,mtC W H P x y z jo v (lkM acc (jnN jo v.1)))]) []
abbrev prM(acc:Z (J×Z J)):Z (J×J):=acc.flatMap λp=>p.2.map λi=>(p.1,i)
def qjw(W H P x y z)(jo)(vs)(v):mtM W H P x y z jo (vs++[v])=mtM W H P x y z jo vs++[(v.1,mtC W H P x y z jo v (lkM (mtM W H P x y z jo vs) (jnN jo v.1)))]:=by
 unfold mtM;rw[Qxv]
 rfl
def qle(W H P x y z)(jo)(vs):(mtM W H P x y z jo vs).map (·.1)=vs.map (·.1):=by
 have:∀(vs:Z (J×D×Z (J×J))) a,(vs.foldl (λa v=>a++[(v.1,mtC W H P x y z jo v (lkM a (jnN jo v.1)))]) a).map (·.1)=a.map (·.1)++vs.map (·.1):=λvs=>by
  induction vs with
  |nil=>intro a; exact(Qqs _).symm
  |cons v r b=>intro a; rw[Qki,b,Qqg,Qqo]; rfl
 exact this vs []
def lk_at:∀{i:Y0},(a.map (·.1)).Nodup->(a.map (·.1))[i]?=Y b->(a.map (·.2))[i]?=Y xs->lkM a b=xs:=by
 induction a with
 |nil=>intro i _ h; cases h
 |cons p r c=>
  intro i nd h1 h2;rw[Qqd,Qzj]at nd;unfold lkM;rw[Qq2]
  cases i with
  |zero=>cases h1; cases h2; rw[beq_self_eq_true]; rfl
  |succ i=>
   have h1:(r.map (·.1))[i]?=Y b:=h1;have f:p.1≠b:=λe=>nd.1 (by rw[e]; exact Qqn h1);rw[beq_false_of_ne f];exact c nd.2 h1 h2
noncomputable abbrev coT(a n:Y0)(x y z:J)(o:Y2 D):Sl:=[Y (.loc a),Y (.tup [.int x,.int y,.int z]),Y (.loc n),Y (.loc (n+1)),o]
def qpp(V:(vs.map (·.1)).Pairwise (· < ·))(c6:vs.length<60)(hV:VsOk vs)(Jq:JoI vs jo){x y z:J}(b6:ing W H P x y z=L):
  CoI vs (prM (mtM W H P x y z jo vs))/\(prM (mtM W H P x y z jo vs)).length<=16*vs.length/\∀(m:Y0) (p:Pl) (S:Y1),FV p ?w d ?qg jo S->∃ex:Y1,callD fns (m+4) 31 [Y3 p.a,.tup ?qq] S=Y (Y3 (S.length+1),S++ex)/\ex[1]?=Y (Y8 L ((prM (mtM W H P x y z jo vs)).map cD)):=by
 have K:(vs.map (·.1)).Nodup:=V.imp λh=>by lia
 have keys:keysOf ?qg=vs.map λv=>D.int v.1:=by unfold keysOf voD; rw[Qqp]; rfl
 obtain⟨F,c5,c4,c3⟩:=chain (S:=Z (J×J)×Z (Z J)) (I:=λk s=>s.2.length=k/\(∀ys∈s.2,ys.length<=16/\∀u∈ys,0<=u)/\CoI vs s.1/\s.1.length<=16*k/\s.2=(mtM W H P x y z jo (vs.take k)).map (·.2)/\s.1=prM (mtM W H P x y z jo (vs.take k)))
  (R:=λk s s'=>∀v,vs[k]?=Y v->∀(m:Y0) (p:Pl) (S:Y1),FV p ?w d ?qg jo S->∀o:Y2 D,((setT (.var 4) (O v.1) (coT p.a S.length x y z o)).bind λa6=>(?q0).ex a6 (coX S vs k s) coB)=Y (.nx (coT p.a S.length x y z (Y (O v.1))),coX S vs (k+1) s')) (s0:=([],[])) ⟨rfl,Qq4 _,Qq4 _,Qqw _,rfl,rfl⟩ vs.length λk s l h=>by
  obtain⟨pr,j⟩:=s;obtain⟨h4,U,h6,h7,h8,h9⟩:=h;dsimp only at h4 U h6 h7 h8 h9;obtain⟨v,hv⟩:∃v,vs[k]?=Y v:=⟨_,Qqb l⟩
  have a0:=Qqn hv;have tk:(vs.take (k+1)).map (·.1)=(vs.take k).map (·.1)++[v.1]:=by rw[Qjf,hv,Qqg]; rfl
  have a7:vs.take (k+1)=vs.take k++[v]:=by rw[Qjf,hv]; rfl
  have nk:=(List.Sublist.map (·.1) (Qxu k vs)).nodup K;have n:=(List.Sublist.map (·.1) (Qxu (k+1) vs)).nodup K;have E:=qle W H P x y z jo (vs.take k);generalize Q:(vs.take k).map (·.1)=ns at nk n tk E;have nl:ns.length=k:=by rw[<- Q,Qqz,Qzy]; lia
  have a9:∃xs:Z J,xs.length<=16/\(∀x∈xs,0<=x)/\(dget jo (O v.1)=B\/∃b f,dget jo (O v.1)=Y (.tup [O b,O f]))/\(dget jo (O v.1)=B->xs=[])/\∀b f,dget jo (O v.1)=Y (.tup [O b,O f])->(∃i:Y0,ns[i]?=Y b/\j[i]?=Y xs)/\lkM (mtM W H P x y z jo (vs.take k)) (jnN jo v.1)=xs:=by
   cases hj:dget jo (O v.1) with
   |none=>exact⟨[],Qzg _,Qq4 _,.inl rfl,λ_=>rfl,λb f e=>by cases e⟩
   |some u=>
    obtain⟨b,f,rfl,hb,c1⟩:=jo_get Jq hj;obtain⟨vb,b4,rfl⟩:=Qqj.mp c1;obtain⟨i,hi⟩:=List.mem_iff_getElem?.mp b4;have b7:=(Qqk.mp hi).1;have b8:i<k:=by
     by_cases c:i<k
     ·exact c
     ·exfalso;have b0:(vs.map (·.1))[k]?=Y v.1:=by rw[Qqv,hv]; rfl
      have b3:(vs.map (·.1))[i]?=Y vb.1:=by rw[Qqv,hi]; rfl
      obtain⟨_,e1⟩:=Qqk.mp b0;obtain⟨_,e2⟩:=Qqk.mp b3
      by_cases e:i=k
      ·subst e; rw[e1]at e2; lia
      ·have:=Qxe.mp V k i (by simpa using l) (by simpa using b7) ?d;rw[e1,e2]at this
       lia
    have C:ns[i]?=Y vb.1:=by rw[<- Q,Qqv,Qka b8,hi]; rfl
    have G:i<j.length:=by lia
    have U:=U _ (Qxn G)
    exact⟨j[i],U.1,U.2,.inr ⟨_,_,rfl⟩,nofun,λb f e=>by
     cases e;refine⟨⟨i,C,Qqb G⟩,?_⟩;have ej:jnN jo v.1=vb.1:=by unfold jnN; rw[hj]
     rw[ej]
     exact lk_at (i:=i) (by rw[E]; exact nk) (by rw[E]; exact C) (by rw[<- h8]; exact Qqb G)⟩
  obtain⟨xs,x1,x2,x3,x5,x4⟩:=a9;obtain⟨hm,m1,m2⟩:=met_ok (W:=W) (H:=H) (P:=P) (d:=d) (x:=x) (y:=y) (z:=z) K a0 hV x1 x2 x3;have ey:mtC W H P x y z jo v (lkM (mtM W H P x y z jo (vs.take k)) (jnN jo v.1))=mtC W H P x y z jo v xs:=by
   rcases x3 with h|⟨b,f,h⟩
   ·unfold mtC; rw[h]
   ·rw[(x4 b f h).2]
  have et:=qjw W H P x y z jo (vs.take k) v;rw[ey,<- a7]at et;generalize mtC W H P x y z jo v xs=ys at *;refine⟨(pr++ys.map (λi=>(v.1,i)),j++[ys]),⟨by simp[h4],?_,?_,?_,?_,?_⟩,λv' b5 m p S A o=>?_⟩
  ·intro u w;rcases Qqi.mp w with w|w
   ·exact U u w
   ·cases Qqa.mp w; exact⟨m1,λi hi=>(m2 i hi).1⟩
  ·intro p N;rcases Qqi.mp N with N|N
   ·exact h6 p N
   ·obtain⟨i,hi,rfl⟩:=Qqj.mp N;exact⟨v,a0,rfl,m2 i hi⟩
  ·rw[Qqr,Qqz]; lia
  ·rw[et,Qqg,<- h8]; rfl
  ·rw[et,h9];unfold prM;rw[Qz9];exact congrArg (_++·) (Qqs _).symm
  cases hv.symm.trans b5;have b9:∀p∈metD ?q1 ns,eqT p.1 (O v.1)=false:=λp N=>by
   obtain⟨u,w,e⟩:=qex N;rw[tk,Qxk]at n;rw[e];exact beq_false_of_ne (n.2.2 u w v.1 (Qqa.mpr rfl))
  have a1:dput (metD ?q1 ns) (O v.1) (Y3 (S.length+2+k))=metD ?q1 (ns++[v.1]):=by
   rw[qqb b9,qae,nl]
  have hm:=hm m p _ (A.app (.dic L (metD ?q1 ns)::Y8 L (pr.map cD)::j.map ysC)) S.length (metD ?q1 ns) (get0 0) λb f e=>by
   obtain⟨⟨i,i1,i2⟩,_⟩:=x4 b f e;refine⟨_,qyw nk i1,?_⟩;rw[show S.length+2+i=S.length+(i+2) by lia,get0];show(j.map ysC)[i]?=_;rw[Qqv,i2]
   rfl
  unfold coX;rw[Q,tk];dsimp only;generalize hX:S++.dic L (metD ?q1 ns)::Y8 L (pr.map cD)::j.map ysC=X at hm ⊢;have c2:X.length=S.length+2+k:=by rw[<- hX]; simp[h4]; lia
  have r0:(X++[ysC ys])[S.length]?=Y (.dic L (metD ?q1 ns)):=by rw[<- hX,Qqo]; exact get0 0
  have a2:(ns++[v.1])[k]?=Y v.1:=by rw[<- nl]; simp
  have hq:=qyw (Bq:=S.length+2) (tk▸n) a2;have b1:decide ((metD ?q1 ns).length<lim)=true:=Z6 (by rw[qeq,nl]; unfold lim; lia);have e2:=set1 (a:=.dic L (metD ?q1 (ns++[v.1]))) (b:=Y8 L (pr.map cD)) (b':=Y8 L (pr.map cD++(ys.map λi=>(v.1,i)).map cD)) (ls:=(j++[ys]).map ysC) (R:=S);have r1:=get0 (R:=S) (ls:=.dic L (metD ?q1 (ns++[v.1]))::Y8 L (pr.map cD)::(j++[ys]).map ysC) 1;have g:=get0 (R:=S) (ls:=.dic L (metD ?q1 (ns++[v.1]))::Y8 L (pr.map cD)::(j++[ys]).map ysC) 0;have T:listAt (S++.dic L (metD ?q1 (ns++[v.1]))::Y8 L (pr.map cD)::(j++[ys]).map ysC) (S.length+2+k)=Y (ys.map O):=by
   unfold listAt;rw[show S.length+2+k=S.length+(k+2) by lia,get0,<- h4];simp
  have eY:(coT p.a S.length x y z (Y (O v.1)),(X++[ysC ys]).set S.length (.dic L (dput (metD ?q1 ns) (O v.1) (Y3 X.length))))=(coT p.a S.length x y z (Y (O v.1)),S++.dic L (metD ?q1 (ns++[v.1]))::Y8 L (pr.map cD)::(j++[ys]).map ysC):=by
   rw[c2,a1,<- hX,Qqo];show(_,(S++.dic L (metD ?q1 ns)::Y8 L (pr.map cD)::(j.map ysC++[ysC ys])).set _ _)=_;rw[set0,Qqg]
   rfl
  rw[Qqg,<- e2];generalize S++.dic L (metD ?q1 (ns++[v.1]))::Y8 L (pr.map cD)::(j++[ys]).map ysC=Zq at *;have a4:(?q0).ev (coT p.a S.length x y z (Y (O v.1))) Zq (.didx (.var 2) (.var 4))=Y (Y3 (S.length+2+k),Zq):=
   qzr 0 [] 3 [Kr g,Kq hq]
  have a5:=qqq (t:=.var 0) (it:=.didx (.var 2) (.var 4)) (elt:=.tup [.var 1,.var 0]) (sr:=[B,Y 4]) (s:=.lst (Y3 (S.length+2+k))) (λu=>Y (.tup [O v.1,u])) (λτ=>∃a,τ=[a,Y (O v.1)])
   (by show((?q0).ev _ _ _).bind _=_; rw[a4]; show(listAt _ _).map _=_; rw[T]; rfl) (qz9 T) (qzh T) ?k ⟨B,rfl⟩ (λτ u w a8=>by
    obtain⟨a,rfl⟩:=a8;obtain⟨i,hi,rfl⟩:=Qqj.mp w
    exact⟨[Y (O i),Y (O v.1)],qjf rfl (qzr 0 [] 3 []),_,rfl⟩)
  have ef:(ys.map D.int).filterMap (λu=>Y (D.tup [O v.1,u]))=(ys.map λi=>(v.1,i)).map cD:=by
   rw[Qxx,Qqp];exact Qjw▸rfl
  rw[ef]at a5;have g2:=qzv (st:=Zq) (ds:=(ys.map λi=>(v.1,i)).map cD) (qzj λ_ _=>rfl);have b2:decide ((pr.map cD).length+((ys.map λi=>(v.1,i)).map cD).length<=lim)=true:=Z6 (by simp only[Qqz]; unfold lim; lia);exact qzp (r:=(.nx (coT p.a S.length x y z (Y (O v.1))),Zq.set (S.length+1) (Y8 L (pr.map cD++(ys.map λi=>(v.1,i)).map cD)))) 0 [30] 3 [Kc hm,Kr r0,Kb b1,Ke eY,Kr r1,Kc a5,Kl g2,Kr r1,Kb b2]
 obtain⟨h4,U,h6,h7,h8,h9⟩:=c4 vs.length (Qqw _);rw[Qzb]at h9;rw[<- h9];refine⟨h6,h7,λm p S A=>⟨.dic L (metD ?q1 (vs.map (·.1)))::Y8 L ((F vs.length).1.map cD)::(F vs.length).2.map ysC,?_,rfl⟩⟩;have A2:=A.app [.dic L [],Y8 L []];have c0:(?q0).ev (coT p.a S.length x y z B) (S++[.dic L [],Y8 L []]) (.gc (.mcall 673 49 "veins" ?K []))=Y (.lst (vs.map λv=>D.int v.1),S++[.dic L [],Y8 L []]):=by
  have g:=qzv (st:=S++[.dic L [],Y8 L []]) (ds:=keysOf ?qg) (by rw[keys]; exact qzj λ_ _=>rfl);rw[<- keys];exact qzr 0 [] 3 [Kr A2.hf,Kr A2.hf,Kr A2.hv,Kl g]
 obtain⟨τ',st',h1,hk,o,rfl,rfl⟩:=qz1 (st:=S++[.dic L [],Y8 L []]) (it:=.gc (.mcall 673 49 "veins" ?K [])) (t:=.var 4) (body:=coB)
  (λk τ' st'=>k<=vs.length/\∃o:Y2 D,τ'=coT p.a S.length x y z o/\st'=coX S vs k (F k))
  (by show((?q0).ev _ _ _).bind _=_; rw[c0]; rfl) (qzh rfl) (λk τ' st' _=>qz9 rfl k) ⟨Qzg _,B,rfl,by rw[c5]; rfl⟩ (λk τ' st' q hq h=>by
   obtain⟨hk,o,rfl,rfl⟩:=h;rw[Qqv]at hq;obtain⟨v,hv,rfl⟩:=Qqy.mp hq;have l:=(Qqk.mp hv).1
   exact⟨_,_,c3 k l v hv m p S A o,l,_,rfl,rfl⟩)
 unfold coX at h1;rw[Qqz,Qzb]at h1;have a3:=qe0 (m+2) S W H P x y z;rw[b6]at a3;have e0:(([Y (Y3 p.a),Y (.tup ?qq),Y ?V,B,B]:Sl),(S++[Ya.dic L []]).set S.length (.dic L (dall [])))=([Y (Y3 p.a),Y (.tup ?qq),Y ?V,B,B],S++[Ya.dic L []]):=by
  rw[sl]
  rfl
 have e1:(([Y (Y3 p.a),Y (.tup ?qq),Y ?V,Y (Y3 (S++[Ya.dic L []]).length),B]:Sl),S++[Ya.dic L []]++?qv)=(coT p.a S.length x y z B,S++[.dic L [],Y8 L []]):=by
  rw[Qqr,Qqo]
  rfl
 exact qzz 0 [13] 4 [Kr A.hf,Kr A.hf,Kc a3,Kr (gl (st:=S) (c:=.dic L [])),Ke e0,Ke e1,Ks h1]
end
abbrev hiD(p:J×String):D:=.tup [.int p.1,sO p.2]
def nl_h(a:Z (J×String)):noLocs (a.map hiD)=true:=qzj λ_ _=>rfl
def cov_ok(m)(st)(g)(x y z):callD fns (m+2) 35 [rD g,Y9 ?qq] st=Y (.bl (inB g (x,y)),st):=
 qzz 0 [9] 2 [Kc (qwb m st g (x,y))]
noncomputable abbrev rkB:Z M.S:=[.ite (.call 10 [.var 6,.var 1]) [.expr (.meth ?qk .append [.tup [.var 5,.lit (sO "dip")]])] [.ite (.call 35 [.var 6,.var 2]) [.expr (.meth (.var 4) .append [.tup [.var 5,.lit (sO "ground")]])] []]]
noncomputable abbrev rkS(st:Y1)(a b:Z (J×String)):Y1:=st++[.lst L (a.map hiD)]++[.lst L (b.map hiD)]
def ap1{st:Y1}:(st++[a]++[b]).set st.length c=st++[c]++[b]:=by
 rw[Qqo,Qqo];exact set0
abbrev rkA(ps:Z (J×J))(gs:Z Cl):Z (J×String):=gs.filterMap λc=>if hasB c.g ps then Y (c.nm,"dip") else B
abbrev rkG(ps:Z (J×J))(p:J×J)(gs:Z Cl):Z (J×String):=gs.filterMap λc=>if hasB c.g ps then B else if inB c.g p then Y (c.nm,"ground") else B
def qdh(F:gs.length<1000)(C:ps.length<lim)(x y z)(m)(st):callD fns (m+3) 37 [.lst (sgD gs),.lst ?y,.tup ?qq] st=Y (Y3 (rkS st (rkA ps gs) (rkG ps (x,y) gs)).length,rkS st (rkA ps gs) (rkG ps (x,y) gs)++[Y8 L ((rkA ps gs).map hiD++(rkG ps (x,y) gs).map hiD)]):=by
 obtain⟨τ',st',h1,hk,u,v,a,b,rfl,rfl,h2,p,o⟩:=qe8 (c:=callD fns (m+2)) (i:=0) (t:=.tup [5,6]) (body:=rkB)
  (λk τ' st'=>k<=gs.length/\∃(u v:Y2 D) (a b:Z (J×String)),τ'=[Y (.lst (sgD gs)),Y (.lst ?y),Y (.tup ?qq),Y ?R,Y (Y3 (st++[Ya.lst L []]).length),u,v]/\st'=rkS st a b/\a.length+b.length<=k/\a=rkA ps (gs.take k)/\b=rkG ps (x,y) (gs.take k))
  rfl ⟨Qzg _,B,B,[],[],rfl,rfl,Qqw _,rfl,rfl⟩ (λk τ' st' _=>rfl) (λk τ' st' q j h=>by
   obtain⟨hk,u,v,a,b,rfl,rfl,h2,p,o⟩:=h;have d:=(Qqk.mp j).1;unfold sgD at j d;rw[Qqz]at d;rw[Qqv]at j;obtain⟨c,hc,rfl⟩:=Qqy.mp j;have tk:gs.take (k+1)=gs.take k++[c]:=by rw[Qjf,hc]; rfl
   have tA:rkA ps (gs.take (k+1))=a++rkA ps [c]:=by rw[tk,p]; exact Qju
   have A:rkG ps (x,y) (gs.take (k+1))=b++rkG ps (x,y) [c]:=by rw[tk,o]; exact Qju
   have w:rkA ps [c]=if hasB c.g ps then [(c.nm,"dip")] else []:=by unfold rkA; rw[Qq5]; split<;>simp_all
   have s:rkG ps (x,y) [c]=if hasB c.g ps then [] else if inB c.g (x,y) then [(c.nm,"ground")] else []:=by unfold rkG; rw[Qq5]; split<;>simp_all
   have f:=qlu m (st:=rkS st a b) (g:=c.g) (q:=.lst ?y) rfl C;have hv:=cov_ok m (rkS st a b) c.g x y z;have L2:(st++[Ya.lst L []]).length=(st++[Ya.lst L (a.map hiD)]).length:=by simp
   have n:(rkS st a b)[st.length]?=Y (Y8 L (a.map hiD)):=by unfold rkS; rw[Qqo]; exact get0 0
   have l:(rkS st a b)[(st++[Ya.lst L []]).length]?=Y (Y8 L (b.map hiD)):=by unfold rkS; rw[L2]; exact gl
   have l1:decide ((a.map hiD).length<lim)=true:=Z6 ?k;have l2:decide ((b.map hiD).length<lim)=true:=Z6 ?k
   cases hb:hasB c.g ps with
   |true=>
    rw[hb]at f;refine⟨_,_,qzp (r:=(.nx ?qb,(rkS st a b).set st.length (Y8 L (a.map hiD++[hiD (c.nm,"dip")])))) 0 [10,35] 2 [Kc f,Kr n,Kr n,Kb l1],d,_,_,a++[(c.nm,"dip")],b,rfl,by unfold rkS; rw[ap1,Qqg]; rfl,by rw[Qqr]; simp only[Qjk]; lia,by rw[tA,w,hb]; rfl,by rw[A,s,hb]; exact(Qqs b).symm⟩
   |false=>
    rw[hb]at f
    cases e:inB c.g (x,y) with
    |true=>
     rw[e]at hv;refine⟨_,_,qzp (r:=(.nx ?qb,(rkS st a b).set (st++[Ya.lst L []]).length (Y8 L (b.map hiD++[hiD (c.nm,"ground")])))) 0 [10,35] 2 [Kc f,Kc hv,Kr l,Kr l,Kb l2],d,_,_,a,b++[(c.nm,"ground")],rfl,by unfold rkS; rw[L2,sl,Qqg]; rfl,by rw[Qqr]; simp only[Qjk]; lia,by rw[tA,w,hb]; exact(Qqs a).symm,by rw[A,s,hb,e]; rfl⟩
    |false=>
     rw[e]at hv
     exact⟨_,_,qzp (r:=(.nx ?qb,rkS st a b)) 0 [10,35] 2 [Kc f,Kc hv],d,_,_,a,b,rfl,rfl,?d,by rw[tA,w,hb]; exact(Qqs a).symm,by rw[A,s,hb,e]; exact(Qqs b).symm⟩)
 rw[show(sgD gs).length=gs.length by unfold sgD; rw[Qqz],Qzb]at p o;rw[<- p,<- o];have L2:(st++[Ya.lst L []]).length=(st++[Ya.lst L (a.map hiD)]).length:=by simp
 have n:(rkS st a b)[st.length]?=Y (Y8 L (a.map hiD)):=by unfold rkS; rw[Qqo]; exact get0 0
 have l:(rkS st a b)[(st++[Ya.lst L []]).length]?=Y (Y8 L (b.map hiD)):=by unfold rkS; rw[L2]; exact gl
 have d:(sgD gs).length=gs.length:=by unfold sgD; rw[Qqz]
 have E:decide (lim<(a.map hiD).length+(b.map hiD).length)=false:=Z7 (by simp only[Qqz]; unfold lim; lia);exact qzz 0 [] 3 [Ks h1,Kr n,Kr l,Kb E]
section
variable {p:Pl}{d:J}{jo:Z (D×D)}{S:Y1}{vs:Z (J×D×Z (J×J))}
def out_ok(m)(A:FV p sz d ?qg jo S)(a:(vs.map (·.1)).Nodup)(hv:v∈vs)(e:v.1=u.1)(g:0<=u.2)(f:u.2<(v.2.2.length:J)):callD fns (m+2) 33 [Y3 p.a,cD u] S=Y (cD (v.2.2[u.2.toNat]?.getD (0,0)),S):=by
 have hi:u.2.toNat<v.2.2.length:=by lia
 have c:=qk3 m A a hv;rw[e]at c;rw[Qqb hi];have b:idxD S (Y9 ?qr) (O u.2)=Y (cD v.2.2[u.2.toNat]):=by
  show atI ?qr u.2=_;unfold atI ixN;rw[Z9 g,Z9 (by rw[Qqz]; exact f)];simp[Qqb hi]
 exact qzz 0 [50] 2 [Kr A.hf,Kn,Kc c,Kn,Kn,Ki b]
abbrev outF(vs:Z (J×D×Z (J×J)))(u:J×J):J×Int:=((vs.find? λv=>v.1==u.1).map λv=>v.2.2[u.2.toNat]?.getD (0,0)).getD (0,0)
def qn9(b:(vs.map (·.1)).Nodup)(hv:v∈vs)(e:v.1=u.1):outF vs u=v.2.2[u.2.toNat]?.getD (0,0):=by
 unfold outF
 induction vs with
 |nil=>cases hv
 |cons a r f=>
  rw[Qqd,Qzj]at b;rw[Qq2];rcases Qqc.mp hv with rfl|c
  ·rw[e,beq_self_eq_true]; rfl
  ·have:a.1≠u.1:=λz=>b.1 (Qqj.mpr ⟨v,c,e.trans z.symm⟩);rw[beq_false_of_ne this];exact f b.2 c
def qhu(a:(vs.map (·.1)).Nodup)(g:CoI vs pr)(hl:pr.length<lim):∀(m:Y0) (p:Pl) (S:Y1) (sz:D),FV p sz d ?qg jo S->callD fns (m+3) 34 [Y3 p.a,Yc (pr.map cD)] S=Y (Y3 S.length,S++[Y8 L ((pr.map (outF vs)).map cD)]):=by
 have hf:∀u∈pr,∀(m:Y0) (p:Pl) (S:Y1) (sz:D),FV p sz d ?qg jo S->callD fns (m+2) 33 [Y3 p.a,cD u] S=Y (cD (outF vs u),S):=λu h m p S sz A=>by
  obtain⟨v,hv,e,h1,h2⟩:=g u h;rw[qn9 a hv e];exact out_ok m A a hv e h1 h2
 generalize outF vs=f at *;intro m p S sz A;have h:=qvb (c:=callD fns (m+2)) (τ:=[Y (Y3 p.a),Y (Yc (pr.map cD))]) (st:=S) (i:=1) (elt:=.call 33 [Yd 1,Yd 0]) (sr:=[B,Y 0]) pr cD (λu=>cD (f u)) rfl rfl hl rfl λu b=>qzr 0 [33] 2 [Kc (hf u b m p S sz A)];have e:pr.map (λp=>cD (f p))=(pr.map f).map cD:=by rw[Qqp]; rfl
 rw[e]at h;exact qzz 0 [] 3 [Kc h]
abbrev hdM(W H P x y z:J)(jo:Z (D×D))(vs:Z (J×D×Z (J×J))):Z (J×J):=(prM (mtM W H P x y z jo vs)).map (outF vs)
def qa3(f:(vs.map (·.1)).Pairwise (· < ·))(l:vs.length<60)(w:VsOk vs)(F:JoI vs jo)(r:ing W H P x y z=L):
  ∀(cs:Z Cl) (ro:Z J),(cs.map (·.nm)).Nodup->(∀n∈ro,∃c∈cs,c.nm=n)->ro.length<1000->∀(m:Y0) (p:Pl) (S:Y1),FA p ?w d ?qg jo cs ro S->∃q:D×Y1,callD fns (m+5) 38 [Y3 p.a,Y9 ?qq] S=Y q/\gcD S q=(Yc ((rkA (hdM W H P x y z jo vs) (stC cs ro d)++rkG (hdM W H P x y z jo vs) (x,y) (stC cs ro d)).map hiD),S):=by
 have k:(vs.map (·.1)).Nodup:=f.imp λh=>by lia
 obtain⟨c3,c4,g⟩:=qpp (d:=d) f l w F r;have p2:=qhu (d:=d) (jo:=jo) k c3 (by unfold lim; lia);have p1:(hdM W H P x y z jo vs).length=(prM (mtM W H P x y z jo vs)).length:=Qqz ..;unfold hdM at p1 ⊢;generalize prM (mtM W H P x y z jo vs)=pr at *;generalize pr.map (outF vs)=ps at *;intro cs ro nd o hl m p S A;have C:=qk6 (cs:=cs) (ro:=ro) (d:=d);have j:=qdh (ps:=ps) (gs:=stC cs ro d) ?d (by unfold lim; lia) x y z;obtain⟨ex,c1,c2⟩:=g m p S A.v;have p2:=p2 (m+1) p S _ A.v;have E:=sg_ok m A nd o hl;have j:=j (m+1) S;generalize stC cs ro d=s at *;generalize rkA ps s=a at *;generalize rkG ps (x,y) s=b at *;have v:=qpk (st:=S) c2 (qzj λ_ _=>rfl);have u:=qzv (st:=S) (ds:=ps.map cD) (qzj λ_ _=>rfl);have t:=qzv (st:=S) (nl_sg s);refine⟨(Y3 (rkS S a b).length,rkS S a b++[Y8 L (a.map hiD++b.map hiD)]),qzz 0 [31,34,36,37] 5 [Kc c1,Kl v,Kc p2,Kl u,Kc E,Kl t,Kc j],?_⟩;have:=qpk (st:=S) (ex:=[Y8 L (a.map hiD),Y8 L (b.map hiD),Y8 L ((a++b).map hiD)]) (i:=2) rfl (nl_h (a++b));rw[Qqg]at this ⊢;have e:(rkS S a b).length=S.length+2:=by simp
 rw[e];unfold rkS;rw[Qqo,Qqo];exact this
end
noncomputable abbrev Rc:=J×J×J×J
def Tr.nms{T:J}(h:Tr T day zs ro f w a b):a.map (·.nm)=zs.map (·.nm)\/a.map (·.nm)=zs.map (·.nm)++[day]:=by
 cases h with
 |no=>exact .inl rfl
 |over=>exact .inl rfl
 |work=>exact .inl qqh
 |give=>exact .inl qqh
 |sell=>exact .inl qqh
 |nocut=>exact .inl rfl
 |part=>exact .inr (by rw[Qqg,qqh]; rfl)
def Tr.chi{T:J}(h:Tr T day zs ro f w e i)(hc:∀c∈zs,ChI T c)(j:∀c∈zs,c.ds≠[]):∀c∈e,ChI T c:=by
 cases h with
 |no=>exact hc
 |over=>exact hc
 |@work c d g=>
  refine qq8 hc ?_;have h:=hc c d;have:day<=thr T c.ds:=by rw[<- h.2]; have:¬ c.la<day:=λz=>g (.inr z); lia
  have:=qc2 (j c d) h.1 this;exact⟨this.1,this.2.symm⟩
 |@give c d g=>exact qq8 hc (hc c d)
 |@sell c o d g=>exact qq8 hc (hc c d)
 |nocut=>exact hc
 |@part c s l o a b _ d g hs h hr=>exact qvh (qq8 hc (hc c d)) (hc c d)
def vo_mem(h:(dget ?qg (O b)).isSome):b∈vs.map (·.1):=by
 obtain⟨x,a⟩:=Qxz.mp h;unfold dget at a;obtain⟨p,c,_⟩:=Qqy.mp a;have e:=Qz1 c;obtain⟨v,hv,rfl⟩:=Qqj.mp (Qzw c);have e:=e;cases beq_iff_eq.mp e;exact Qqj.mpr ⟨v,hv,rfl⟩
def JoI.put(g:JoI vs jo)(h:b<a)(hb:b∈vs.map (·.1)):JoI vs (dput jo (O a) (Y9 [O b,O f])):=λp c=>by
 unfold dput at c
 split at c
 ·obtain⟨q,i,rfl⟩:=Qqj.mp c;obtain⟨d,k,j,rfl,h1,h2⟩:=g q i
  by_cases e:eqT (O d) (O a)=L
  ·rw[Z9 e];have e:=e;cases beq_iff_eq.mp e;exact⟨_,b,f,rfl,h,hb⟩
  ·rw[Z8 e];exact⟨d,k,j,rfl,h1,h2⟩
 ·rcases Qqi.mp c with c|c
  ·exact g p c
  ·cases Qqa.mp c;exact⟨a,b,f,rfl,h,hb⟩
def JoI.app(d:JoI vs jo)(v):JoI (vs++[v]) jo:=λp c=>by
 obtain⟨a,b,f,e,h1,h2⟩:=d p c;exact⟨a,b,f,e,h1,by rw[Qqg]; exact Qzq _ h2⟩
structure Pu (W H:J) (k:Y0) (T d:J) (vs:Z (J×D×Z (J×J))) (jo:Z (D×D)) (cs:Z Cl) (ro:Z J):Prop where
 R:RowI d cs ro
 ch:∀c∈cs,ChI T c
 up:(cs.map (·.nm)).Pairwise (· < ·)
 cl:cs.length<=k
 rl:ro.length<=25*k
 dl:∀c∈cs,c.ds.length<=k
 vl:vs.length<=k
 vn:(vs.map (·.1)).Pairwise (· < ·)
 vd:∀v∈vs,v.1<=d
 V:VsOk vs
 VC:∀v∈vs,v.2.2≠[]/\∀p∈v.2.2,Cin W H p
 jl:jo.length<=k
 jv:JoI vs jo
def qyz{d:J}(h:l.Pairwise (· < ·))(hl:∀x∈l,x<=d)(hd:d<day):(l++[day]).Pairwise (· < ·):=by
 rw[Qxf];refine⟨h,Qkg _ _,λa ha b hb=>?_⟩;cases Qqa.mp hb;have:=hl a ha
 lia
section
variable {W H:J}{k:Y0}{T d day:J}{vs:Z (J×D×Z (J×J))}{jo:Z (D×D)}{cs cs':Z Cl}{ro ro':Z J}
def Pu.nms(h:Pu W H k T d vs jo cs ro):∀x∈cs.map (·.nm),x<=d:=λx a=>by obtain⟨c,hc,rfl⟩:=Qqj.mp a; exact h.R.le c hc
def Pu.claim(h:Pu W H k T d vs jo cs ro)(hk:k<24)(hd:d<day)(n:∀c∈cs,c.ds≠[])(m:Op day cs ro cs' ro')(j:Tr T day (cs.map Cl.z) ro f w (cs'.map Cl.z) ro')(i:∀c∈cs',∃x,x.ds.length<=c.ds.length/\c.ds.length<=x.ds.length+1/\x∈cs):Pu W H (k+1) T day vs jo cs' ro':=by
 have on:=qaa m;have:=h.cl;have:=h.rl;have b:(cs'.map (·.nm)).Pairwise (· < ·):=by
  have e:∀l:Z Cl,(l.map Cl.z).map (·.nm)=l.map (·.nm):=λl=>by rw[Qqp]; rfl
  have:=j.nms;rw[e,e]at this;rcases this with e|e<;>rw[e]
  ·exact h.up
  ·exact qyz h.up h.nms hd
 refine⟨qd2 hd h.R m,λc hc=>?_,b,?d,?d,λc hc=>?_,by have:=h.vl; lia,h.vn,λv hv=>by have:=h.vd v hv; lia,h.V,h.VC,by have:=h.jl; lia,h.jv⟩
 ·exact j.chi (λx a=>by obtain⟨y,g,rfl⟩:=Qqj.mp a; exact h.ch y g) (λx a=>by obtain⟨y,g,rfl⟩:=Qqj.mp a; exact n y g) c.z (Qqj.mpr ⟨c,hc,rfl⟩)
 ·obtain⟨x,_,h2,a⟩:=i c hc;have:=h.dl x a
  lia
theorem Pu.vein(h:Pu W H k T d vs jo cs ro)(hk:k<24)(hd:d<day){ss:Z J}(hs:ss.length<1000)(e:∀s∈ss,0<=s/\s<=4)(i:ps.length<=16)(f:ps≠[])(hc:∀p∈ps,Cin W H p):Pu W H (k+1) T day (vs++[(day,Y9 ?H,ps)]) jo (cs.map ?qh) (ro++(cs.filter (hit day ps)).map (·.nm)):=by
 have g:Op day cs ro (cs.map ?qh) (ro++(cs.filter (hit day ps)).map (·.nm)):=.vein ps;have on:=qaa g;have:=h.cl;have:=h.rl;have b:((cs.map ?qh).map (·.nm)).Pairwise (· < ·):=by
  rw[Qqp,show((λc:Cl=>c.nm)∘vst day ps)=λc=>c.nm from funext λc=>(qzl day ps c).1];exact h.up
 refine⟨qd2 hd h.R g,λc hc=>?_,b,?d,?d,λc hc=>?_,by have:=h.vl; simp; lia,?_,λv hv=>?_,λv hv=>?_,λv hv=>?_,by have:=h.jl; lia,h.jv.app _⟩
 ·obtain⟨x,a,rfl⟩:=Qqj.mp hc;have:=h.ch x a;unfold vst
  split<;>exact this
 ·obtain⟨x,a,rfl⟩:=Qqj.mp hc;rw[(qzl day ps x).2.2];have:=h.dl x a
  lia
 ·rw[Qqg];exact qyz h.vn (λx a=>by obtain⟨v,hv,rfl⟩:=Qqj.mp a; exact h.vd v hv) hd
 ·rcases Qqi.mp hv with hv|hv
  ·have:=h.vd v hv; lia
  ·cases Qqa.mp hv; exact Int.le_refl _
 ·rcases Qqi.mp hv with hv|hv
  ·exact h.V v hv
  ·cases Qqa.mp hv; exact⟨⟨ss,rfl,e,hs⟩,i⟩
 ·rcases Qqi.mp hv with hv|hv
  ·exact h.VC v hv
  ·cases Qqa.mp hv; exact⟨f,hc⟩
def Pu.join(h:Pu W H k T d vs jo cs ro)(hk:k<24)(hd:d<day)(hl:a.length<=jo.length+1)(hj:JoI vs a):Pu W H (k+1) T day vs a cs ro:=by
 have:=h.cl;have:=h.rl;exact⟨h.R.later (Int.le_of_lt hd),h.ch,h.up,?d,?d,λc hc=>by have:=h.dl c hc; lia,by have:=h.vl; lia,h.vn,λv hv=>by have:=h.vd v hv; lia,h.V,h.VC,by have:=h.jl; lia,hj⟩
def Pu.stake(h:Pu W H k T d vs jo cs ro)(hk:k<24)(hd:d<day)(i:Op day cs ro cs' ro')(j:cs'.map Cl.z=cs.map Cl.z++[vst day ps ⟨day,0,o,g,[day],day+T,B,B⟩])(f:∀c∈cs',c∈cs\/c.ds.length=1):Pu W H (k+1) T day vs jo cs' ro':=by
 have on:=qaa i;have:=h.cl;have:=h.rl;have b:(cs'.map (·.nm)).Pairwise (· < ·):=by
  have e:∀l:Z Cl,(l.map Cl.z).map (·.nm)=l.map (·.nm):=λl=>by rw[Qqp]; rfl
  have:=congrArg (List.map (·.nm)) j;rw[Qqg,e,e]at this;rw[this,List.map_singleton,(qzl day ps _).1];exact qyz h.up h.nms hd
 refine⟨qd2 hd h.R i,λc hc=>?_,b,?d,?d,λc hc=>?_,by have:=h.vl; lia,h.vn,λv hv=>by have:=h.vd v hv; lia,h.V,h.VC,by have:=h.jl; lia,h.jv⟩
 ·have:c.z∈cs.map Cl.z++[vst day ps ⟨day,0,o,g,[day],day+T,B,B⟩]:=by rw[<- j]; exact Qqj.mpr ⟨c,hc,rfl⟩
  rcases Qqi.mp this with z|z
  ·obtain⟨y,a,e⟩:=Qqj.mp z;have a:ChI T y.z:=h.ch y a;rw[e]at a;exact a
  ·have e:=Qqa.mp z;have:ChI T c.z:=by
    rw[e];have:ChI T ⟨day,0,o,g,[day],day+T,B,B⟩:=⟨rfl,(thr1 T day).symm⟩
    unfold vst
    split<;>exact this
   exact this
 ·rcases f c hc with z|z
  ·have:=h.dl c z; lia
  ·lia
end
section
theorem DF.noLoc(h:DF W H P f):M.noLoc f=true:=by
 cases h with
 |vein=>
  rename_i ss ps _ _ _ _ _ _ _;show(L&&(M.noLoc (Y9 ?H)&&(M.noLoc (Y9 ?y)&&L)))=L;rw[qyk,qv5,nlI]
  rfl
 |claim h _=>cases h<;>rfl
 |_=>rfl
end
def qnx:rowAt (st++[Y8 L pl]) ?R=Y pl:=by
 show listAt _ _=_;unfold listAt;rw[gl]
section
variable {ns:Z J}(hn:ns.length<=63){W H P:J}(w1:1<=W)(w2:W<=24)(h1:1<=H)(h2:H<=24)(p0:0<=P)(p1:P<=12)
include hn w1 w2 h1 h2 p0 p1
theorem qnl(m)(st)(k)(U:0<=k)(T:k<1000)(S:0<=many)(R:many<=24):∃pl:Z (J×D),callD fns (m+5) 74 [scr ns,O k,szD W H P,O many] st=Y (Y3 st.length,st++[Y8 L (pl.map pD)])/\(pl.length:J)=many/\(∀p∈pl,DF W H P p.2/\1<=p.1/\p.1<=360)/\(pl.map (·.1)).Pairwise (· < ·):=by
 obtain⟨a,ha,a1,a2⟩:=dr hn (m+3) st k 0 (many:=4) ?c ?c ?c;have n:∃h:J,idxD st (.lst [O 1,O 3,O 8,O 15]) (O a)=Y (O h)/\1<=h/\h<=15:=by
  have:a=0\/a=1\/a=2\/a=3:=by lia
  rcases this with rfl|rfl|rfl|rfl
  ·exact⟨1,rfl,?c,?c⟩
  ·exact⟨3,rfl,?c,?c⟩
  ·exact⟨8,rfl,?c,?c⟩
  ·exact⟨15,rfl,?c,?c⟩
 obtain⟨h,w,Q,N⟩:=n;have g:=qzv (st:=st) (ds:=[O 1,O 3,O 8,O 15]) rfl;obtain⟨τ',st',E,V,d,o,pl,rfl,rfl,u,z,l,s⟩:=qz1 (st:=st++?qv) (it:=.rng2 (.bin .Add ?qn (.lit (O 1))) (.bin .Add (.bin .Add ?qn (.lit (O 1))) ?qk)) (t:=.var 7)
  (body:=[.set (.var 6) (.bin .Add (.bin .Add (.var 6) (.lit (O 1))) (.call 61 [.var 0,.var 7,.lit (O 25),.var 4])),.expr (.meth (.var 5) .append [.tup [.var 6,.call 73 [.var 0,.var 7,.var 2,.var 5]]])])
  (λi τ' st'=>i<=many.toNat/\∃(d:J) (o:Y2 D) (pl:Z (J×D)),τ'=[Y (scr ns),Y (O k),Y ?w,Y (O many),Y (O h),Y ?R,Y (O d),o]/\st'=st++[Y8 L (pl.map pD)]/\pl.length=i/\(0<=d/\d<=15*i)/\(∀p∈pl,DF W H P p.2/\1<=p.1/\p.1<=d)/\(pl.map (·.1)).Pairwise (· < ·))
  (by
   have G:(RL (callD fns (m+4))).ev [Y (scr ns),Y (O k),Y ?w,Y (O many),Y (O h),Y ?R,Y (O 0),B] (st++?qv) (.bin .Add ?qn (.lit (O 1)))=Y (O (k+1),st++?qv):=qzr 0 [] 4 [];have F:(RL (callD fns (m+4))).ev [Y (scr ns),Y (O k),Y ?w,Y (O many),Y (O h),Y ?R,Y (O 0),B] (st++?qv) (.bin .Add (.bin .Add ?qn (.lit (O 1))) ?qk)=Y (O (k+1+many),st++?qv):=qzr 0 [] 4 [];show((RL (callD fns (m+4))).ev _ _ _).bind _=_;rw[G];show((RL (callD fns (m+4))).ev _ _ _).bind _=_;rw[F];show(if (big (k+1)||big (k+1+many))=L then B else Y (Src.rng (k+1) (k+1+many - (k+1)).toNat,_))=_
   rw[Z8 ?o,show k+1+many - (k+1)=many by lia])
  ?s (λi τ' st' _=>qxh _ _ _) ⟨Qzg _,0,B,[],rfl,rfl,rfl,⟨?d,?d⟩,?g,.nil⟩ (λi τ' st' x A e=>by
   obtain⟨_,d,o,pl,rfl,rfl,u,z,l,s⟩:=e;rw[Qqv]at A;obtain⟨X,j,rfl⟩:=Qqy.mp A;have y:i<many.toNat:=by
    have:=(Qqk.mp j).1;simpa using this
   rw[Qx3 y]at j;cases j;obtain⟨v,hv,v1,K⟩:=dr hn (m+3) (st++[Y8 L (pl.map pD)]) (k+1+(i:Y0)) 25 (many:=h) ?c ?c ?d;obtain⟨f,hf,I⟩:=qpa hn w1 w2 h1 h2 p0 p1 m (st++[Y8 L (pl.map pD)]) (k+1+(i:Y0)) (qnx (pl:=pl.map pD)) (λp e=>by have:=l p e; exact⟨this.1,this.2.1,?d⟩) ?d;have C:=gl (st:=st) (c:=Y8 L (pl.map pD));have q:(pl.map pD).length<lim:=by rw[Qqz]; unfold lim; lia
   refine⟨_,_,qzp (r:=(.nx [Y (scr ns),Y (O k),Y ?w,Y (O many),Y (O h),Y ?R,Y (O (d+1+v)),Y (O (k+1+(i:Y0)))],(st++[Ya.lst L (pl.map pD)]).set st.length (Y8 L (pl.map pD++[pD (d+1+v,f)])))) 0 [61,73] 4 [Kc hv,Kr C,Kc hf,Kr C,Kb (Z6 q)],?d,d+1+v,Y (O (k+1+(i:Y0))),pl++[(d+1+v,f)],rfl,by rw[sl]; simp,by simp[u],⟨?d,?d⟩,λp e=>?_,?_⟩
   ·rcases Qqi.mp e with e|e
    ·have:=l p e;exact⟨this.1,this.2.1,?d⟩
    ·cases Qqa.mp e;exact⟨I,by simp only; lia,Int.le_refl _⟩
   ·rw[Qqg,Qxf];refine⟨s,?g,λa ha b hb=>?_⟩;obtain⟨p,e,rfl⟩:=Qqj.mp ha;simp only[Qqd,Qxs,Qqa]at hb;have:=l p e
    lia)
 rw[Qqz,Qxl]at u z;refine⟨pl,qzz 0 [61] 5 [Kl g,Kc ha,Ki w,Ks E],?d,λp e=>?_,s⟩;have:=l p e;exact⟨this.1,this.2.1,?d⟩
end
noncomputable abbrev P3:=J×J×J
abbrev spD(p:P3):D:=.tup [.int p.1,.int p.2.1,.int p.2.2]
def InG(W H P:J)(p:P3):Prop:=0<=p.1/\p.1<W/\0<=p.2.1/\p.2.1<H/\0<=p.2.2/\p.2.2<=P
section
variable {W H P:J}(w1:1<=W)(w2:W<=24)(h1:1<=H)(h2:H<=24)(p0:0<=P)(p1:P<=12)
include w1 w2 h1 h2 p0 p1
theorem qg6(m)(st):∃sp:Z P3,callD fns (m+1) 65 [szD W H P] st=Y (Y3 st.length,st++[Y8 L (sp.map spD)])/\1<=sp.length/\sp.length<100000/\∀p∈sp,InG W H P p:=by
 have t:W*H<=24*24:=Int.mul_le_mul w2 h2 ?d ?d;have s:0<W*H:=Int.mul_pos ?d ?d;have r:W*H*(P+1)<=24*24*13:=Int.mul_le_mul t ?d ?d ?d;have o:0<W*H*(P+1):=Int.mul_pos s ?d;generalize k:W*H*(P+1)=N at r o;have c:src ?M [Y ?w,Y (O H),Y (O (P+1)),Y (O N)] st (.rng1 ?qk)=Y (.rng 0 N.toNat,st):=by
  show((?M).ev _ _ _).bind _=_;rw[qqx (callD fns m) _ st ?qk (O N,st) rfl];show(if big N then B else Y (Src.rng 0 N.toNat,st))=_;rw[Z8 ?o]
 have hc:=qxd (elt:=.tup [.bin .FloorDiv (.bin .FloorDiv ?K ?qn) (.var 2),.bin .Mod (.bin .FloorDiv ?K ?qn) (.var 2),.bin .Mod ?K ?qn]) (sr:=[B,Y 2,Y 1]) (es:=((List.range N.toNat).map λ(i:Y0)=>(((i:J) / (P+1) / H,(i:J) / (P+1) % H,(i:J) % (P+1)):P3)).map spD) c (qxh 0 N.toNat) ?s rfl ?g ?l λi d e hd f=>by
  rw[Qqv]at hd;rw[Qqp,Qqv]at f;obtain⟨x,h,rfl⟩:=Qqy.mp hd;rw[h]at f;cases f;rw[Int.zero_add];have q:0<P+1:=by lia
  have b:P+1<2 ^ 64:=by lia
  have g:0<H:=by lia
  have n:H<2 ^ 64:=by lia
  exact qzr 0 [] 0 [Kc (bDi st x q b),Kc (bDi st ((x:J) / (P+1)) g n),Kc (bDi st x q b),Kc (bMo st ((x:J) / (P+1)) g),Kc (bMo st x q)]
 have l:(([Y ?w,Y (O H),Y (O (P+1)),Y (O (W*H*(P+1)))]:Sl),st)=([Y ?w,Y (O H),Y (O (P+1)),Y (O N)],st):=by rw[k]
 refine⟨(List.range N.toNat).map λ(i:Y0)=>(((i:J) / (P+1) / H,(i:J) / (P+1) % H,(i:J) % (P+1)):P3),qzz 0 [] 1 [Kb (qz4 (a:=W) (b:=H) ?d ?d),Kb (qz4 (a:=W*H) (b:=P+1) ?d ?d),Ke l,Kc hc],?r,?r,λp j=>?_⟩;obtain⟨i,hi,rfl⟩:=Qqj.mp j;have hi:=Qz6.mp hi;have b1:(i:J)<W*H*(P+1):=by lia
 have b2:(i:J) / (P+1)<W*H:=Int.ediv_lt_of_lt_mul ?d b1;have b3:(i:J) / (P+1) / H<W:=Int.ediv_lt_of_lt_mul ?d b2;have b4:0<=(i:J) / (P+1):=Int.ediv_nonneg ?d ?d;have b5:=Int.emod_lt_of_pos (i:J) (show 0<P+1 by lia);exact⟨Int.ediv_nonneg b4 ?d,b3,Int.emod_nonneg _ ?d,Int.emod_lt_of_pos _ ?d,Int.emod_nonneg _ ?d,by show _ % _<=P; lia⟩
end
noncomputable abbrev Z0(W H P:J):Zt:=⟨szD W H P,[],[]⟩
def qo8{T:J}(b:1<=W)(a:W<=24)(f:1<=H)(e:H<=24)(p0:0<=P)(p1:P<=12)(d:1<=T)(c:T<=400)(m):callD fns (m+3) 41 [Y3 0,O W,O H,O P,O T] [.obj 673 []]=Y (.non,FC (Z0 W H P) T 0 (voD []) [] [] [] []):=
 qzz 9 [] 3 [Kb (Z6 b),Kb (Z6 a),Kb (Z6 f),Kb (Z6 e),Kb (Z6 p0),Kb (Z6 p1),Kb (Z6 d),Kb (Z6 c)]
section
variable {W H T d day:J}{k:Y0}{vs:Z (J×D×Z (J×J))}{jo:Z (D×D)}{cs:Z Cl}{ro:Z J}{rest:Y1}
theorem Pu.later(h:Pu W H k T d vs jo cs ro)(hd:d<=day):Pu W H k T day vs jo cs ro:=⟨h.R.later hd,h.ch,h.up,h.cl,h.rl,h.dl,h.vl,h.vn,λv hv=>Int.le_trans (h.vd v hv) hd,h.V,h.VC,h.jl,h.jv⟩
def qn5(m)(b:1<=day)(a:day<=400)(hd:d<=day):callD fns (m+3) 47 [Y3 0,O day] ?z=Y (.non,FC sz T day fo jo cs ro rest):=
 qzz 8 [40] 3 [Kc (qbk m ?z day b a),Kb (Z7 (show ¬ day<d by lia))]
end
abbrev insA(n day:J):Z J->Z J
 |[]=>[]
 |x::r=>if x=n then x::day::r else x::insA n day r
theorem qa2{R:Z J}:∀{A},n ∉ A->insA n day (A++n::R)=A++n::day::R
 |[],_=>Z9 rfl
 |a::A,h=>by
  show(if a=n then _ else a::insA n day (A++n::R))=_;rw[Z8 λe=>h (by rw[e]; exact .head _),qa2 λz=>h (.tail _ z)]
  rfl
open Classical in
abbrev trO(T day:J)(zs:Z Cl)(ro:Z J)(f:D):Z Cl×Z Int:=match f with
 |.tup (.str v::.int n::r)=>match zs.find? λc=>c.nm==n with
  |none=>(zs,ro)
  |some c=>if over day c then(zs,ro) else match r with
   |[]=>if MS.sq v "work" then(upd zs { c with ds:=c.ds++[day],la:=day+T },ro) else(upd zs { c with gv:=Y day },ro)
   |[.int o]=>(upd zs { c with o:=o },ro)
   |[.int s,.int l,.int o]=>match cutG c.g s l with
    |none=>(zs,ro)
    |some (a,b)=>(upd zs { c with g:=a }++[⟨day,0,o,b,c.ds,c.la,c.v,B⟩],match c.v with|none=>ro|some _=>insA c.nm day ro)
   |_=>(zs,ro)
 |_=>(zs,ro)
def qxr{cs:Z Cl}(hn:(cs.map (·.nm)).Nodup)(hc:c∈cs):cs.find? (λx=>x.nm==c.nm)=Y c:=by
 induction cs with
 |nil=>cases hc
 |cons a r d=>
  rw[Qqd,Qzj]at hn;rw[Qq2];rcases Qqc.mp hc with rfl|b
  ·simp
  ·have e:(a.nm==c.nm)=false:=by
    rw[beq_eq_false_iff_ne];exact λe=>hn.1 (Qqj.mpr ⟨c,b,e.symm⟩)
   rw[e];exact d hn.2 b
def Tr.fn{T:J}(nd:(zs.map (·.nm)).Nodup)(h:Tr T day zs ro f w i g):trO T day zs ro f=(i,g):=by
 cases h with
 |@no n w r h=>
  have:zs.find? (λc=>c.nm==n)=none:=Qxd.mpr λc hc=>by simpa using h c hc
  show(match zs.find? λc=>c.nm==n with|none=>_|some c=>_)=_;rw[this]
 |@over c w r hc d=>
  show(match zs.find? λx=>x.nm==c.nm with|none=>_|some c=>_)=_;rw[qxr nd hc];exact Z9 d
 |@work c hc d=>
  show(match zs.find? λx=>x.nm==c.nm with|none=>_|some c=>_)=_;rw[qxr nd hc];exact(Z8 d).trans rfl
 |@give c hc d=>
  show(match zs.find? λx=>x.nm==c.nm with|none=>_|some c=>_)=_;rw[qxr nd hc];exact(Z8 d).trans rfl
 |@sell c o hc d=>
  show(match zs.find? λx=>x.nm==c.nm with|none=>_|some c=>_)=_;rw[qxr nd hc];exact(Z8 d).trans rfl
 |@nocut c s l o hc d hs h=>
  show(match zs.find? λx=>x.nm==c.nm with|none=>_|some c=>_)=_;rw[qxr nd hc];refine(Z8 d).trans ?_;show(match cutG c.g s l with|none=>_|some (a,b)=>_)=_;rw[h]
 |@part c s l o a b _ hc d hs h hr=>
  show(match zs.find? λx=>x.nm==c.nm with|none=>_|some c=>_)=_;rw[qxr nd hc];refine(Z8 d).trans ?_;show(match cutG c.g s l with|none=>_|some (a,b)=>_)=_;rw[h];rcases hr with⟨e,rfl⟩|⟨x,A,R,e,rfl,hA,rfl⟩
  ·show(_,(match c.v with|none=>g|some _=>insA c.nm day g))=_;rw[e]
  ·show(_,(match c.v with|none=>_|some _=>insA c.nm day (A++c.nm::R)))=_;rw[e,qa2 hA]
open Classical in
abbrev jnO(fo jo:Z (D×D))(a b f:J):Z (D×D):=if (dget fo (.int a)).isSome/\(dget fo (.int b)).isSome/\b<a/\dget jo (.int a)=B then dput jo (.int a) (.tup [.int b,.int f]) else jo
def Jn.fn(h:Jn fo jo a b f w jo'):jnO fo jo a b f=jo':=by
 unfold jnO
 cases h with
 |nv1 h=>exact Z8 λz=>by have:=z.1; rw[h]at this; cases this
 |nv2 h h2=>exact Z8 λz=>by have:=z.2.1; rw[h2]at this; cases this
 |ord h h2 d=>exact Z8 λz=>by have:=z.2.2.1; lia
 |joi h h2 d c=>exact Z8 λz=>by have:=z.2.2.2; rw[c]at this; cases this
 |good h h2 d c=>exact Z9 ⟨by rw[h]; rfl,by rw[h2]; rfl,?d,c⟩
noncomputable abbrev Vs:=Z (J×D×Z (J×J))
noncomputable abbrev Rc4:=J×J×J×J
inductive Kd where
 |vein (s:D) (ps:Z (J×J))|join (a b f:J)|stake (o:J) (g:Rc4)|clm (f:D)
abbrev Kd.f:Kd->D
 |.vein s ps=>.tup [sO "vein",s,.tup ?y]
 |.join a b f=>.tup [sO "join",.int a,.int b,.int f]
 |.stake o g=>.tup [sO "stake",.int o,.int g.1,.int g.2.1,.int g.2.2.1,.int g.2.2.2]
 |.clm f=>f
abbrev KdX(W H P:J):Kd->Prop
 |.vein s ps=>∃ss:Z J,s=.tup (ss.map .int)/\(ss.length:J)=P/\ss.length<=100/\(∀s∈ss,0<=s/\s<=4)/\1<=ps.length/\ps.length<=16/\∀p∈ps,Cin W H p
 |.clm f=>CF' f
 |_=>True
noncomputable abbrev KdOk(W H P:J)(k:Kd):Prop:=DF W H P k.f/\KdX W H P k
def kd_of(h:DF W H P f):∃k:Kd,k.f=f/\KdOk W H P k:=by
 have h':=h
 cases h with
 |vein b a hs h1 h2 hn hc=>exact⟨.vein _ _,rfl,h',_,rfl,b,a,hs,h1,h2,hc⟩
 |join h1 h2 q p n m=>exact⟨.join _ _ _,rfl,h',trivial⟩
 |@stake o g h1 h2 l j i e d c=>exact⟨.stake o g,rfl,h',trivial⟩
 |claim h hs=>exact⟨.clm _,rfl,h',h⟩
structure Ps where
 vs:Vs
 jo:Z (D×D)
 zs:Z Cl
 ro:Z J
noncomputable abbrev nwC(T day o:J)(g:Rc4):Cl:=⟨day,0,o,g,[day],day+T,B,B⟩
abbrev sK(T day:J):Kd->Ps->Ps
 |.vein s ps,q=>⟨q.vs++[(day,s,ps)],q.jo,q.zs.map ?qh,q.ro++(q.zs.filter (hit day ps)).map (·.nm)⟩
 |.join a b f,q=>⟨q.vs,jnO (voD q.vs) q.jo a b f,q.zs,q.ro⟩
 |.stake o g,q=>⟨q.vs,q.jo,q.zs++[vst day (q.vs.flatMap (·.2.2)) (nwC T day o g)],q.ro++if hit day (q.vs.flatMap (·.2.2)) (nwC T day o g) then [day] else []⟩
 |.clm f,q=>⟨q.vs,q.jo,(trO T day q.zs q.ro f).1,(trO T day q.zs q.ro f).2⟩
abbrev hst(T:J)(pl:Z (J×Kd))(q:Ps):Ps:=pl.foldl (λq p=>sK T p.1 p.2 q) q
section
abbrev kp(F:Z J)(n:J):Bool:=!F.contains n
variable {F:Z J}
def kp_t:kp F n=L↔n ∉ F:=by unfold kp; rw[Qkk,<- Qx2,Qjt]
def kp_f:kp F n=Y6↔n∈F:=by unfold kp; rw[Bool.not_eq_false',Qjt]
theorem qlp(hn:n∈F)(hd:day∈F):∀ro:Z J,(insA n day ro).filter (kp F)=ro.filter (kp F)
 |[]=>rfl
 |x::r=>by
  unfold insA
  split
  ·rename_i e;subst e;rw[Qzv (by rw[kp_f.mpr hn]; nofun),Qzv (by rw[kp_f.mpr hd]; nofun),Qzv (by rw[kp_f.mpr hn]; nofun)]
  ·rw[Qzz,Qzz,qlp hn hd r]
theorem qeu(hn:n ∉ F)(hd:day ∉ F):∀ro:Z J,(insA n day ro).filter (kp F)=insA n day (ro.filter (kp F))
 |[]=>rfl
 |x::r=>by
  rw[insA]
  split
  ·rename_i e;subst e;rw[Qzi (kp_t.mpr hn),Qzi (kp_t.mpr hd),Qzi (kp_t.mpr hn),insA,Z9 rfl]
  ·rename_i e;rw[Qzz,Qzz,qeu hn hd r]
   split
   ·rw[insA,Z8 e]
   ·rfl
def fnd_in(hn:n∈F)(zs:Z Cl):(zs.filter λc=>kp F c.nm).find? (λc=>c.nm==n)=none:=
 Qxd.mpr λc hc=>by
  have:=kp_t.mp (Qqu.mp hc).2;intro e;rw[eq_of_beq e]at this;exact this hn
theorem qj9(hn:n ∉ F):∀zs:Z Cl,(zs.filter λc=>kp F c.nm).find? (λc=>c.nm==n)=zs.find? λc=>c.nm==n
 |[]=>rfl
 |c::r=>by
  rw[Qzz]
  split
  ·rw[Qq2,Qq2,qj9 hn r]
  ·rename_i e;have:(c.nm==n)=false:=by
    rw[beq_eq_false_iff_ne];intro z;rw[z]at e;exact e (kp_t.mpr hn)
   rw[Qq2,this,qj9 hn r]
theorem qvl(hn:c'.nm∈F):∀zs:Z Cl,(upd zs c').filter (λc=>kp F c.nm)=zs.filter λc=>kp F c.nm
 |[]=>rfl
 |c::r=>by
  show((if c.nm=c'.nm then c' else c)::upd r c').filter _=_;rw[Qzz,Qzz,qvl hn r]
  split
  ·rename_i e;rw[e,kp_f.mpr hn]
   rfl
  ·rfl
theorem qje(hn:c'.nm ∉ F):∀zs:Z Cl,(upd zs c').filter (λc=>kp F c.nm)=upd (zs.filter λc=>kp F c.nm) c'
 |[]=>rfl
 |c::r=>by
  show((if c.nm=c'.nm then c' else c)::upd r c').filter _=_;rw[Qzz,Qzz,qje hn r]
  by_cases e:c.nm=c'.nm
  ·rw[Z9 e,Z9 (kp_t.mpr hn),e,Z9 (kp_t.mpr hn)];show _=(if c.nm=c'.nm then c' else c)::_;rw[Z9 e]
   rfl
  ·rw[Z8 e]
   split
   ·show _=(if c.nm=c'.nm then c' else c)::_;rw[Z8 e]
    rfl
   ·rfl
theorem qa7:∀zs:Z Cl,(zs.map ?qh).filter (λc=>kp F c.nm)=(zs.filter λc=>kp F c.nm).map ?qh
 |[]=>rfl
 |c::r=>by
  rw[Qqd,Qzz,Qzz,(qzl day ps c).1,qa7 r]
  split<;>rfl
theorem qa8:∀zs:Z Cl,((zs.filter (hit day ps)).map (·.nm)).filter (kp F)=((zs.filter λc=>kp F c.nm).filter (hit day ps)).map (·.nm)
 |[]=>rfl
 |c::r=>by
  have a:=qa8 (day:=day) (ps:=ps) r
  cases h:hit day ps c with
  |true=>
   rw[Qzi h,Qqd,Qzz,Qzz,a]
   split
   ·rw[Qzi h]; rfl
   ·rfl
  |false=>
   rw[Qzv (by rw[h]; nofun),a,Qzz (p:=λ(c:Cl)=>kp F c.nm)]
   split
   ·rw[Qzv (by rw[h]; nofun)]
   ·rfl
abbrev ptN:Kd->Y2 J
 |.clm (.tup (.str _::.int n::[.int _,.int _,.int _]))=>Y n
 |_=>B
def ql5{T:J}(h:∀n,ptN (.clm f)=Y n->n<day->(day∈F↔n∈F))(zs)(e:∀c∈zs,c.nm<day)(ro):
  ((trO T day zs ro f).1.filter (λc=>kp F c.nm),(trO T day zs ro f).2.filter (kp F))=trO T day (zs.filter λc=>kp F c.nm) (ro.filter (kp F)) f:=by
 unfold trO
 split
 case h_2=>rfl
 rename_i v n r
 by_cases hn:n∈F
 ·rw[fnd_in hn]
  cases hf:zs.find? λc=>c.nm==n with
  |none=>rfl
  |some c=>
   have b:c.nm=n:=eq_of_beq (by simpa using Qz1 hf);have a:n<day:=b▸e c (Qzw hf);have hc:c.nm∈F:=b▸hn;dsimp only
   split
   ·rfl
   ·split
    ·split
     ·exact Prod.ext (qvl (by exact hc) zs) rfl
     ·exact Prod.ext (qvl (by exact hc) zs) rfl
    ·exact Prod.ext (qvl (by exact hc) zs) rfl
    ·have hd:=(h n rfl a).mpr hn
     split
     ·rfl
     ·rename_i d _ _;refine Prod.ext ?_ ?_
      ·dsimp only;rw[Qq8,qvl (c':={ c with g:=d }) hc zs,Qzv (by rw[kp_f.mpr hd]; nofun),Qkl,Qqs]
      ·dsimp only
       cases c.v with
       |none=>rfl
       |some _=>exact qlp hc hd ro
    ·rfl
 ·rw[qj9 hn]
  cases hf:zs.find? λc=>c.nm==n with
  |none=>rfl
  |some c=>
   have b:c.nm=n:=eq_of_beq (by simpa using Qz1 hf);have a:n<day:=b▸e c (Qzw hf);have hc:c.nm ∉ F:=b▸hn;dsimp only
   split
   ·rfl
   ·split
    ·split
     ·exact Prod.ext (qje (by exact hc) zs) rfl
     ·exact Prod.ext (qje (by exact hc) zs) rfl
    ·exact Prod.ext (qje (by exact hc) zs) rfl
    ·have hd:day ∉ F:=λz=>hn ((h n rfl a).mp z)
     split
     ·rfl
     ·rename_i d _ _;refine Prod.ext ?_ ?_
      ·dsimp only;rw[Qq8,qje (c':={ c with g:=d }) hc zs,Qzi (p:=λ(c:Cl)=>kp F c.nm) (kp_t.mpr hd)]
       rfl
      ·dsimp only
       cases c.v with
       |none=>rfl
       |some _=>exact qeu hc hd ro
    ·rfl
def sK_nm{T:J}:∀c∈(sK T day k q).zs,(∃x∈q.zs,x.nm=c.nm)\/c.nm=day:=λc hc=>by
 have un:∀d:Cl,∀c∈upd q.zs d,∃x∈q.zs,x.nm=c.nm:=λd c hc=>by
  have:c.nm∈(upd q.zs d).map (·.nm):=Qqj.mpr ⟨c,hc,rfl⟩;rw[qqh]at this;exact Qqj.mp this
 cases k with
 |vein s ps=>
  obtain⟨x,e,rfl⟩:=Qqj.mp hc;exact .inl ⟨x,e,(qzl day ps x).1.symm⟩
 |join a b f=>exact .inl ⟨c,hc,rfl⟩
 |stake o g=>
  rcases Qqi.mp hc with h|h
  ·exact .inl ⟨c,h,rfl⟩
  ·rw[Qqa.mp h]; exact .inr (qzl _ _ _).1
 |clm f=>
  have hc:c∈(trO T day q.zs q.ro f).1:=hc;unfold trO at hc;have self:=λh:c∈q.zs=>(Or.inl ⟨c,h,rfl⟩:(∃x∈q.zs,x.nm=c.nm)\/c.nm=day)
  split at hc
  case h_2=>exact self hc
  split at hc
  ·exact self hc
  ·split at hc
   ·exact self hc
   ·split at hc
    ·split at hc<;>exact .inl (un _ c hc)
    ·exact .inl (un _ c hc)
    ·split at hc
     ·exact self hc
     ·rcases Qqi.mp hc with h|h
      ·exact .inl (un _ c h)
      ·rw[Qqa.mp h]; exact .inr rfl
    ·exact self hc
end
section
variable {W H P T d day:J}{k:Y0}{q:Ps}{cs:Z Cl}{rest:Y1}
structure Fs (W H T d:J) (k:Y0) (q:Ps) (cs:Z Cl) (rest:Y1):Prop where
 pu:Pu W H k T d q.vs q.jo cs q.ro
 z:cs.map Cl.z=q.zs
 I:Inv rest cs
noncomputable abbrev FQ(W H P T d:J)(q:Ps)(cs:Z Cl)(rest:Y1):Y1:=FC (Z0 W H P) T d (voD q.vs) q.jo cs q.ro rest
def qpf(m)(h:Fs W H T d k q cs rest)(hk:k<24)(hf:KdOk W H P i)(x:1<=day)(u:day<=400)(hd:d<day):
  ∃w cs' rest',callD fns (m+7) 42 [Y3 0,O day,i.f] (FQ W H P T d q cs rest)=Y (sO w,FQ W H P T day (sK T day i q) cs' rest')/\Fs W H T day (k+1) (sK T day i q) cs' rest':=by
 obtain⟨h,r,I⟩:=h;have:=h.cl;have:=h.rl;have:=h.vl;have:=h.jl;have hs:=hf.1.sound m (FQ W H P T d q cs rest);have ne:∀c∈cs,c.nm≠day:=λc hc=>by have:=h.R.le c hc; lia
 have nd:((cs.map Cl.z).map (·.nm)).Nodup:=by rw[Qqp]; exact h.up.imp Int.ne_of_lt
 cases i with
 |vein s ps=>
  obtain⟨ss,rfl,X,R,C,t,F,hc⟩:=hf.2;obtain⟨e,n⟩:=qip (T:=T) (d:=day) (jo:=q.jo) (ro:=q.ro) m I (Y9 ?H) ps q.vs (λv hv=>by have:=h.vd v hv; lia) ?d ?d ?d;have K:=vsts_z day ps cs;rw[r]at K;have y:=qjc m x u hd hs (e (Z0 W H P));have p:=h.vein hk hd ?d C F (λz=>by rw[z]at t; cases t) hc;rw[K.2]at y p;exact⟨"good",_,_,y,p,K.1,n⟩
 |join a b f=>
  obtain⟨w,Q,e,E,l,D⟩:=qir (T:=T) (d:=day) (fo:=voD q.vs) (jo:=q.jo) (cs:=cs) (ro:=q.ro) (rest:=rest) (m+4) a b f ?d;have V:=E.fn;subst V;refine⟨w,cs,rest,qjc m x u hd hs (e (Z0 W H P)),h.join hk hd l ?_,r,I⟩;show JoI q.vs (jnO (voD q.vs) q.jo a b f);rcases D with z|⟨t,F,z⟩
  ·rw[z]; exact h.jv
  ·rw[z]; exact h.jv.put t (vo_mem F)
 |stake o g=>
  obtain⟨cs',ro',rest',e,n,A,ds,j,rfl⟩:=qgw (T:=T) (d:=day) (jo:=q.jo) (ro:=q.ro) m I o g q.vs (h.vn.imp Int.ne_of_lt) ?d (λv hv=>(h.V v hv).2) ?d ne;exact⟨"good",cs',rest',qjc m x u hd hs (e (Z0 W H P)),h.stake hk hd A j ds,by rw[j,r]; rfl,n⟩
 |clm f=>
  have hc:CF' f:=hf.2;obtain⟨w,cs',ro',rest',e,n,A,ds,N⟩:=qfn (T:=T) (d:=day) (fo:=voD q.vs) (jo:=q.jo) (m+1) I d day hd ?d (λc hc=>by have:=h.dl c hc; lia) h.R h.ch hc;have G:=N.fn nd;rw[r]at G;have y:=qjc m x u hd hs (qga (m+1) hc (e (Z0 W H P)));have p:=h.claim hk hd (λc hc=>(I.ne c hc).1) A N ds;have U:(sK T day (.clm f) q).ro=ro':=congrArg Prod.snd G;have S:(sK T day (.clm f) q).zs=cs'.map Cl.z:=congrArg Prod.fst G;subst U;exact⟨w,cs',rest',y,p,S.symm,n⟩
end
mutual
theorem mp_nl:∀d:D,noLoc d=L->mp f d=d
 |Y3 l,h=>by cases h
 |Y9 ds,h=>congrArg D.tup (qv6 ds h)
 |Yc ds,h=>congrArg D.lst (qv6 ds h)
 |.non,_=>rfl
 |.bl _,_=>rfl
 |O _,_=>rfl
 |.str _,_=>rfl
theorem qv6:∀ds:Z D,noLocs ds=L->mps f ds=ds
 |[],_=>rfl
 |d::r,h=>by
  have h:(noLoc d&&noLocs r)=true:=h;rw[Qqt]at h;rw[mps,mp_nl d h.1,qv6 r h.2]
end
def qyp{pre S:Y1}(c:pre.length=N)(hf:fns[f]?=Y F)(a:F.iso=L)(b:noLocs es=L)(h:callD fns (m+1) f (Y3 0::es) S=Y (d,S')):
  callD fns (m+1) f (Y3 N::es) (pre++up N S)=Y (mp (· + N) d,pre++up N S'):=by
 have h:stepCall fns ?M f (Y3 0::es) S=Y (d,S'):=h;show stepCall fns ?M f (Y3 N::es) (pre++up N S)=_;unfold stepCall at h ⊢;rw[hf]at h ⊢;dsimp only at h ⊢;rw[Z9 a]at h ⊢;have:=qo1 (g:=callB F ?M) c h;rw[show mps (· + N) (D.loc 0::es)=Y3 (0+N)::mps (· + N) es from rfl,Qz3,qv6 es b]at this;exact this
noncomputable abbrev Pk:=Z (J×Kd)
noncomputable abbrev pK(p:J×Kd):D:=.tup [.int p.1,p.2.f]
noncomputable abbrev tK(p:J×Kd):D:=.tup [sO "tell",.int p.1,p.2.f]
noncomputable abbrev kvD(ts:Pk):Z (D×D):=ts.map λp=>(.int p.1,p.2.f)
noncomputable abbrev DS(sz:D)(T:J)(kv:Z (D×D))(dn:Z D)(b:Y0)(X:Y1):Y1:=
 .obj 802 [("extent",sz),("year",.int T),("kept",.loc 1),("done",.loc 2),("back",.loc b)]::.dic L kv::.lst L dn::X
section
variable {W H P T day:J}{kv:Z (D×D)}{dn:Z D}{b:Y0}{X:Y1}{sz:D}
def qia(c:1<=W)(a:W<=24)(g:1<=H)(f:H<=24)(p0:0<=P)(p1:P<=12)(e:1<=T)(d:T<=400)(m):callD fns (m+3) 54 [Y3 0,O W,O H,O P,O T] [.obj 802 []]=Y (.non,DS ?w T [] [] 3 ?qv):=
 qzz 9 [] 3 [Kb (Z6 c),Kb (Z6 a),Kb (Z6 g),Kb (Z6 f),Kb (Z6 p0),Kb (Z6 p1),Kb (Z6 e),Kb (Z6 d)]
def qnp(m)(f)(hk:kv.length<lim)(hd:dn.length<lim):callD fns (m+2) 56 [Y3 0,Y9 [sO "tell",O day,f]] (DS sz T kv dn b X)=Y (.non,DS sz T (dput kv (O day) f) (dn++[Y9 [sO "tell",O day,f]]) b X):=
 qzz 3 [] 2 [Kb (Z6 hk),Kb (Z6 hd)]
def qc3(m)(c:1<=day)(a:day<=400)(hs:callD fns (m+6) 8 [sz,f] (DS sz T kv dn b X)=Y (.bl L,DS sz T kv dn b X))(hn:dget kv (O day)=B)(hk:kv.length<lim)(hd:dn.length<lim):
  callD fns (m+7) 55 [Y3 0,O day,f] (DS sz T kv dn b X)=Y (.non,DS sz T (dput kv (O day) f) (dn++[Y9 [sO "tell",O day,f]]) ?q2 (X++?qv)):=
 qzz 3 [40,8,56] 7 [Kc (qbk (m+4) (DS sz T kv dn b X) day c a),Kc hs,Kq hn,Kc (qnp (sz:=sz) (T:=T) (day:=day) (b:=b) (X:=X) (m+4) f hk hd)]
end
def qdw(h:l.Perm ns)(hn:ns.Pairwise (· < ·)):sortInt l=ns:=
 List.Perm.eq_of_pairwise (le:=(· <= ·)) (λa b _ _ h1 h2=>Int.le_antisymm h1 h2) (MS.sortInt_sorted l) (hn.imp Int.le_of_lt) ((MS.sortInt_perm l).trans h)
theorem asI:∀l:Z J,asInts (l.map O)=Y l
 |[]=>rfl
 |x::l=>by show(asInts (l.map O)).map (x::·)=_; rw[asI l]; rfl
def qdv{ks:Z J}(h:st[l]?=Y (.dic L kvs))(hk:keysOf kvs=ks.map O)(a:ks.Perm ns)(hn:ns.Pairwise (· < ·))(hl:ns.length<64):bfun st .sorted [Y3 l]=Y (Y3 st.length,st++[Y8 L (ns.map O)]):=by
 have c:seqAt st (Y3 l)=none:=by show listAt st l=_; unfold listAt; rw[h]
 have b:dkeys st (Y3 l)=Y (ks.map O):=by
  show(dicAt st l).map keysOf=_;unfold dicAt;rw[h];exact congrArg Y hk
 show((seqAt st (Y3 l)).or (dkeys st (Y3 l))).bind _=_;rw[c,b];show Option.map _ (if 64<=(ks.map D.int).length then B else asInts (ks.map O))=_;rw[Z8 (by rw[Qqz,a.length_eq]; lia),asI];show Y (alloc st (Y8 L ((sortInt ks).map O)))=_;rw[qdw a hn]
 rfl
structure Kp (ts pl:Pk):Prop where
 perm:ts.Perm pl
 up:(pl.map (·.1)).Pairwise (· < ·)
 len:pl.length<=24
 day:∀p∈pl,1<=p.1/\p.1<=400
def qop(a):keysOf (kvD a)=(a.map (·.1)).map O:=by unfold keysOf; rw[Qqp,Qqp]; rfl
theorem qec:∀{b}{p},(b.map (·.1)).Nodup->p∈b->dget (kvD b) (O p.1)=Y p.2.f
 |a::r,p,nd,h=>by
  rw[Qqd,Qzj]at nd
  have c:dget (kvD (a::r)) (O p.1)=bif a.1==p.1 then Y a.2.f else dget (kvD r) (O p.1):=by
   unfold dget;show Option.map _ (List.find? _ ((D.int a.1,a.2.f)::kvD r))=_;rw[Qq2,eqI];cases a.1==p.1<;>rfl
  rw[c];rcases Qqc.mp h with rfl|h'
  ·rw[beq_self_eq_true]; rfl
  ·have:(a.1==p.1)=false:=beq_eq_false_iff_ne.mpr λe=>nd.1 (Qqj.mpr ⟨p,h',e.symm⟩);rw[this];exact qec nd.2 h'
section
variable {ts pl:Pk}(K:Kp ts pl)
include K
theorem Kp.nd:(ts.map (·.1)).Nodup:=(K.perm.map _).nodup_iff.mpr (K.up.imp Int.ne_of_lt)
theorem Kp.get(h:p∈pl):dget (kvD ts) (O p.1)=Y p.2.f:=qec K.nd (K.perm.mem_iff.mpr h)
theorem nl_pK(hn:∀p∈pl,noLoc p.2.f=L):noLocs ?U=true:=qzj λp a=>by
 show(L&&(noLoc p.2.f&&L))=L;rw[hn p a]
 rfl
variable {T:J}{dn:Z D}{b:Y0}{X:Y1}{sz:D}
theorem qiw(m):callD fns (m+1) 58 [Y3 0] (DS sz T (kvD ts) dn b X)=Y (Y3 ?q2,DS sz T (kvD ts) dn b (X++[Y8 L ?U])):=by
 have hl:=K.len;have a:=qdv (st:=DS sz T (kvD ts) dn b X) (l:=1) rfl (qop ts) (K.perm.map _) K.up ?t;have c:(?M).ev [Y (Y3 0)] (DS sz T (kvD ts) dn b X) (.gc (.bcall .sorted [.attr 802 ?K "kept"]))=Y (.lst ((pl.map (·.1)).map O),DS sz T (kvD ts) dn b X):=
  qzr 3 [] 0 [Kc a,Kl (qzv (st:=DS sz T (kvD ts) dn b X) (nlI (pl.map (·.1))))]
 have h:=qxd (it:=.gc (.bcall .sorted [.attr 802 ?K "kept"])) (elt:=.tup [.var 0,.didx (.attr 802 ?qn "kept") ?K]) (sr:=[B,Y 0]) (es:=pl.map pK) (s:=.lst (.lst ((pl.map (·.1)).map O)))
  (by show((?M).ev _ _ _).bind _=_; rw[c]; rfl) (qz9 rfl) (qzh rfl) rfl ?g ?l λi d e hd f=>by
   rw[Qqp,Qqv]at hd;rw[Qqv]at f;obtain⟨p,g,rfl⟩:=Qqy.mp hd;rw[g]at f;cases f;exact qzr 3 [] 0 [Kq (K.get (Qqn g))]
 exact qzz 3 [] 1 [Kc h]
end
def qkk{pre S:Y1}(a:pre.length=N)(h:S[i]?=Y c):(pre++up N S)[i+N]?=Y (mpC (· + N) c):=by
 rw[Qzf ?d,a,Qj8,Qqv,h]
 rfl
noncomputable abbrev q0:Ps:=⟨[],[],[],[]⟩
def pu0{T:J}:Fs W H T 0 0 q0 [] [] where
 pu:=⟨⟨Qq4 _,Qq4 _,Qq4 _⟩,Qq4 _,.nil,Qqw _,Qzg _,Qq4 _,Qqw _,.nil,Qq4 _,Qq4 _,Qq4 _,Qqw _,Qq4 _⟩
 z:=rfl
 I:=⟨Qq4 _,.nil,Qq4 _,.nil⟩
noncomputable abbrev fcU(N:Y0)(W H P T d:J):Ya:=mpC (· + N) (.obj 673 [("extent",szD W H P),("year",.int T),("day",.int d),("found",.loc 1),("joints",.loc 2),("staked",.loc 3),("dug",.loc 6),("debts",.loc 7)])
section
variable {ts pl:Pk}(K:Kp ts pl){W H P T D:J}{dn:Z M.D}{b:Y0}{X:Y1}(hX:∀p∈pl,KdOk W H P p.2)
noncomputable abbrev enD(W H P T:J)(ts:Pk)(dn:Z M.D)(b:Y0)(X:Y1)(F:Y1):Y1:=DS ?w T (kvD ts) dn b (X++up ?q2 F)
include K hX
theorem qcq(R:1<=W)(Q:W<=24)(h1:1<=H)(h2:H<=24)(p0:0<=P)(p1:P<=12)(V:1<=T)(U:T<=400)(m):
  ∃d k cs rest,callD fns (m+8) 60 [Y3 0,O D] (DS ?w T (kvD ts) dn b X)=Y (Y3 ?q2,enD W H P T ts dn b X (FQ W H P T d (hst T (pl.filter λp=>decide (p.1<=D)) q0) cs rest))/\Fs W H T d k (hst T (pl.filter λp=>decide (p.1<=D)) q0) cs rest/\d<=max D 0/\k<=24:=by
 have hl:=K.len;have n:(DS ?w T (kvD ts) dn b X).length=X.length+3:=rfl;have e0:=qyp (f:=41) n rfl rfl (es:=[O W,O H,O P,O T]) rfl (qo8 R Q h1 h2 p0 p1 V U (m+4));have hn:noLocs ?U=true:=nl_pK K λp A=>DF.noLoc (hX p A).1;obtain⟨τ',st',hf,d,k,cs,rest,a,I,rfl,rfl,F,hk,hd,hr⟩:=qz1 (c:=callD fns (m+7)) (τ:=[Y (Y3 0),Y (O D),Y (Y3 ?q2),B,B]) (st:=enD W H P T ts dn b X (FQ W H P T 0 q0 [] [])) (it:=.gc (.mcall 802 58 "facts" ?K [])) (s:=.lst (.lst ?U)) (ds:=pl.map pK) (t:=.tup [3,4])
  (body:=[.ite (.cmp .LtE ?qk ?qn) [.expr (.mcall 673 42 "enter" (.var 2) [.var 3,.var 4])] []])
  (λi τ' st'=>∃(d:J) (k:Y0) (cs:Z Cl) (rest:Y1) (a I:Y2 M.D),τ'=[Y (Y3 0),Y (O D),Y (Y3 ?q2),a,I]/\st'=enD W H P T ts dn b X (FQ W H P T d (hst T ((pl.take i).filter λp=>decide (p.1<=D)) q0) cs rest)/\Fs W H T d k (hst T ((pl.take i).filter λp=>decide (p.1<=D)) q0) cs rest/\k<=i/\d<=max D 0/\∀p∈pl.drop i,d<p.1)
  (by
   have e:=qiw (T:=T) (sz:=szD W H P) (dn:=dn) (b:=b) (X:=X++up ?q2 (FQ W H P T 0 q0 [] [])) K (m+6);have g:=qzv (st:=enD W H P T ts dn b X (FQ W H P T 0 q0 [] [])) hn;have E:(RL (callD fns (m+7))).ev [Y (Y3 0),Y (O D),Y (Y3 ?q2),B,B] (enD W H P T ts dn b X (FQ W H P T 0 q0 [] [])) (.gc (.mcall 802 58 "facts" ?K []))=Y (.lst ?U,enD W H P T ts dn b X (FQ W H P T 0 q0 [] [])):=
    qzr 3 [58] 7 [Kc e,Kl g]
   show((RL (callD fns (m+7))).ev _ _ _).bind _=_;rw[E]
   rfl)
  (qzh rfl) (λk τ' st' _=>qz9 rfl k) ⟨0,0,[],[],B,B,rfl,rfl,pu0,Qqw _,?d,λp A=>by have:=(K.day p (List.mem_of_mem_drop A)).1; lia⟩ (λi τ' st' x N A=>by
   obtain⟨d,k,cs,rest,a,I,rfl,rfl,F,hk,hd,hr⟩:=A;rw[Qqv]at N;obtain⟨p,hi,rfl⟩:=Qqy.mp N;obtain⟨r,v⟩:=Qqk.mp hi;have o:=Qqn hi;have dr:pl.drop i=p::pl.drop (i+1):=by rw[Qx1 r,v]
   have tk:pl.take (i+1)=pl.take i++[p]:=by rw[Qq3 r,v]
   rw[dr]at hr;have G:=hr p (.head _);have l:∀u∈pl.drop (i+1),p.1<u.1:=λu C=>by
    obtain⟨j,hj,rfl⟩:=Qx4 C;rw[List.getElem_drop];have hj:=Qxm▸hj;have:=Qxe.mp K.up i (i+1+j) (by simpa using r) ?t ?d;rw[Qkc,Qkc,v]at this;exact this
   by_cases hc:p.1<=D
   ·obtain⟨w,cs',h,e,F'⟩:=qpf m F ?d (hX p o) (K.day p o).1 (K.day p o).2 G;have e:=qyp (f:=42) (m:=m+6) (pre:=DS ?w T (kvD ts) dn b X) (es:=[O p.1,p.2.f]) n rfl rfl (by show(L&&(noLoc p.2.f&&L))=L; rw[DF.noLoc (hX p o).1]; rfl) e;have z:hst T ((pl.take (i+1)).filter λp=>decide (p.1<=D)) q0=sK T p.1 p.2 (hst T ((pl.take i).filter λp=>decide (p.1<=D)) q0):=by
     rw[tk,Qq8,Qzi (p:=λ(p:J×Kd)=>decide (p.1<=D)) (Z6 hc)];unfold hst;rw[Qxv]
     rfl
    refine⟨[Y (Y3 0),Y (O D),Y (Y3 ?q2),Y (O p.1),Y p.2.f],enD W H P T ts dn b X (FQ W H P T p.1 (sK T p.1 p.2 (hst T ((pl.take i).filter λp=>decide (p.1<=D)) q0)) cs' h),?_,p.1,k+1,cs',h,_,_,rfl,by rw[z],by rw[z]; exact F',?d,?d,l⟩;have y:(enD W H P T ts dn b X (FQ W H P T d (hst T ((pl.take i).filter λp=>decide (p.1<=D)) q0) cs rest))[X.length+3]?=Y (fcU ?q2 W H P T d):=by
     have:=qkk (i:=0) (S:=FQ W H P T d (hst T ((pl.take i).filter λp=>decide (p.1<=D)) q0) cs rest) n rfl;rw[Qz3]at this;exact this
    generalize hst T ((pl.take i).filter λp=>decide (p.1<=D)) q0=q at *;exact qzp 3 [42] 7 [Kb (Z6 hc),Kr y,Kc e]
   ·have z:hst T ((pl.take (i+1)).filter λp=>decide (p.1<=D)) q0=hst T ((pl.take i).filter λp=>decide (p.1<=D)) q0:=by
     rw[tk,Qq8,Qzv (p:=λ(p:J×Kd)=>decide (p.1<=D)) (by rw[Z7 hc]; nofun),Qkl,Qqs]
    refine⟨[Y (Y3 0),Y (O D),Y (Y3 ?q2),Y (O p.1),Y p.2.f],_,?_,d,k,cs,rest,_,_,rfl,by rw[z],by rw[z]; exact F,?d,?d,λu C=>by have:=l u C; lia⟩
    exact qzp 3 [42] 7 [Kb (Z7 hc)])
 rw[Qqz,Qzb]at hf F;refine⟨d,k,cs,rest,?_,F,hd,by rw[Qqz]at hk; lia⟩;generalize hst T (pl.filter λp=>decide (p.1<=D)) q0=q at *;exact qzz 3 [41] 8 [Kc e0,Ks hf]
theorem qjb(g:1<=W)(c:W<=24)(n:1<=H)(l:H<=24)(p0:0<=P)(p1:P<=12)(j:1<=T)(h:T<=400)(d1:1<=D)(d2:D<=400)(m):
  ∃k cs rest,callD fns (m+9) 59 [Y3 0,O D] (DS ?w T (kvD ts) dn b X)=Y (Y3 ?q2,enD W H P T ts dn b X (FQ W H P T D (hst T (pl.filter λp=>decide (p.1<=D)) q0) cs rest))/\Fs W H T D k (hst T (pl.filter λp=>decide (p.1<=D)) q0) cs rest/\k<=24:=by
 obtain⟨d,k,cs,rest,e,F,hd,hk⟩:=qcq (D:=D) (dn:=dn) (b:=b) (X:=X) K hX g c n l p0 p1 j h m;have hd:d<=D:=by lia
 refine⟨k,cs,rest,?_,⟨F.pu.later hd,F.z,F.I⟩,hk⟩;have r:=qn5 (m+5) (sz:=Z0 W H P) (T:=T) (fo:=voD (hst T (pl.filter λp=>decide (p.1<=D)) q0).vs) (jo:=(hst T (pl.filter λp=>decide (p.1<=D)) q0).jo) (cs:=cs) (ro:=(hst T (pl.filter λp=>decide (p.1<=D)) q0).ro) (rest:=rest) d1 d2 hd;have o:=qyp (f:=47) (m:=m+7) (pre:=DS ?w T (kvD ts) dn b X) (N:=X.length+3) (es:=[O D]) rfl rfl rfl rfl r;have a:(enD W H P T ts dn b X (FQ W H P T d (hst T (pl.filter λp=>decide (p.1<=D)) q0) cs rest))[X.length+3]?=Y (fcU ?q2 W H P T d):=by
  have:=qkk (pre:=DS ?w T (kvD ts) dn b X) (N:=X.length+3) (i:=0) (S:=FQ W H P T d (hst T (pl.filter λp=>decide (p.1<=D)) q0) cs rest) rfl rfl;rw[Qz3]at this;exact this
 generalize hst T (pl.filter λp=>decide (p.1<=D)) q0=q at *;exact qzz 3 [40,60,47] 9 [Kc (qbk (m+6) (DS ?w T (kvD ts) dn b X) D d1 d2),Kc e,Kr a,Kc o]
end
theorem qfv{α b:Type}{f:α->b}:∀{l:Z α}{i:Y0},(l.map f).eraseIdx i=(l.eraseIdx i).map f
 |[],_=>rfl
 |_::_,0=>rfl
 |a::r,i+1=>congrArg (f a::·) (qfv (l:=r) (i:=i))
theorem qfk{α:Type}:∀{l:Z α}{i:Y0}(h:i<l.length),(l[i]::l.eraseIdx i).Perm l
 |_::_,0,_=>.refl _
 |a::r,i+1,h=>(List.Perm.swap a _ _).trans (.cons a (qfk (l:=r) (Nat.lt_of_succ_lt_succ h)))
def qoo(h:∀p∈a,p.1≠n):(∀p∈kvD a,eqT p.1 (O n)=Y6)/\dget (kvD a) (O n)=none:=by
 have h1:∀p∈kvD a,eqT p.1 (O n)=false:=λp b=>by
  obtain⟨u,c,rfl⟩:=Qqj.mp b;exact beq_eq_false_iff_ne.mpr (h u c)
 refine⟨h1,?_⟩;unfold dget;rw[Qxd.mpr λp b=>by rw[h1 p b]; nofun]
 rfl
def qli(h:∀u∈a,u.1≠p.1):dput (kvD a) (O p.1) p.2.f=kvD (a++[p]):=by
 rw[qqb (qoo h).1];simp[kvD]
def nd_app{a:Pk}(h:(a.map (·.1)).Nodup)(f:a[i]?=Y p):a.take (i+1)=a.take i++[p]/\∀u∈a.take i,u.1≠p.1:=by
 obtain⟨b,c⟩:=Qqk.mp f;have tk:a.take (i+1)=a.take i++[p]:=by rw[Qq3 b,c]
 refine⟨tk,λu d e=>?_⟩;have h2:((a.take i++[p]).map (·.1)).Nodup:=by rw[<- tk]; exact(Qxu _ _).map _ |>.nodup h
 rw[Qqg,Qxk]at h2;exact h2.2.2 u.1 (Qqj.mpr ⟨u,d,rfl⟩) p.1 (.head _) e
section
variable {ts:Pk}(K:Kp ts pl){W H P T:J}(hX:∀p∈pl,KdOk W H P p.2)
include K hX
theorem qib(k:1<=W)(h:W<=24)(v:1<=H)(u:H<=24)(p0:0<=P)(p1:P<=12)(n:1<=T)(l:T<=400)(m):
  ∃j X,callD fns (m+8) 76 [szD W H P,O T,.lst (ts.map pK)] []=Y (Y3 0,DS ?w T (kvD ts) (ts.map tK) (j+3) X)/\X[j]?=Y (Y8 L []):=by
 have hl:=K.len;have s:=K.perm.length_eq;obtain⟨τ',st',hf,j,X,a,b,rfl,rfl,hj⟩:=qe8 (c:=callD fns (m+7)) (τ:=[Y ?w,Y (O T),Y (.lst (ts.map pK)),Y (Y3 0),B,B]) (st:=DS ?w T [] [] 3 ?qv) (i:=2) (q:=.lst (ts.map pK)) (ds:=ts.map pK) (t:=.tup [4,5])
  (body:=[.expr (.mcall 802 55 "tell" ?qk [.var 4,.var 5])])
  (λi τ' st'=>∃(j:Y0) (X:Y1) (a b:Y2 D),τ'=[Y ?w,Y (O T),Y (.lst (ts.map pK)),Y (Y3 0),a,b]/\st'=DS ?w T (kvD (ts.take i)) ((ts.take i).map tK) (j+3) X/\X[j]?=Y (Y8 L []))
  rfl ⟨0,_,B,B,rfl,rfl,rfl⟩ (λ_ _ _ _=>rfl) (λi τ' st' x g o=>by
   obtain⟨j,X,a,b,rfl,rfl,hj⟩:=o;rw[Qqv]at g;obtain⟨p,hi,rfl⟩:=Qqy.mp g;have d:=K.perm.mem_iff.mp (Qqn hi);obtain⟨tk,f⟩:=nd_app K.nd hi;have l1:(ts.take i).length<lim:=by rw[Qzy]; unfold lim; lia
   have e:=qc3 (T:=T) (b:=j+3) (X:=X) m (K.day p d).1 (K.day p d).2 ((hX p d).1.sound m _) (qoo f).2 (by rw[Qqz]; exact l1) (dn:=(ts.take i).map tK) (by rw[Qqz]; exact l1);rw[qli f]at e;refine⟨[Y ?w,Y (O T),Y (.lst (ts.map pK)),Y (Y3 0),Y (O p.1),Y p.2.f],DS ?w T (kvD (ts.take (i+1))) ((ts.take (i+1)).map tK) ?q2 (X++?qv),?_,X.length,_,_,_,rfl,rfl,?g⟩;rw[tk,Qqg];generalize ts.take i=r at *
   exact qzp 3 [55] 7 [Kc e])
 rw[Qqz,Qzb]at hf;have w:=qia k h v u p0 p1 n l (m+4);exact⟨j,X,qzz 3 [54] 8 [Kc w,Ks hf],hj⟩
end
section
variable {ns:Z J}(hn:ns.length<=63)
include hn
theorem qci(hl:pl.length<=24)(z:noLocs ?U=L)(m)(k):∃ts:Pk,ts.Perm pl/\callD fns (m+2) 77 [scr ns,O k,.lst ?U] []=Y (Y3 1,[Y8 L [],Y8 L (ts.map pK)]):=by
 obtain⟨τ',st',hf,fs,rs,a,rfl,rfl,f,hr⟩:=qz1 (c:=callD fns (m+1)) (τ:=[Y (scr ns),Y (O k),Y (.lst ?U),Y (Y3 0),Y (Y3 1),B]) (st:=[Y8 L ?U,Y8 L []]) (it:=.rng1 (.bcall .len [.var 2])) (s:=.rng 0 pl.length) (ds:=(List.range pl.length).map λi:Y0=>D.int (0+(i:J))) (t:=.var 5)
  (body:=[.expr (.meth (.var 4) .append [.meth ?qk .pop [.call 61 [.var 0,.bin .Add ?qn (.var 5),.lit (O 30),.bcall .len [.var 3]]]])])
  (λi τ' st'=>∃(fs rs:Pk) (a:Y2 D),τ'=[Y (scr ns),Y (O k),Y (.lst ?U),Y (Y3 0),Y (Y3 1),a]/\st'=[Y8 L (rs.map pK),Y8 L (fs.map pK)]/\(fs++rs).Perm pl/\rs.length+i=pl.length)
  (by
   have e:(?I).ev [Y (scr ns),Y (O k),Y (.lst ?U),Y (Y3 0),Y (Y3 1),B] [Y8 L ?U,Y8 L []] (.bcall .len [.var 2])=Y (O (?U).length,[Y8 L ?U,Y8 L []]):=qzr 2 [] 1 [];show((?I).ev _ _ _).bind _=_;rw[e,Qqz];show(if big (pl.length:J)=L then B else Y (Src.rng 0 (pl.length:J).toNat,_))=_;rw[Z8 ?o]
   rfl)
  ?s (λi τ' st' _=>qxh 0 _ i) ⟨[],pl,B,rfl,rfl,.refl _,rfl⟩ (λi τ' st' x p f=>by
   obtain⟨fs,rs,a,rfl,rfl,f,hr⟩:=f;rw[Qqv]at p;obtain⟨o,l,rfl⟩:=Qqy.mp p;obtain⟨j,A⟩:=Qqk.mp l;rw[Qxl]at j;obtain⟨y,w,q,n⟩:=dr hn m [Y8 L (rs.map pK),Y8 L (fs.map pK)] (k+(0+(o:J))) 30 (many:=(rs.map pK).length) ?c ?c ?t;rw[Qqz]at n;have b:y.toNat<rs.length:=by lia
   have g:(if 0<=y/\y<(rs.map pK).length/\(rs.map pK).length<lim then((rs.map pK)[y.toNat]?).map λd=>(d,[Ya.lst L ((rs.map pK).eraseIdx y.toNat),Y8 L (fs.map pK)]) else B)=Y (pK rs[y.toNat],[Y8 L ((rs.eraseIdx y.toNat).map pK),Y8 L (fs.map pK)]):=by
    rw[Z9 ⟨q,by rw[Qqz]; exact n,?k⟩,Qqv,Qqb b,qfv]
    rfl
   refine⟨[Y (scr ns),Y (O k),Y (.lst ?U),Y (Y3 0),Y (Y3 1),Y (O (0+(o:J)))],[Y8 L ((rs.eraseIdx y.toNat).map pK),Y8 L ((fs++[rs[y.toNat]]).map pK)],?_,fs++[rs[y.toNat]],rs.eraseIdx y.toNat,_,rfl,rfl,?_,?_⟩
   ·have r:decide ((fs.map pK).length<lim)=true:=Z6 (by
     have:=f.length_eq;rw[Qqr]at this
     rw[Qqz]; unfold lim; lia)
    rw[Qqg];generalize rs[y.toNat]=u at *;generalize (rs.eraseIdx y.toNat).map pK=v at *;exact qzp 2 [61] 1 [Kc w,Kc g,Kb r]
   ·refine List.Perm.trans ?_ f;rw[Qqo];refine List.Perm.append_left fs ?_;exact qfk b
   ·rw[List.length_eraseIdx_of_lt b]; lia)
 rw[Qqz,Qxl]at hr;have h:rs=[]:=Qzs.mp ?d;subst h;rw[Qqs]at f;exact⟨fs,f,qzz 2 [] 2 [Ks hf]⟩
end
def same_int(m)(st)(i):callD fns (m+1) 62 [O i,O i] st=Y (.bl L,st):=
 qzz 0 [] 1 [Kb (show(i==i)=L from beq_self_eq_true i)]
def qg7(m)(st):callD fns (m+1) 62 [.non,.non] st=Y (.bl L,st):=
 qzz 0 [] 1 []
noncomputable abbrev bkU(N:Y0)(cs:Z Cl):Z (D×D):=(qzf cs).map λp=>(p.1,mp (· + N) p.2)
noncomputable abbrev pU(N:Y0)(T:J)(cs:Z Cl):Pl:=⟨N,1+N,2+N,3+N,4+N,5+N,.int T,.loc (6+N),.loc (7+N),bkU N cs⟩
theorem mpv_nl:∀{kvs:Z (D×D)},(∀p∈kvs,noLoc p.2=L)->(kvs.map λp=>(p.1,mp f p.2))=kvs
 |[],_=>rfl
 |p::r,h=>by
  rw[Qqd,mp_nl p.2 (h p (.head _)),mpv_nl λu a=>h u (.tail _ a)]
def oD_up(o):mp f (oD o)=oD o:=by cases o<;>rfl
def qer(l:Z J):mps f (l.map O)=l.map O:=qv6 _ (nlI l)
def cel_up(c:Cl)(y):mpC f (c.cel (Y3 y))=c.cel (Y3 (f y)):=by
 show Ya.obj _ [("owner",O c.o),("ground",rD c.g),("days",Y3 (f y)),("last",O c.la),("vested",mp f (oD c.v)),("given",mp f (oD c.gv))]=_;rw[oD_up,oD_up]
 rfl
theorem qfd(k):∀kvs:Z (D×D),dget (kvs.map λp=>(p.1,mp f p.2)) k=(dget kvs k).map (mp f)
 |[]=>rfl
 |p::r=>by
  have a:=qfd (f:=f) k r;unfold dget at a ⊢;rw[Qqd,Qq2,Qq2];dsimp only
  cases eqT p.1 k with
  |true=>rfl
  |false=>exact a
def vo_nl(V:VsOk vs):∀p∈voD vs,noLoc p.2=true:=λp a=>by
 obtain⟨v,hv,rfl⟩:=Qqj.mp a;obtain⟨ss,e,_⟩:=(V v hv).1;show(noLoc v.2.1&&(noLoc (Y9 ?qr)&&L))=L;rw[e,qyk];show(noLocs ?H&&_)=L;rw[nlI]
 rfl
def fa_up{pre:Y1}{T:J}(e:pre.length=N)(I:Inv rest cs)(V:VsOk q.vs)(h:JoI q.vs q.jo):FA (pU N T cs) ?w d (voD q.vs) q.jo cs q.ro (pre++up N (FQ W H P T d q cs rest)++X) where
 hf:=ga X (by have:=qkk (i:=0) (S:=FQ W H P T d q cs rest) e rfl; rw[Qz3]at this; exact this)
 hv:=ga X (by
  have:=qkk (i:=1) (S:=FQ W H P T d q cs rest) e rfl;rw[show mpC (· + N) (.dic L (voD q.vs))=.dic L (voD q.vs) from congrArg (Ya.dic L) (mpv_nl (vo_nl V))]at this
  exact this)
 hj:=ga X (by
  have:=qkk (i:=2) (S:=FQ W H P T d q cs rest) e rfl
  rw[show mpC (· + N) (.dic L q.jo)=.dic L q.jo from congrArg (Ya.dic L) (mpv_nl λp g=>by
   obtain⟨a,b,f,rfl,_⟩:=h p g
   rfl)]at this
  exact this)
 hs:=ga X (qkk (i:=3) (S:=FQ W H P T d q cs rest) e rfl)
 hb:=ga X (qkk (i:=4) (S:=FQ W H P T d q cs rest) e rfl)
 hr:=ga X (by
  have:=qkk (i:=5) (S:=FQ W H P T d q cs rest) e rfl;rw[show mpC (· + N) (Y8 L (rowD q.ro))=Y8 L (rowD q.ro) from congrArg (Ya.lst L) (qer q.ro)]at this
  exact this)
 hc:=λc hc=>by
  have h1:=qkk (i:=c.j+9) (S:=FQ W H P T d q cs rest) e (I.at_ c hc).2;have h2:=qkk (i:=c.j+8) (S:=FQ W H P T d q cs rest) e (I.at_ c hc).1;rw[cel_up]at h1;rw[show mpC (· + N) c.dl=c.dl from congrArg (Ya.lst L) (qer c.ds)]at h2;refine⟨c.j+9+N,c.j+8+N,?_,ga X h1,ga X h2⟩;rw[qfd,I.get hc]
  rfl
 hk:=by
  show((qzf cs).map _).map _=_;unfold qzf;rw[Qqp,Qqp]
  rfl
section
variable {ns:Z J}(hn:ns.length<=63){W H P:J}(w1:1<=W)(w2:W<=24)(h1:1<=H)(h2:H<=24)(p0:0<=P)(p1:P<=12)
include hn w1 w2 h1 h2 p0 p1
theorem qm1(m)(st):∃fd:Z P3,callD fns (m+2) 78 [scr ns,O 1,szD W H P] st=Y (Y3 st.length,st++[Y8 L (fd.map spD)])/\fd.length<=40/\∀p∈fd,InG W H P p:=by
 obtain⟨sp,b,l1,l2,f⟩:=qg6 w1 w2 h1 h2 p0 p1 m st;obtain⟨v,hv,v1,w⟩:=dr hn m st 1 65 (many:=(sp.map spD).length) ?c ?c ?t;have u:=qzv (st:=st) (ds:=sp.map spD) (qzj λ_ _=>rfl);obtain⟨n,g,A,z⟩:∃n:J,(?I).ev [Y (scr ns),Y (O 1),Y ?w,Y (Yc (sp.map spD)),Y (O v)] st (.bcall .min [.lit (O 40),.bcall .len [Yd 3]])=Y (O n,st)/\0<=n/\n<=40:=by
  by_cases h:?qa<40
  ·exact⟨?qa,qzr 0 [] 1 [Kb (Z6 h)],?d,?d⟩
  ·exact⟨40,qzr 0 [] 1 [Kb (Z7 h)],?c,?c⟩
 have hL:0<?qa:=by rw[Qqz]; lia
 have t:?qa<2 ^ 64:=by rw[Qqz]; lia
 have a:∀i:Y0,((v+(i:J)) % ?qa).toNat<sp.length:=λi=>by
  have k:=Int.emod_nonneg (v+(i:J)) (show ?qa≠0 by lia);have C:=Int.emod_lt_of_pos (v+(i:J)) hL;have e:?qa=sp.length:=by rw[Qqz]
  lia
 have hc:=qxd (it:=.rng1 (.bcall .min [.lit (O 40),.bcall .len [Yd 3]])) (r:=RL (callD fns (m+1))) (τ:=[Y (scr ns),Y (O 1),Y ?w,Y (Yc (sp.map spD)),Y (O v)]) (S:=st) (elt:=.idx (Yd 2) (.bin .Mod (.bin .Add (Yd 1) (Yd 0)) (.bcall .len [Yd 2]))) (sr:=[B,Y 4,Y 3])
  (es:=((List.range n.toNat).map λ(i:Y0)=>sp[((v+(i:J)) % ?qa).toNat]?.getD (0,0,0)).map spD) (s:=.rng 0 n.toNat) (S':=st)
  (by
   show((?I).ev _ _ _).bind _=_;rw[g];show(if big n then B else Y (Src.rng 0 n.toNat,st))=_
   rw[Z8 ?o]) (qxh 0 n.toNat) ?s rfl ?g ?l λi d e hd j=>by
  rw[Qqv]at hd;rw[Qqp,Qqv]at j;obtain⟨x,l,rfl⟩:=Qqy.mp hd;rw[l]at j;cases j;rw[Int.zero_add];have hi:=a x;have k:=Int.emod_nonneg (v+(x:J)) (show ?qa≠0 by lia);have c:idxD st (Yc (sp.map spD)) (O ((v+(x:J)) % ?qa))=Y (spD (sp[((v+(x:J)) % ?qa).toNat]?.getD (0,0,0))):=by
   show atI (sp.map spD) _=_;unfold atI ixN;rw[Z9 k,Z9 (Int.emod_lt_of_pos _ hL),oBs,Qqv,Qqb hi]
   rfl
  have q:=bMo st (v+(x:J)) hL;generalize (v+(x:J)) % ?qa=y at *;exact qzr 0 [] 1 [Kc q,Ki c]
 refine⟨(List.range n.toNat).map λ(i:Y0)=>sp[((v+(i:J)) % ?qa).toNat]?.getD (0,0,0),?_,?r,λp o=>?_⟩
 ·exact qzz 0 [65,61] 2 [Kc b,Kl u,Kc hv,Kc hc]
 ·obtain⟨i,_,rfl⟩:=Qqj.mp o;rw[Qqb (a i)];exact f _ (Qxn _)
end
def fnd_z(cs:Z Cl)(n):(cs.map Cl.z).find? (λc=>c.nm==n)=(cs.find? λc=>c.nm==n).map Cl.z:=by
 rw[List.find?_map]
 rfl
def stB_z(cs)(d n):stB (cs.map Cl.z) d n=stB cs d n:=by
 unfold stB;rw[fnd_z];cases cs.find? λc=>c.nm==n<;>rfl
def qmr(cs)(ro)(d):(stC cs ro d).map Cl.z=stC (cs.map Cl.z) ro d:=by
 unfold stC;rw[List.map_filterMap];refine congrArg (λg=>ro.filterMap g) (funext λn=>?_);rw[stB_z,fnd_z]
 split<;>rfl
def qhk(ps)(gs):rkA ps (gs.map Cl.z)=rkA ps gs:=by
 unfold rkA;rw[Qxx]
 rfl
def qhj(ps)(p)(gs):rkG ps p (gs.map Cl.z)=rkG ps p gs:=by
 unfold rkG;rw[Qxx]
 rfl
section
variable {F:Z J}
def qmt(h:n ∉ F):stB (zs.filter λc=>kp F c.nm) d n=stB zs d n:=by
 unfold stB;rw[qj9 h]
theorem qdj(zs)(d):∀ro:Z J,stC (zs.filter λc=>kp F c.nm) (ro.filter (kp F)) d=(stC zs ro d).filter λc=>kp F c.nm
 |[]=>rfl
 |n::r=>by
  have a:=qdj zs d r;unfold stC at a ⊢
  cases hk:kp F n with
  |true=>
   rw[Qzi hk,Qq5,Qq5,a,qmt (kp_t.mp hk),qj9 (kp_t.mp hk)]
   split<;>rename_i e
   ·rfl
   ·rename_i c;have b:c.nm=n:=by
     split at e
     ·exact eq_of_beq (by simpa using Qz1 e)
     ·cases e
    rw[Qzi (p:=λ(c:Cl)=>kp F c.nm) (by rw[b]; exact hk)]
  |false=>
   rw[Qzv (by rw[hk]; nofun),a,Qq5]
   split<;>rename_i e
   ·rfl
   ·rename_i c;have b:c.nm=n:=by
     split at e
     ·exact eq_of_beq (by simpa using Qz1 e)
     ·cases e
    rw[Qzv (p:=λ(c:Cl)=>kp F c.nm) (by rw[b,hk]; nofun)]
theorem qw9(ps):∀e:Z Cl,rkA ps (e.filter λc=>kp F c.nm)=(rkA ps e).filter λp=>kp F p.1
 |[]=>rfl
 |c::r=>by
  have b:=qw9 ps r;unfold rkA at b ⊢;rw[Qzz,Qq5 (a:=c)]
  cases d:hasB c.g ps with
  |true=>
   rw[Z9 rfl];dsimp only;rw[Qzz];dsimp only
   split
   ·rw[Qq5,b,d]; rfl
   ·exact b
  |false=>
   rw[Z8 Qzx];dsimp only
   split
   ·rw[Qq5,b,d]; rfl
   ·exact b
theorem qw8(ps)(q):∀e:Z Cl,rkG ps q (e.filter λc=>kp F c.nm)=(rkG ps q e).filter λp=>kp F p.1
 |[]=>rfl
 |c::r=>by
  have d:=qw8 ps q r;unfold rkG at d ⊢;rw[Qzz,Qq5 (a:=c)]
  cases b:(if hasB c.g ps then B else if inB c.g q then Y (c.nm,"ground") else B) with
  |none=>
   dsimp only
   split
   ·rw[Qq5,d,b]
   ·exact d
  |some u=>
   have f:u=(c.nm,"ground"):=by
    split at b
    ·cases b
    ·split at b
     ·cases b; rfl
     ·cases b
   subst f;dsimp only;rw[Qzz];dsimp only
   split
   ·rw[Qq5,d,b]
   ·exact d
end
def qnk{α:Type}{p:Z α->Prop}(d:p [])(c:∀l a,p l->p (l++[a])):∀l,p l:=λl=>by
 rw[<- List.reverse_reverse l]
 induction l.reverse with
 |nil=>exact d
 |cons a r b=>rw[List.reverse_cons]; exact c _ _ b
def lk_mid{R:Z (J×Z J)}(h:b≠l):lkM (A++(l,[])::R) b=lkM (A++R) b:=by
 unfold lkM;rw[Qx0,Qx0,Qq2,beq_false_of_ne (Ne.symm h)]
def pr_mid{R:Z (J×Z J)}:prM (A++(l,[])::R)=prM (A++R):=by
 unfold prM;rw[Qz9,Qz9,Qkw]
 rfl
def qpq(nd:((b++Lq::v2).map (·.1)).Nodup)(hj:dget jo (O Lq.1)=B)(hn:∀n,jnN jo n≠Lq.1)(o:ownC W H P x y z Lq=[]):
  hdM W H P x y z jo (b++Lq::v2)=hdM W H P x y z jo (b++v2):=by
 have f:∃R,mtM W H P x y z jo (b++Lq::v2)=mtM W H P x y z jo b++(Lq.1,[])::R/\mtM W H P x y z jo (b++v2)=mtM W H P x y z jo b++R:=by
  refine qnk (p:=λv2=>∃R,mtM W H P x y z jo (b++Lq::v2)=mtM W H P x y z jo b++(Lq.1,[])::R/\mtM W H P x y z jo (b++v2)=mtM W H P x y z jo b++R) ⟨[],?_,by rw[Qqs,Qqs]⟩ (λl a ⟨R,k,d⟩=>⟨R++[(a.1,mtC W H P x y z jo a (lkM (mtM W H P x y z jo b++R) (jnN jo a.1)))],?_,?_⟩) v2
  ·rw[qjw,show mtC W H P x y z jo Lq (lkM (mtM W H P x y z jo b) (jnN jo Lq.1))=[] by unfold mtC; rw[hj]; exact o]
  ·rw[<- Qke,<- Qqo,qjw,k,lk_mid (hn a.1),Qqo]
   rfl
  ·rw[<- Qqo,qjw,d,Qqo]
 obtain⟨R,k,d⟩:=f;unfold hdM;rw[k,d,pr_mid];refine Qzr λu c=>?_;have g:u.1≠Lq.1:=by
  have j:u.1∈(b++v2).map (·.1):=by
   rw[<- qle W H P x y z jo,d];unfold prM at c;obtain⟨p,m,c⟩:=List.mem_flatMap.mp c;obtain⟨i,_,rfl⟩:=Qqj.mp c;exact Qqj.mpr ⟨p,m,rfl⟩
  intro e;rw[e]at j;rw[Qqg,Qqd,Qxk]at nd;rw[Qqg]at j;rcases Qqi.mp j with h|h
  ·exact nd.2.2 _ h _ (.head _) rfl
  ·exact(Qzj.mp nd.2.1).1 h
 unfold outF;rw[Qx0,Qx0,Qq2,beq_false_of_ne (Ne.symm g)]
def cD_eq(h:eqT (cD p) (cD q)=L):p=q:=by
 have h:((p.1==q.1)&&((p.2==q.2)&&L))=true:=h;rw[Qx8,Qqt]at h;exact Prod.ext (eq_of_beq h.1) (eq_of_beq h.2)
abbrev crs(W H P:J):J×J->Z J->Z (J×J)
 |q,[]=>[q]
 |q,s::r=>if ing W H P (q.1+(mvX s).1) (q.2+(mvX s).2) 0 then q::crs W H P (q.1+(mvX s).1,q.2+(mvX s).2) r else [q]
theorem qby(c:ing W H P (p.1+(mvX s).1) (p.2+(mvX s).2) 0=L):∀(ss:Z J) (q:J×J) (n:Y0),(crs W H P q ss)[n]?=Y p->ss[n]?=Y s->(crs W H P q ss)[n+1]?=Y (p.1+(mvX s).1,p.2+(mvX s).2)
 |[],q,n,_,h2=>by cases h2
 |a::r,q,n,h1,h2=>by
  unfold crs at h1 ⊢
  cases n with
  |zero=>
   cases h2;have e:q=p:=by
    split at h1
    ·exact Option.some.inj h1
    ·exact Option.some.inj h1
   subst e;rw[Z9 c]
   cases r with
   |nil=>rfl
   |cons b r=>show(crs W H P _ (b::r))[0]?=_; unfold crs; split<;>rfl
  |succ n=>
   split at h1
   ·rename_i d;rw[Z9 d];exact qby c r _ n h1 h2
   ·cases h1
theorem ql9:∀(n:Y0) (x y:J),n<=ss.length->ing W H P x y 0=L->clm W H P x y (ss.take n).reverse=Y q->(crs W H P q ss)[n]?=Y (x,y)
 |0,x,y,_,_,h=>by
  have e:(x,y)=q:=Option.some.inj h;subst e
  cases ss with
  |nil=>rfl
  |cons a r=>unfold crs; split<;>rfl
 |n+1,x,y,hl,d,h=>by
  have b:n<ss.length:=hl;rw[Qq3 b,List.reverse_append]at h;have h:(stp W H P x y ss[n]).bind (λu=>clm W H P u.1 u.2 (ss.take n).reverse)=Y q:=h;unfold stp at h
  split at h
  ·rename_i hi;have c:=ql9 n _ _ (Qjj b) hi h
   have:=qby (s:=ss[n]) (p:=(x - (mvX ss[n]).1,y - (mvX ss[n]).2)) (by
    show ing W H P (x - (mvX ss[n]).1+(mvX ss[n]).1) (y - (mvX ss[n]).2+(mvX ss[n]).2) 0=L;rw[Int.sub_add_cancel,Int.sub_add_cancel]
    exact d) ss q n c (Qqb b)
   dsimp only at this;rw[Int.sub_add_cancel,Int.sub_add_cancel]at this;exact this
  ·cases h
abbrev crsP(l:Z (J×J)):Z P3:=l.zipIdx.map λp=>(p.1.1,p.1.2,(p.2:J))
abbrev crsA(W H P:J)(ss:Z J)(ps:Z (J×J)):Z P3:=ps.flatMap λc=>crsP (crs W H P c ss)
def qie(l:Z D){z:J}(h:0<=z)(a:z<=l.length):cut l B (Y z)=l.take z.toNat:=by
 unfold cut cutIx;dsimp only;rw[Z8 ?d];simp
def qht(j:InG W H P (x,y,z))(hl:(ss.length:J)=P)(hc:(x,y,z) ∉ crsA W H P ss ps):ownC W H P x y z (n,Y9 ?H,ps)=[]:=by
 obtain⟨o,m,l,k,b,f⟩:=j;have hi:ing W H P x y 0=true:=by
  unfold ing;have:decide ((0:J)<=P)=true:=Z6 (by dsimp only at b f; lia);rw[Z6 o,Z6 m,Z6 l,Z6 k,this]
  rfl
 have r:clO W H P x y z ss=clm W H P x y (ss.take z.toNat).reverse:=by
  unfold clO;rw[qie _ b (by rw[Qqz]; dsimp only at f; lia),<- List.map_take,qw4]
 unfold ownC stI;dsimp only;rw[qw4];have:(nmW (n,Y9 ?H,ps)).filterMap (enW (cO (clO W H P x y z ss)))=[]:=by
  refine List.filterMap_eq_nil_iff.mpr λd hd=>?_;obtain⟨p,i,rfl⟩:=Qqj.mp hd;show(if eqT (cD p.1) (cO (clO W H P x y z ss)) then _ else B)=B;rw[Z8];intro e;have c:p.1∈ps:=List.fst_mem_of_mem_zipIdx i
  cases a:clO W H P x y z ss with
  |none=>rw[a]at e; cases e
  |some q=>
   rw[a]at e;have eq:p.1=q:=cD_eq e;rw[r]at a;have g:z.toNat<=ss.length:=by dsimp only at b f; lia
   have h:=ql9 z.toNat x y g hi a;apply hc;refine List.mem_flatMap.mpr ⟨p.1,c,?_⟩;rw[eq];refine Qqj.mpr ⟨((x,y),z.toNat),List.mem_zipIdx_iff_getElem?.mpr h,?_⟩;show(x,y,((z.toNat:Y0):J))=_;rw[Int.toNat_of_nonneg b]
 rw[this]
 rfl
noncomputable abbrev Rts:=Z (J×Rc4)
abbrev lkR(rt:Rts)(n:J):Y2 Rc4:=(rt.find? λp=>p.1==n).map (·.2)
abbrev rtP(day:J)(o:Y2 Rc4)(rt:Rts):Rts:=match o with
 |some g=>rt++[(day,g)]
 |none=>rt
abbrev rtS(day:J)(k:Kd)(rt:Rts):Rts:=match k with
 |.stake _ g=>rt++[(day,g)]
 |k=>rtP day ((ptN k).bind (lkR rt)) rt
abbrev rtH(pl:Pk)(rt:Rts):Rts:=pl.foldl (λrt p=>rtS p.1 p.2 rt) rt
def qlx(day)(k)(rt):rtS day k rt=rt\/∃g,rtS day k rt=rt++[(day,g)]:=by
 cases k with
 |stake o g=>exact .inr ⟨g,rfl⟩
 |vein s ps=>exact .inl rfl
 |join a b f=>exact .inl rfl
 |clm f=>
  show rtP day ((ptN (.clm f)).bind (lkR rt)) rt=rt\/∃g,rtP day ((ptN (.clm f)).bind (lkR rt)) rt=_
  cases (ptN (.clm f)).bind (lkR rt) with
  |none=>exact .inl rfl
  |some g=>exact .inr ⟨g,rfl⟩
theorem qvz:∀(pl:Pk) (rt:Rts),((rtH pl rt).map (·.1)).Sublist (rt.map (·.1)++pl.map (·.1))
 |[],rt=>by rw[Qxs,Qqs]; exact .refl _
 |p::r,rt=>by
  refine(qvz r (rtS p.1 p.2 rt)).trans ?_;rw[Qqd,<- List.singleton_append,<- Qqo];refine List.Sublist.append_right ?_ _;rcases qlx p.1 p.2 rt with e|⟨g,e⟩
  ·rw[e]; exact List.sublist_append_left _ _
  ·rw[e,Qqg]; exact .refl _
theorem qw7:∀(pl:Pk) (rt:Rts),∃ex,rtH pl rt=rt++ex/\∀e∈ex,∃p∈pl,p.1=e.1
 |[],rt=>⟨[],(Qqs _).symm,Qq4 _⟩
 |p::r,rt=>by
  obtain⟨ex,h1,h2⟩:=qw7 r (rtS p.1 p.2 rt);have h1:rtH (p::r) rt=rtS p.1 p.2 rt++ex:=h1;rcases qlx p.1 p.2 rt with e|⟨g,e⟩
  ·exact⟨ex,by rw[h1,e],λu a=>by obtain⟨q,b,z⟩:=h2 u a; exact⟨q,.tail _ b,z⟩⟩
  ·refine⟨(p.1,g)::ex,by rw[h1,e,Qqo]; rfl,λu a=>?_⟩;rcases Qqc.mp a with rfl|a
   ·exact⟨p,.head _,rfl⟩
   ·obtain⟨q,b,z⟩:=h2 u a; exact⟨q,.tail _ b,z⟩
def qal(nd:(rt.map (·.1)).Nodup):lkR rt n=Y g↔(n,g)∈rt:=by
 unfold lkR;constructor
 ·intro h;obtain⟨p,b,rfl⟩:=Qqy.mp h;have e:p.1=n:=eq_of_beq (by simpa using Qz1 b);rw[<- e];exact Qzw b
 ·intro h
  induction rt with
  |nil=>cases h
  |cons a r c=>
   rw[Qqd,Qzj]at nd;rw[Qq2];rcases Qqc.mp h with rfl|h'
   ·rw[beq_self_eq_true]; rfl
   ·have:a.1≠n:=λe=>nd.1 (Qqj.mpr ⟨_,h',e.symm⟩);rw[beq_false_of_ne this];exact c nd.2 h'
structure RtI (pl:Pk) (R:Rts):Prop where
 nd:(R.map (·.1)).Nodup
 st:∀p∈pl,∀o g,p.2=.stake o g->(p.1,g)∈R
 pt:∀p∈pl,∀n,ptN p.2=Y n->n<p.1->∀g,((p.1,g)∈R↔(n,g)∈R)
def qnz(up:(pl.map (·.1)).Pairwise (· < ·)):RtI pl (rtH pl []):=by
 have j:∀a:Pk,(a.map (·.1)).Pairwise (· < ·)->((rtH a []).map (·.1)).Pairwise (· < ·):=λa h=>h.sublist (qvz a []);have cut:∀p∈pl,∃a b,(a.map (·.1)).Pairwise (· < ·)/\rtH pl []=rtH b (rtS p.1 p.2 (rtH a []))/\(∀e∈rtH a [],e.1<p.1)/\∀e,e∈rtH pl []->e.1<=p.1->e∈rtS p.1 p.2 (rtH a []):=λp i=>by
  obtain⟨a,b,rfl⟩:=List.append_of_mem i;rw[Qqg,Qqd,Qxf]at up;have eq:rtH (a++p::b) []=rtH b (rtS p.1 p.2 (rtH a [])):=by unfold rtH; rw[Qxv]; rfl
  refine⟨a,b,up.1,eq,λe d=>?_,λe d u=>?_⟩
  ·have:e.1∈([]:Rts).map (·.1)++a.map (·.1):=(qvz a []).subset (Qqj.mpr ⟨e,d,rfl⟩);exact up.2.2 e.1 this p.1 (.head _)
  ·rw[eq]at d;obtain⟨ex,r,w⟩:=qw7 b (rtS p.1 p.2 (rtH a []));rw[r]at d;rcases Qqi.mp d with h|h
   ·exact h
   ·obtain⟨q,t,z⟩:=w e h;have:=(Qxj.mp up.2.1).1 q.1 (Qqj.mpr ⟨q,t,rfl⟩)
    lia
 have keep:∀(b:Pk) (rt:Rts),∀e∈rt,e∈rtH b rt:=λb rt e d=>by
  obtain⟨ex,r,_⟩:=qw7 b rt;rw[r];exact Qzq _ d
 refine⟨(j pl up).imp Int.ne_of_lt,λp i o g e=>?_,λp i n hn m g=>?_⟩
 ·obtain⟨a,b,_,eq,_,_⟩:=cut p i;rw[eq];refine keep b _ _ ?_;rw[e];exact Qql _ (.head _)
 ·obtain⟨a,b,ha,eq,c,k⟩:=cut p i;have la:∀{g},lkR (rtH a []) n=Y g↔(n,g)∈rtH a []:=qal ((j a ha).imp Int.ne_of_lt);have es:rtS p.1 p.2 (rtH a [])=rtP p.1 (lkR (rtH a []) n) (rtH a []):=by
   cases hk:p.2 with
   |stake o g=>rw[hk]at hn; cases hn
   |vein s ps=>rw[hk]at hn; cases hn
   |join a b f=>rw[hk]at hn; cases hn
   |clm f=>
    rw[hk]at hn;show rtP p.1 ((ptN (.clm f)).bind (lkR (rtH a []))) (rtH a [])=_;rw[hn]
    rfl
  constructor
  ·intro h;have h:=k _ h (Int.le_refl _);rw[es]at h
   cases hl:lkR (rtH a []) n with
   |none=>rw[hl]at h; exact absurd (c _ h) (Int.lt_irrefl _)
   |some v=>
    rw[hl]at h;rcases Qqi.mp h with h|h
    ·exact absurd (c _ h) (Int.lt_irrefl _)
    ·cases Qqa.mp h;rw[eq];exact keep b _ _ (by rw[es,hl]; exact Qzq _ (la.mp hl))
  ·intro h;have h:=k _ h (Int.le_of_lt m);have l:(n,g)∈rtH a []:=by
    rw[es]at h
    cases hl:lkR (rtH a []) n with
    |none=>rw[hl]at h; exact h
    |some v=>
     rw[hl]at h;rcases Qqi.mp h with h|h
     ·exact h
     ·have e:n=p.1:=congrArg Prod.fst (Qqa.mp h)
      lia
   rw[eq];refine keep b _ _ ?_;rw[es,la.mpr l];exact Qql _ (.head _)
def Sb(a b:Rc4):Prop:=∀p,inB a p=L->inB b p=L
def inB_t:inB g p=L↔g.1<=p.1/\p.1<=g.2.2.1/\g.2.1<=p.2/\p.2<=g.2.2.2:=by
 unfold inB;simp only[Qqt,decide_eq_true_eq];exact⟨λh=>⟨h.1.1,h.1.2,h.2.1,h.2.2⟩,λh=>⟨⟨h.1,h.2.1⟩,h.2.2.1,h.2.2.2⟩⟩
def cut_sb(h:cutG g s l=Y (a,b)):Sb a g/\Sb b g:=by
 unfold cutG at h
 split at h
 ·split at h
  ·cases h;exact⟨λp c=>by have:=inB_t.mp c; dsimp only at this; exact inB_t.mpr ?d,λp c=>by have:=inB_t.mp c; dsimp only at this; exact inB_t.mpr ?d⟩
  ·cases h
 ·split at h
  ·cases h;exact⟨λp c=>by have:=inB_t.mp c; dsimp only at this; exact inB_t.mpr ?d,λp c=>by have:=inB_t.mp c; dsimp only at this; exact inB_t.mpr ?d⟩
  ·cases h
def Sb.no(h:Sb a b)(hb:hasB b ps=Y6):hasB a ps=false:=by
 rw[<- Qx2]at hb ⊢;intro ha;obtain⟨p,c,hi⟩:=Qz2.mp ha;exact hb (Qz2.mpr ⟨p,c,h p hi⟩)
def Cv(R:Rts)(zs:Z Cl):Prop:=∀c∈zs,∃g,(c.nm,g)∈R/\Sb c.g g
def vst_g(day)(ps)(c):(vst day ps c).g=c.g:=by
 unfold vst
 split<;>rfl
def qmv(h:c∈upd zs c'):c∈zs\/c=c'/\∃x∈zs,x.nm=c'.nm:=by
 obtain⟨x,a,rfl⟩:=Qqj.mp h
 split
 ·rename_i e; exact .inr ⟨rfl,x,a,e⟩
 ·exact .inl a
def ql7{T:J}{R:Rts}(I:RtI pl R)(t:p∈pl)(A:∀c∈q.zs,c.nm<p.1)(h:Cv R q.zs):Cv R (sK T p.1 p.2 q).zs:=by
 obtain⟨day,k⟩:=p
 cases k with
 |vein s ps=>
  intro c hc;obtain⟨x,C,rfl⟩:=Qqj.mp hc;rw[(qzl day ps x).1,vst_g];exact h x C
 |join a b f=>exact h
 |stake o g=>
  intro c hc;rcases Qqi.mp hc with hc|hc
  ·exact h c hc
  ·rw[Qqa.mp hc,(qzl _ _ _).1,vst_g];exact⟨g,I.st _ t o g rfl,λ_ z=>z⟩
 |clm f=>
  intro c hc;have hc:c∈(trO T day q.zs q.ro f).1:=hc;revert hc;unfold trO
  split
  case h_2=>exact h c
  rename_i v n r;intro hc
  cases hf:q.zs.find? λc=>c.nm==n with
  |none=>rw[hf]at hc; exact h c hc
  |some d=>
   rw[hf]at hc;have hd:=Qzw hf;have u:d.nm=n:=eq_of_beq (by simpa using Qz1 hf);have e:∀j:Cl,j.nm=d.nm->Sb j.g d.g->∀c∈upd q.zs j,∃g,(c.nm,g)∈R/\Sb c.g g:=λj E D c hc=>by
    rcases qmv hc with hc|⟨rfl,_⟩
    ·exact h c hc
    ·obtain⟨g,m,l⟩:=h d hd;exact⟨g,by rw[E]; exact m,λp z=>l p (D p z)⟩
   dsimp only at hc
   split at hc
   ·exact h c hc
   ·split at hc
    ·split at hc
     ·exact e { d with ds:=d.ds++[day],la:=day+T } rfl (λ_ z=>z) c hc
     ·exact e { d with gv:=Y day } rfl (λ_ z=>z) c hc
    ·rename_i o _; exact e { d with o:=o } rfl (λ_ z=>z) c hc
    ·split at hc
     ·exact h c hc
     ·rename_i ga F i;obtain⟨y,w⟩:=cut_sb i;rcases Qqi.mp hc with hc|hc
      ·exact e { d with g:=ga } rfl y c hc
      ·rw[Qqa.mp hc];obtain⟨g,m,l⟩:=h d hd;refine⟨g,?_,λp z=>l p (w p z)⟩;have:=A d hd;exact(I.pt _ t n rfl (by rw[<- u]; exact this) g).mpr (by rw[<- u]; exact m)
    ·exact h c hc
def hit_c(h:hasB c.g ps=hasB c.g ps'):hit day ps c=hit day ps' c/\vst day ps c=vst day ps' c:=by
 have e:hit day ps c=hit day ps' c:=by unfold hit; rw[h]
 exact⟨e,by unfold vst; rw[e]⟩
def qlr(h:hasB c.g ps=Y6):hit day ps c=Y6/\vst day ps c=c:=by
 have e:hit day ps c=false:=by unfold hit; rw[h,Qks]
 exact⟨e,by unfold vst; rw[e]; rfl⟩
structure Tws (F:Z J) (Lq:J×D×Z (J×J)) (v1:Vs) (a b:Ps):Prop where
 vs:∃v2,a.vs=v1++v2/\b.vs=v1++Lq::v2
 jo:a.jo=b.jo
 zs:(a.zs.filter λc=>kp F c.nm)=b.zs.filter λc=>kp F c.nm
 ro:a.ro.filter (kp F)=b.ro.filter (kp F)
section
variable {F:Z J}{Lq:J×D×Z (J×J)}{v1:Vs}{a b:Ps}{T day:J}
def tw_stp(l:∀n,ptN k=Y n->n<day->(day∈F↔n∈F))(j:∀o g,k=.stake o g->day ∉ F->hasB g Lq.2.2=Y6)(hjn:∀x y f,k=.join x y f->x≠Lq.1/\y≠Lq.1)(t:∀c∈a.zs,c.nm<day)(r:∀c∈b.zs,c.nm<day)(h:Tws F Lq v1 a b):Tws F Lq v1 (sK T day k a) (sK T day k b):=by
 obtain⟨⟨m,e,d⟩,hj,i,hr⟩:=h
 cases k with
 |vein s ps=>
  refine⟨⟨m++[(day,s,ps)],?_,?_⟩,hj,?_,?_⟩
  ·show a.vs++_=_; rw[e,Qqo]
  ·show b.vs++_=_; rw[d,Qqo]; rfl
  ·show(a.zs.map ?qh).filter _=(b.zs.map ?qh).filter _;rw[qa7,qa7,i]
  ·show(a.ro++_).filter _=(b.ro++_).filter _;rw[Qq8,Qq8,qa8,qa8,i,hr]
 |join x y f=>
  obtain⟨h1,h2⟩:=hjn x y f rfl;refine⟨⟨m,e,d⟩,?_,i,hr⟩;have q:∀n:J,n≠Lq.1->dget (voD a.vs) (O n)=dget (voD b.vs) (O n):=λn hn=>by
   rw[e,d];unfold dget voD;rw[Qqg,Qqg,Qqd,Qx0,Qx0,Qq2];have:eqT (D.int Lq.1) (O n)=false:=beq_false_of_ne (Ne.symm hn);dsimp only;rw[this]
  show jnO (voD a.vs) a.jo x y f=jnO (voD b.vs) b.jo x y f;unfold jnO;rw[q x h1,q y h2,hj]
 |stake o g=>
  refine⟨⟨m,e,d⟩,hj,?_,?_⟩
  ·show(a.zs++[vst day (a.vs.flatMap (·.2.2)) (nwC T day o g)]).filter _=(b.zs++[vst day (b.vs.flatMap (·.2.2)) (nwC T day o g)]).filter _;rw[Qq8,Qq8,i]
   congr 1
   by_cases hd:day∈F
   ·have hd:=kp_f.mpr hd;rw[Qzv (by rw[(qzl _ _ _).1,hd]; nofun),Qzv (by rw[(qzl _ _ _).1,hd]; nofun)]
   ·have:=j o g rfl hd
    rw[(hit_c (c:=nwC T day o g) (ps:=a.vs.flatMap (·.2.2)) (ps':=b.vs.flatMap (·.2.2)) (by
     show hasB g _=hasB g _;rw[e,d,Qz9,Qz9,Qkw];unfold hasB at this ⊢
     rw[Qjq,Qjq,Qjq,this,Qkq])).2]
  ·show(a.ro++if hit day (a.vs.flatMap (·.2.2)) (nwC T day o g) then [day] else []).filter _=(b.ro++if hit day (b.vs.flatMap (·.2.2)) (nwC T day o g) then [day] else []).filter _;rw[Qq8,Qq8,hr]
   congr 1
   by_cases hd:day∈F
   ·have hd:=kp_f.mpr hd;have:∀k:Yb,(if k then [day] else []).filter (kp F)=[]:=λk=>by cases k<;>simp[hd]
    rw[this,this]
   ·have:=j o g rfl hd
    rw[(hit_c (c:=nwC T day o g) (ps:=a.vs.flatMap (·.2.2)) (ps':=b.vs.flatMap (·.2.2)) (by
     show hasB g _=hasB g _;rw[e,d,Qz9,Qz9,Qkw];unfold hasB at this ⊢
     rw[Qjq,Qjq,Qjq,this,Qkq])).1]
 |clm f=>
  have p:=ql5 (T:=T) l a.zs t a.ro;have u:=ql5 (T:=T) l b.zs r b.ro;rw[i,hr,<- u]at p;exact⟨⟨m,e,d⟩,hj,congrArg Prod.fst p,congrArg Prod.snd p⟩
def qmy(h:∀c∈q.zs,kp F c.nm=L->hasB c.g ps=Y6):Tws F (day,s,ps) q.vs q (sK T day (.vein s ps) q):=by
 have hf:∀c∈q.zs.filter λc=>kp F c.nm,hasB c.g ps=false:=λc hc=>h c (Qqu.mp hc).1 (Qqu.mp hc).2;refine⟨⟨[],(Qqs _).symm,rfl⟩,rfl,?_,?_⟩
 ·show _=(q.zs.map ?qh).filter _;rw[qa7];generalize q.zs.filter (λc=>kp F c.nm)=l at *;exact((Qzr λc hc=>(qlr (hf c hc)).2).trans (Qxp l)).symm
 ·show _=(q.ro++(q.zs.filter (hit day ps)).map (·.nm)).filter _;rw[Qq8,qa8];have:(q.zs.filter λc=>kp F c.nm).filter (hit day ps)=[]:=List.filter_eq_nil_iff.mpr λc hc=>by rw[(qlr (hf c hc)).1]; nofun
  rw[this];exact(Qqs _).symm
def qd8(d:∀c∈q.zs,c.nm<n)(hd:day<n):∀c∈(sK T day k q).zs,c.nm<n:=λc hc=>by
 rcases sK_nm c hc with⟨x,f,e⟩|e
 ·rw[<- e]; exact d x f
 ·rw[e]; exact hd
def tw_hst(up:(pl.map (·.1)).Pairwise (· < ·))(i:∀p∈pl,∀n,ptN p.2=Y n->n<p.1->(p.1∈F↔n∈F))(e:∀p∈pl,∀o g,p.2=.stake o g->p.1 ∉ F->hasB g Lq.2.2=Y6)(hjn:∀p∈pl,∀x y f,p.2=.join x y f->x≠Lq.1/\y≠Lq.1)(k:∀p∈pl,∀c∈a.zs,c.nm<p.1)(j:∀p∈pl,∀c∈b.zs,c.nm<p.1)(h:Tws F Lq v1 a b):Tws F Lq v1 (hst T pl a) (hst T pl b):=by
 induction pl generalizing a b with
 |nil=>exact h
 |cons p r l=>
  rw[Qqd,Qxj]at up;have lt:∀u∈r,p.1<u.1:=λu d=>up.1 u.1 (Qqj.mpr ⟨u,d,rfl⟩);exact l up.2 (λu d=>i u (.tail _ d)) (λu d=>e u (.tail _ d)) (λu d=>hjn u (.tail _ d)) (λu d=>qd8 (k u (.tail _ d)) (lt u d)) (λu d=>qd8 (j u (.tail _ d)) (lt u d))
   (tw_stp (i p (.head _)) (e p (.head _)) (hjn p (.head _)) (k p (.head _)) (j p (.head _)) h)
def qbv{R:Rts}(I:RtI d R)(hs:∀p∈pl,p∈d)(up:(pl.map (·.1)).Pairwise (· < ·))(f:∀p∈pl,∀c∈q.zs,c.nm<p.1)(h:Cv R q.zs):Cv R (hst T pl q).zs:=by
 induction pl generalizing q with
 |nil=>exact h
 |cons p r g=>
  rw[Qqd,Qxj]at up;exact g (λu e=>hs u (.tail _ e)) up.2 (λu e=>qd8 (f u (.tail _ e)) (up.1 u.1 (Qqj.mpr ⟨u,e,rfl⟩))) (ql7 I (hs p (.head _)) (f p (.head _)) h)
def lt_hst(e:∀p∈pl,p.1<N)(d:∀c∈q.zs,c.nm<N):∀c∈(hst T pl q).zs,c.nm<N:=by
 induction pl generalizing q with
 |nil=>exact d
 |cons p r f=>exact f (q:=sK T p.1 p.2 q) (λu g=>e u (.tail _ g)) (qd8 d (e p (.head _)))
def JnE(n:J)(jo:Z (D×D)):Prop:=∀p∈jo,∃a b f:J,p=(.int a,.tup [.int b,.int f])/\a≠n/\b≠n
def qln(hjn:∀p∈pl,∀x y f,p.2=.join x y f->x≠n/\y≠n)(h:JnE n q.jo):JnE n (hst T pl q).jo:=by
 induction pl generalizing q with
 |nil=>exact h
 |cons p r e=>
  refine e (q:=sK T p.1 p.2 q) (λu c=>hjn u (.tail _ c)) ?_;have d:=hjn p (.head _)
  cases hk:p.2 with
  |join x y f=>
   obtain⟨h1,h2⟩:=d x y f hk;show JnE n (jnO (voD q.vs) q.jo x y f);unfold jnO
   split
   ·rename_i hc;intro u c;have hf:∀p∈q.jo,eqT p.1 (O x)=false:=λp d=>by
     have:=hc.2.2.2;unfold dget at this;have:=Qxd.mp (Qkp.mp this) p d;simpa using this
    rw[qqb hf]at c;rcases Qqi.mp c with c|c
    ·exact h u c
    ·rw[Qqa.mp c]; exact⟨x,y,f,rfl,h1,h2⟩
   ·exact h
  |_=>exact h
def jn_no(hn:n≠0)(h:JnE n jo):dget jo (O n)=B/\∀x,jnN jo x≠n:=by
 constructor
 ·unfold dget
  rw[Qxd.mpr λp c=>by
   obtain⟨a,b,f,rfl,h1,_⟩:=h p c;have:eqT (D.int a) (O n)=false:=beq_false_of_ne h1
   rw[this]; nofun]
  rfl
 ·intro x;unfold jnN
  split
  ·rename_i b f e;unfold dget at e;obtain⟨p,c,e⟩:=Qqy.mp e;obtain⟨a,g,d,rfl,_,h2⟩:=h p (Qzw c);cases e;exact h2
  ·exact λe=>hn e.symm
end
abbrev tcF(R:Rts)(ps:Z (J×J)):Z Int:=(R.filter λp=>hasB p.2 ps).map (·.1)
def qi6{R:Rts}(nd:(R.map (·.1)).Nodup)(h:(n,g)∈R):n∈tcF R ps↔hasB g ps=true:=by
 unfold tcF;constructor
 ·intro b;obtain⟨p,a,e⟩:=Qqj.mp b;obtain⟨h1,h2⟩:=Qqu.mp a;have l1:=(qal nd).mpr h;have l2:=(qal nd (n:=n) (g:=p.2)).mpr (by rw[<- e]; exact h1);rw[l1]at l2;cases l2;exact h2
 ·exact λhb=>Qqj.mpr ⟨(n,g),Qqu.mpr ⟨h,hb⟩,rfl⟩
def two_st{T:J}(up:(pl.map (·.1)).Pairwise (· < ·))(hL:(late,Kd.vein s ps)∈pl)(hjn:∀p∈pl,∀x y f,p.2=.join x y f->x≠late/\y≠late)(hD:late<=D'):
  ∃v1,Tws (tcF (rtH pl []) ps) (late,s,ps) v1 (hst T ((pl.filter λp=>!(p.1==late)).filter λp=>decide (p.1<=D')) q0) (hst T (pl.filter λp=>decide (p.1<=D')) q0)/\JnE late (hst T (pl.filter λp=>decide (p.1<=D')) q0).jo/\
   Cv (rtH pl []) (hst T ((pl.filter λp=>!(p.1==late)).filter λp=>decide (p.1<=D')) q0).zs/\Cv (rtH pl []) (hst T (pl.filter λp=>decide (p.1<=D')) q0).zs:=by
 have I:=qnz up;generalize rtH pl []=R at *;obtain⟨A,Bq,rfl⟩:=List.append_of_mem hL;have j:=up;rw[Qqg,Qqd,Qxf,Qxj]at j;obtain⟨X,⟨W,V⟩,U⟩:=j;have hA:∀p∈A,p.1<late:=λp a=>U p.1 (Qqj.mpr ⟨p,a,rfl⟩) late (.head _);have E:∀p∈Bq,late<p.1:=λp a=>W p.1 (Qqj.mpr ⟨p,a,rfl⟩);have S:(A.filter λp=>decide (p.1<=D'))=A:=Qx6.mpr λp a=>Z6 (by have:=hA p a; lia);have H:(A.filter λp=>!(p.1==late))=A:=Qx6.mpr λp a=>by
  have:(p.1==late)=false:=beq_false_of_ne (by have:=hA p a; lia);rw[this]; rfl
 have G:(Bq.filter λp=>!(p.1==late))=Bq:=Qx6.mpr λp a=>by
  have:(p.1==late)=false:=beq_false_of_ne (by have:=E p a; lia);rw[this]; rfl
 have e1:((A++(late,Kd.vein s ps)::Bq).filter λp=>!(p.1==late))=A++Bq:=by
  rw[Qq8,H,Qzv ?g,G]
 have e2:((A++Bq).filter λp=>decide (p.1<=D'))=A++Bq.filter λp=>decide (p.1<=D'):=by rw[Qq8,S]
 have e3:((A++(late,Kd.vein s ps)::Bq).filter λp=>decide (p.1<=D'))=A++(late,Kd.vein s ps)::Bq.filter λp=>decide (p.1<=D'):=by
  rw[Qq8,S,Qzi (p:=λ(p:J×Kd)=>decide (p.1<=D')) (Z6 hD)]
 rw[e1,e2,e3];have b:∀p∈Bq.filter (λp=>decide (p.1<=D')),p∈Bq:=λp a=>(Qqu.mp a).1;have t:((Bq.filter λp=>decide (p.1<=D')).map (·.1)).Pairwise (· < ·):=V.sublist (Qx7.map _);generalize Bq.filter (λp=>decide (p.1<=D'))=d at *;have Q:∀C,hst T (A++C) q0=hst T C (hst T A q0):=λC=>by unfold hst; rw[Qxv]
 rw[Q,Q];have c1:=qbv (T:=T) I (pl:=A) (q:=q0) (λp a=>Qzq _ a) X (λp _ c hc=>by cases hc) λc hc=>by cases hc
 have c2:=lt_hst (T:=T) (N:=late) (pl:=A) (q:=q0) hA λc hc=>by cases hc
 have j1:=qln (T:=T) (n:=late) (pl:=A) (q:=q0) (λp a=>hjn p (Qzq _ a)) (λp a=>by cases a);generalize hst T A q0=q at *;have i:∀p∈d,p∈A++(late,Kd.vein s ps)::Bq:=λp a=>Qql _ (.tail _ (b p a));have r:∀p∈d,∀c∈q.zs,c.nm<p.1:=λp a c hc=>by have:=E p (b p a); have:=c2 c hc; lia
 have P:∀p∈d,∀c∈(sK T late (.vein s ps) q).zs,c.nm<p.1:=λp a=>qd8 (r p a) (E p (b p a));have cL:=ql7 (T:=T) I (p:=(late,Kd.vein s ps)) hL c2 c1;have m:∀{n:J}{g:Rc4},(n,g)∈R->(n∈tcF R ps↔hasB g ps=L):=λh=>qi6 I.nd h;have t0:=qmy (F:=tcF R ps) (T:=T) (day:=late) (s:=s) (ps:=ps) (q:=q) λc hc hk=>by
  obtain⟨g,g1,g2⟩:=c1 c hc;refine g2.no ?_;rw[<- Qx2];exact λz=>kp_t.mp hk ((m g1).mpr z)
 have k:∀p∈d,∀o g,p.2=.stake o g->p.1 ∉ tcF R ps->hasB g ps=false:=λp a o g e hn=>by
  rw[<- Qx2];exact λz=>hn ((m (I.st p (i p a) o g e)).mpr z)
 have l:∀p∈d,∀n,ptN p.2=Y n->n<p.1->(p.1∈tcF R ps↔n∈tcF R ps):=λp a n e w=>by
  have hi:=I.pt p (i p a) n e w;constructor
  ·intro h;obtain⟨u,v,K⟩:=Qqj.mp h;obtain⟨h1,h2⟩:=Qqu.mp v;exact(m ((hi u.2).mp (by rw[<- K]; exact h1))).mpr h2
  ·intro h;obtain⟨u,v,K⟩:=Qqj.mp h;obtain⟨h1,h2⟩:=Qqu.mp v;exact(m ((hi u.2).mpr (by rw[<- K]; exact h1))).mpr h2
 refine⟨q.vs,tw_hst t l k (λp a=>hjn p (i p a)) r P t0,?_,?_,?_⟩
 ·exact qln (T:=T) (pl:=d) (q:=sK T late (.vein s ps) q) (λp a=>hjn p (i p a)) j1
 ·exact qbv (T:=T) I i t r c1
 ·exact qbv (T:=T) (pl:=d) (q:=sK T late (.vein s ps) q) I i t P cL
noncomputable abbrev Hr:=Z (J×String)
noncomputable abbrev hrD(R:Hr):D:=.lst (R.map hiD)
abbrev fsD:Hr->D
 |[]=>.non
 |p::_=>.int p.1
noncomputable abbrev rkH(ps:Z (J×J))(p:J×J)(cs:Z Cl)(ro:Z J)(d:J):Hr:=rkA ps (stC cs ro d)++rkG ps p (stC cs ro d)
def qix(h:Tws F Lq i a b)(l:cs.map Cl.z=a.zs)(k:f.map Cl.z=b.zs)(ps)(p)(d):
  (rkH ps p cs a.ro d).filter (λu=>kp F u.1)=(rkH ps p f b.ro d).filter λu=>kp F u.1:=by
 have e:∀{cs:Z Cl}{q:Ps},cs.map Cl.z=q.zs->((stC cs q.ro d).map Cl.z).filter (λc=>kp F c.nm)=stC (q.zs.filter λc=>kp F c.nm) (q.ro.filter (kp F)) d:=λ{cs q} j=>by
  rw[qmr,j];exact(qdj q.zs d q.ro).symm
 have g:=e l;have m:=e k;rw[h.zs,h.ro,<- m]at g;show(rkA ps (stC cs a.ro d)++rkG ps p (stC cs a.ro d)).filter _=(rkA ps (stC f b.ro d)++rkG ps p (stC f b.ro d)).filter _;rw[<- qhk ps (stC cs _ d),<- qhj ps p (stC cs _ d),<- qhk ps (stC f _ d),<- qhj ps p (stC f _ d),Qq8,Qq8,<- qw9,<- qw8,<- qw9,<- qw8,g]
def rk_nm(h:u∈rkH ps p cs ro d):∃c∈cs,c.nm=u.1:=by
 have hs:∀c∈stC cs ro d,c∈cs:=λc hc=>by
  obtain⟨n,_,e⟩:=Qxq.mp hc
  split at e
  ·exact Qzw e
  ·cases e
 rcases Qqi.mp h with h|h
 ·obtain⟨c,hc,e⟩:=Qxq.mp h;refine⟨c,hs c hc,?_⟩
  split at e
  ·cases e; rfl
  ·cases e
 ·obtain⟨c,hc,e⟩:=Qxq.mp h;refine⟨c,hs c hc,?_⟩
  split at e
  ·cases e
  ·split at e
   ·cases e; rfl
   ·cases e
def qlj:(rkH ps p cs ro d).length<=2*ro.length:=by
 have b:(rkA ps (stC cs ro d)).length<=ro.length:=Qzn (Qxg _ _) qk6;have a:(rkG ps p (stC cs ro d)).length<=ro.length:=Qzn (Qxg _ _) qk6;rw[Qqr]
 lia
noncomputable abbrev kvR(rt:Rts):Z (D×D):=rt.map λp=>(.int p.1,rD p.2)
def qed(n):dget (kvR rt) (O n)=(lkR rt n).map rD:=by
 unfold dget lkR kvR;rw[List.find?_map,Option.map_map,Option.map_map]
 rfl
section
variable {S:Y1}{rt:Rts}{ps:Z (J×J)}{r:Y0}
def hd_ix(S)(d)(r):idxD S (Yc (d::r)) (O 0)=Y d:=by
 show atI (d::r) 0=_;unfold atI ixN;rw[Z9 ?c,Z9 (by rw[Qqm]; lia)]
 rfl
noncomputable abbrev tuB:Z M.S:=[.ite (.bcall .any [.gc (.comp ?K ?qn B (.call 75 [.didx (.var 2) ?qn,.var 0]) [B,Y 3,Y 0])]) [.ret (.lit (.bl L))] []]
def qbg(m)(hr:S[r]?=Y (.dic L (kvR rt)))(nd:(rt.map (·.1)).Nodup)(hl:ps.length<lim)(R)(E:∀u∈R,∃g,(u.1,g)∈rt):
  callD fns (m+3) 80 [Y3 r,.tup ?y,hrD R] S=Y (.bl (R.any λu=>!kp (tcF rt ps) u.1),S):=by
 rcases ql3 (c:=callD fns (m+2)) (τ:=[Y (Y3 r),Y (.tup ?y),Y (hrD R),B,B]) (st:=S) (it:=.var 2) (s:=.lst (hrD R)) (t:=.tup [3,4]) (ds:=R.map hiD) (body:=tuB)
  (λk τ' st'=>(∃a b,τ'=[Y (Y3 r),Y (.tup ?y),Y (hrD R),a,b])/\st'=S/\∀u∈R.take k,kp (tcF rt ps) u.1=L) (λv st'=>v=.bl L/\st'=S/\(R.any λu=>!kp (tcF rt ps) u.1)=L)
  (by show((?qo).ev _ _ _).bind _=_; rw[qqx _ _ _ _ (hrD R,S) rfl]; rfl) (qzh rfl) (λk τ' st' _=>qz9 rfl k) ⟨⟨B,B,rfl⟩,rfl,λu j=>by cases j⟩ (λk τ' st' d hd h=>by
   obtain⟨⟨a,b,rfl⟩,rfl,hk⟩:=h;rw[Qqv]at hd;obtain⟨u,j,rfl⟩:=Qqy.mp hd;obtain⟨w,y⟩:=Qqk.mp j;have l:=Qqn j;obtain⟨g,C⟩:=E u l;have A:dget (kvR rt) (O u.1)=Y (rD g):=by rw[qed,(qal nd).mpr C]; rfl
   have h1:=qvb (c:=callD fns (m+2)) (τ:=[Y (Y3 r),Y (.tup ?y),Y (hrD R),Y (O u.1),Y (sO u.2)]) (st:=st') (i:=1) (elt:=.call 75 [.didx (.var 2) ?qn,.var 0]) (sr:=[B,Y 3,Y 0]) ps cD (λp=>.bl (inB g p)) rfl rfl hl rfl λp _=>qzr 0 [75] 2 [Kr hr,Kq A,Kc (qet (.inr rfl) (m+1) st' g p)];have e:ps.map (λp=>D.bl (inB g p))=(ps.map (inB g)).map .bl:=by rw[Qqp]; rfl
   rw[e]at h1;have h2:=qzv (st:=st') (nlB (ps.map (inB g)));have o:bfun st' .any [.lst ((ps.map (inB g)).map .bl)]=Y (.bl (hasB g ps),st'):=by
    show(asBools _).map _=_;rw[asB];show Y (D.bl ((ps.map (inB g)).any id),st')=_;rw[List.any_map]
    rfl
   have hb:=qi6 nd (ps:=ps) C;have tk:R.take (k+1)=R.take k++[u]:=by rw[Qq3 w,y]
   cases n:hasB g ps with
   |true=>
    rw[n]at o;have q:kp (tcF rt ps) u.1=false:=kp_f.mpr (hb.mpr n);exact .inr ⟨_,_,qzp 0 [] 2 [Kc h1,Kl h2,Kc o],rfl,rfl,Qz2.mpr ⟨u,l,by rw[q]; rfl⟩⟩
   |false=>
    rw[n]at o;have q:kp (tcF rt ps) u.1=true:=kp_t.mpr λz=>by rw[hb.mp z]at n; cases n
    refine .inl ⟨[Y (Y3 r),Y (.tup ?y),Y (hrD R),Y (O u.1),Y (sO u.2)],_,qzp 0 [] 2 [Kc h1,Kl h2,Kc o],⟨_,_,rfl⟩,rfl,λx f=>?_⟩;rw[tk]at f;rcases Qqi.mp f with f|f
    ·exact hk x f
    ·rw[Qqa.mp f]; exact q) with⟨τ',st',e,⟨a,b,rfl⟩,rfl,h⟩|⟨v,st',e,rfl,rfl,h⟩
 ·rw[Qqz,Qzb]at h;have:(R.any λu=>!kp (tcF rt ps) u.1)=false:=by
   rw[<- Qx2];intro z;obtain⟨u,j,z⟩:=Qz2.mp z;rw[h u j]at z;cases z
  rw[this];exact qzz 0 [] 3 [Ks e]
 ·rw[h];exact qzz 0 [] 3 [Ks e]
def qa9(m){R:Hr}(hl:R.length<100000):callD fns (m+1) 82 [hrD R] S=Y (fsD R,S):=by
 obtain⟨s,w,v,q⟩:=qk7 (c:=callD fns m) (τ:=[Y (hrD R)]) (st:=S) (i:=0) rfl (ds:=R.map hiD) rfl
 have h:=qqq (t:=.tup [0,1]) (elt:=.var 0) (test:=B) (sr:=[B,B]) (λd=>match d with|.tup (O n::_)=>Y (D.int n)|_=>B) (λτ=>∃a b,τ=[a,b]) w v q ?k ⟨B,B,rfl⟩ (λτ d hd f=>by
  obtain⟨a,b,rfl⟩:=f;obtain⟨p,_,rfl⟩:=Qqj.mp hd
  exact⟨[Y (O p.1),Y (sO p.2)],qjf rfl (qqx _ _ _ _ _ rfl),Y (O p.1),Y (sO p.2),rfl⟩)
 have e:(R.map hiD).filterMap (λd=>match d with|.tup (O n::_)=>Y (D.int n)|_=>B)=R.map λu=>O u.1:=by
  rw[Qxx];exact Qjw▸rfl
 rw[e]at h;have k:=qzv (st:=S) (ds:=R.map λu=>M.D.int u.1) (qzj λ_ _=>rfl);have o:=qzv (st:=S) (ds:=[M.D.non]) rfl;have l:=qzv (st:=S) (ds:=(R.map λu=>M.D.int u.1)++[M.D.non]) (by rw[qqp,List.all_append,<- qqp,qzj λ_ _=>rfl]; rfl);have g:decide (lim<(R.map λu=>M.D.int u.1).length+[M.D.non].length)=false:=Z7 (by rw[Qqz]; unfold lim; show ¬ _<_+1; lia);have j:idxD S (.lst ((R.map λu=>M.D.int u.1)++[M.D.non])) (O 0)=Y (fsD R):=by
  cases R with
  |nil=>exact hd_ix S .non []
  |cons u r=>exact hd_ix S (O u.1) _
 exact qzz 0 [] 1 [Kc h,Kl k,Kl o,Kb g,Kl l,Ki j]
def qg3(m)(hr:S[r]?=Y (.dic L (kvR rt)))(nd:(rt.map (·.1)).Nodup)(hl:ps.length<lim){Bq:Hr}(o:∀u∈A,∃g,(u.1,g)∈rt)(n:∀u∈Bq,∃g,(u.1,g)∈rt)(k:A.length<100000)(j:Bq.length<100000)(free)(hf:free=L->A=Bq)(l:free=Y6->(A.filter λu=>kp (tcF rt ps) u.1)=Bq.filter λu=>kp (tcF rt ps) u.1):callD fns (m+4) 83 [Y3 r,Y9 ?y,Yc [hrD A,hrD Bq],.bl free] S=Y (.bl L,S):=by
 have hs:∀R:Hr,callD fns (m+3) 62 [fsD R,fsD R] S=Y (.bl L,S):=λR=>by
  cases R with
  |nil=>exact qg7 (m+2) S
  |cons u r=>exact same_int (m+2) S u.1
 have c:idxD S (Yc [hrD A,hrD Bq]) (O 0)=Y (hrD A):=rfl;have i1:idxD S (Yc [hrD A,hrD Bq]) (O 1)=Y (hrD Bq):=rfl;have d:=qa9 (S:=S) (m+2) k;have p:=qa9 (S:=S) (m+2) j
 cases free with
 |true=>
  have e:=hf rfl;subst e;exact qzz 0 [82,62] 4 [Ki i1,Kc d,Ki c,Kc d,Kc (hs A)]
 |false=>
  have g:=qzv (st:=S) (ds:=(A++Bq).map hiD) (qzj λ_ _=>rfl);rw[Qqg]at g;have f:decide (lim<(A.map hiD).length+(Bq.map hiD).length)=false:=Z7 (by rw[Qqz,Qqz]; unfold lim; lia);have b:=qbg m hr nd hl (A++Bq) λu a=>by
   rcases Qqi.mp a with h|h
   ·exact o u h
   ·exact n u h
  have b:callD fns (m+3) 80 [Y3 r,Y9 ?y,Yc (A.map hiD++Bq.map hiD)] S=Y (.bl ((A++Bq).any λu=>!kp (tcF rt ps) u.1),S):=by rw[<- Qqg]; exact b
  cases hb:(A++Bq).any λu=>!kp (tcF rt ps) u.1 with
  |true=>
   rw[hb]at b;exact qzz 0 [80] 4 [Ki c,Ki i1,Kb f,Kl g,Kc b]
  |false=>
   rw[hb]at b;have i:∀u∈A++Bq,kp (tcF rt ps) u.1=true:=λu a=>by
    cases h:kp (tcF rt ps) u.1 with
    |true=>rfl
    |false=>
     have:=Qz2.mpr (⟨u,a,by rw[h]; rfl⟩:∃x∈A++Bq,(!kp (tcF rt ps) x.1)=L);rw[hb]at this;cases this
   have e:=l rfl;rw[Qx6.mpr λu a=>i u (Qzq _ a),Qx6.mpr λu a=>i u (Qql _ a)]at e;subst e;exact qzz 0 [80,82,62] 4 [Ki c,Ki i1,Kb f,Kl g,Kc b,Ki i1,Kc d,Ki c,Kc d,Kc (hs A)]
end
theorem qew{ds:Z D}(P:Y0->Sl->Y1->Prop)(Q:Sl->Y1->Prop)(a:∀i τ st,P i τ st->s.at st i=Y ds[i]?)(hs:∀i τ st d,ds[i]?=Y d->P i τ st->(∃τ' st',f τ st d=Y (.nx τ',st')/\P (i+1) τ' st')\/∃τ' st',f τ st d=Y (.bk τ',st')/\Q τ' st')(b:∀τ st,P ds.length τ st->Q τ st):
  ∀(k i:Y0) (τ:Sl) (st:Y1),i+k=ds.length->P i τ st->∃τ' st',loop s f (k+1) i τ st=Y (.nx τ',st')/\Q τ' st'
 |0,i,τ,st,h,p=>by
  have e:i=ds.length:=by lia
  subst e;refine⟨τ,st,?_,b _ _ p⟩;rw[loop,a _ _ _ p];simp[Qzh (Qqw _)]
 |k+1,i,τ,st,h,p=>by
  have hi:i<ds.length:=by lia
  have h1:ds[i]?=Y ds[i]:=by simp
  rw[loop,a _ _ _ p,h1];simp only[oBs];rcases hs i τ st _ h1 p with⟨τ',st',e,q⟩|⟨τ',st',e,q⟩
  ·rw[e]; exact qew P Q a hs b k (i+1) τ' st' ?d q
  ·rw[e]; exact⟨τ',st',rfl,q⟩
def for_bk{ds:Z D}(P:Y0->Sl->Y1->Prop)(Q:Sl->Y1->Prop)(i:src (RL c) τ st it=Y (s,st))(h:s.size st=ds.length)(g:∀k τ' st',P k τ' st'->s.at st' k=Y ds[k]?)(j:P 0 τ st)(hs:∀k τ' st' d,ds[k]?=Y d->P k τ' st'->(∃a b,((setT t d τ').bind λe=>(RL c).ex e st' body)=Y (.nx a,b)/\P (k+1) a b)\/∃a b,((setT t d τ').bind λe=>(RL c).ex e st' body)=Y (.bk a,b)/\Q a b)(f:∀τ st,P ds.length τ st->Q τ st):
  ∃τ' st',stepEx (RL c) τ st (.forr t it body)=Y (.nx τ',st')/\Q τ' st':=by
 obtain⟨τ',st',q,p⟩:=qew P Q g hs f ds.length 0 τ st ?d j;refine⟨τ',st',?_,p⟩;show(src (RL c) τ st it).bind _=_;rw[i];simp only[oBs];rw[h];exact q
def lastC{S:Y1}(h:S[Lq]?=Y (Y8 L ?qj)):idxD S (Y3 Lq) (O (-1))=Y (cD q):=by
 show(listAt S Lq).bind _=_;unfold listAt;rw[h];show atI ?qj (-1)=_;unfold atI ixN;rw[Z8 ?c,Z9 ?r];have:((-1:J)+((?qj).length:Y0)).toNat=A.length:=by simp; lia
 rw[oBs,this];simp
noncomputable abbrev ocB:Z M.S:=[.set (.var 5) (.idx (.glo "MOVES" mvD) (.var 4)),.set (.var 6) (.tup [.bin .Add (.idx (.idx ?qk (.neg ?qx)) (.lit (.int 0))) (.idx (.var 5) (.lit (.int 0))),.bin .Add (.idx (.idx ?qk (.neg ?qx)) ?qx) (.idx (.var 5) ?qx)]),.ite (.not (.call 13 [.var 0,.tup [.idx (.var 6) (.lit (.int 0)),.idx (.var 6) ?qx,.lit (.int 0)]])) [.brk] [],.expr (.meth ?qk .append [.var 6])]
section
def ocb_ok(m)(S)(n:0<=s)(k:s<=4)(u v)(a b)(hl:A.length<1000):
  ∃e d,(?I).ex [Y ?w,Y u,Y v,Y ?V,Y (O s),a,b] (S++[Y8 L ?qj]) ocB=Y (if ing W H P (q.1+(mvX s).1) (q.2+(mvX s).2) 0 then(.nx [Y ?w,Y u,Y v,Y ?V,Y (O s),e,d],S++[Y8 L ((A++[q]++[(q.1+(mvX s).1,q.2+(mvX s).2)]).map cD)]) else(.bk [Y ?w,Y u,Y v,Y ?V,Y (O s),e,d],S++[Y8 L ?qj])):=by
 have g:(S++[Ya.lst L ?qj])[S.length]?=Y (Y8 L ?qj):=gl;have f:=lastC g;have j:decide ((?qj).length<lim)=true:=Z6 ?l;have c:(S++[Ya.lst L ?qj]).set S.length (Y8 L ((A++[q]).map cD++[cD (q.1+(mvX s).1,q.2+(mvX s).2)]))=S++[Y8 L ((A++[q]++[(q.1+(mvX s).1,q.2+(mvX s).2)]).map cD)]:=by
  rw[sl,Qqg (l₁:=A++[q])]
  rfl
 rw[<- c];have i:∀s:J,atI [D.tup [O 0,O 0],Y9 [O 1,O 0],Y9 [O (-1),O 0],Y9 [O 0,O 1],Y9 [O 0,O (-1)]] s=Y (Y9 [O (mvX s).1,O (mvX s).2])->
  ∃e d,(?I).ex [Y ?w,Y u,Y v,Y ?V,Y (O s),a,b] (S++[Y8 L ?qj]) ocB=Y (if ing W H P (q.1+(mvX s).1) (q.2+(mvX s).2) 0 then(.nx [Y ?w,Y u,Y v,Y ?V,Y (O s),e,d],(S++[Ya.lst L ?qj]).set S.length (Y8 L ((A++[q]).map cD++[cD (q.1+(mvX s).1,q.2+(mvX s).2)]))) else(.bk [Y ?w,Y u,Y v,Y ?V,Y (O s),e,d],S++[Y8 L ?qj])):=λs hi=>by
  generalize mvX s=w at hi ⊢;obtain⟨dx,dy⟩:=w;generalize hX:S++[Ya.lst L ?qj]=X at *;have h:=qe0 m X W H P (q.1+dx) (q.2+dy) 0;generalize (A++[q]).map cD=l at *;refine⟨Y (Y9 [O dx,O dy]),Y (Y9 [O (q.1+dx),O (q.2+dy)]),?_⟩;dsimp only at hi ⊢
  cases hb:ing W H P (q.1+dx) (q.2+dy) 0 with
  |true=>
   rw[hb]at h;exact qzp 0 [13] 1 [Ki hi,Ki f,Kn,Kn,Ki f,Kn,Kn,Kn,Kn,Kc h,Kr g,Kr g,Kb j]
  |false=>
   rw[hb]at h;exact qzp 0 [13] 1 [Ki hi,Ki f,Kn,Kn,Ki f,Kn,Kn,Kn,Kn,Kc h]
 have hc:s=0\/s=1\/s=2\/s=3\/s=4:=by lia
 rcases hc with rfl|rfl|rfl|rfl|rfl<;>exact i _ rfl
def own_ok(m)(S)(hs:∀s∈ss,0<=s/\s<=4)(hl:ss.length<900):callD fns (m+2) 28 [szD W H P,cD c,.tup ?H] S=Y (Y3 S.length,S++[Y8 L ((crs W H P c ss).map cD)]):=by
 obtain⟨τ',st',e,⟨a,b,s',rfl⟩,rfl⟩:=for_bk (c:=callD fns (m+1)) (τ:=[Y ?w,Y (cD c),Y (.tup ?H),Y ?V,B,B,B]) (st:=S++[Y8 L ([c].map cD)]) (it:=.var 2) (s:=.tup ?H) (ds:=ss.map O) (t:=.var 4) (body:=ocB)
  (λi τ' st'=>(∃a b s',τ'=[Y ?w,Y (cD c),Y (.tup ?H),Y ?V,s',a,b])/\∃(A:Z (J×J)) (q:J×J),A.length=i/\A++crs W H P q (ss.drop i)=crs W H P c ss/\st'=S++[Y8 L ?qj])
  (λτ' st'=>(∃a b s',τ'=[Y ?w,Y (cD c),Y (.tup ?H),Y ?V,s',a,b])/\st'=S++[Y8 L ((crs W H P c ss).map cD)])
  (by show((?I).ev _ _ _).bind _=_; rw[qqx _ _ _ _ (.tup ?H,S++[Y8 L ([c].map cD)]) rfl]; rfl) rfl (λi τ st _=>rfl) ⟨⟨B,B,B,rfl⟩,[],c,rfl,rfl,rfl⟩ (λi τ st d hd h=>by
   obtain⟨⟨a,b,l,rfl⟩,A,q,hA,f,rfl⟩:=h;rw[Qqv]at hd;obtain⟨s,hi,rfl⟩:=Qqy.mp hd;obtain⟨j,k⟩:=Qqk.mp hi;have g:=hs s (Qqn hi);obtain⟨o,n,e⟩:=ocb_ok (W:=W) (H:=H) (P:=P) m S g.1 g.2 (cD c) (.tup ?H) a b (A:=A) (q:=q) ?d;have dr:ss.drop i=s::ss.drop (i+1):=by rw[Qx1 j,k]
   rw[dr,show crs W H P q (s::ss.drop (i+1))=if ing W H P (q.1+(mvX s).1) (q.2+(mvX s).2) 0 then q::crs W H P (q.1+(mvX s).1,q.2+(mvX s).2) (ss.drop (i+1)) else [q] from rfl]at f
   by_cases hb:ing W H P (q.1+(mvX s).1) (q.2+(mvX s).2) 0=L
   ·rw[Z9 hb]at e f;exact .inl ⟨_,_,e,⟨_,_,_,rfl⟩,A++[q],_,by rw[Qqr,hA]; rfl,by rw[Qqo]; exact f,rfl⟩
   ·rw[Z8 hb]at e f;exact .inr ⟨_,_,e,⟨_,_,_,rfl⟩,by rw[f]⟩) (λτ st h=>by
   obtain⟨h1,A,q,hA,f,rfl⟩:=h;rw[Qqz,Qkd]at f
   exact⟨h1,by rw[<- f]; rfl⟩)
 exact qzz 0 [] 2 [Ks e]
abbrev rwG(row:Z (J×J)):D->Y2 D
 |.int i=>(row[i.toNat]?).map λp=>spD (p.1,p.2,i)
 |_=>B
def rwG_at{row:Z (J×J)}(h:i<row.length):rwG row (O (0+(i:J)))=Y (spD (row[i].1,row[i].2,(i:J))):=by
 rw[Int.zero_add];show(row[(i:J).toNat]?).map _=_;rw[Int.toNat_natCast,Qqb h]
 rfl
noncomputable abbrev csB:Z M.S:=[.set (.var 5) (.gc (.call 28 [.var 0,.var 4,.var 1])),.set ?qk (.gc (.bin .Add ?qk (.gc (.comp ?K (.rng1 (.bcall .len [.var 5])) B (.tup [.idx (.idx ?qn ?K) (.lit (.int 0)),.idx (.idx ?qn ?K) ?qx,.var 0]) [B,Y 5]))))]
theorem qfg:∀(ss:Z J) (c:J×J),(crs W H P c ss).length<=ss.length+1
 |[],c=>Qqw _
 |s::r,c=>by
  unfold crs
  split
  ·exact Qjm (qfg r _)
  ·exact Qjm (Qzg _)
def qif(l):(crsP l).length=l.length:=by unfold crsP; rw[Qqz,Qje]
def qfh(m)(S)(hs:∀s∈ss,0<=s/\s<=4)(hl:ss.length<100)(T:ps.length<=16):callD fns (m+3) 81 [szD W H P,.tup ?H,.tup ?y] S=Y (.lst ((crsA W H P ss ps).map spD),S):=by
 obtain⟨τ',st',e,h⟩:=qz1 (c:=callD fns (m+2)) (τ:=[Y ?w,Y (.tup ?H),Y (.tup ?y),Y (.lst []),B,B]) (st:=S) (it:=.var 2) (s:=.tup ?y) (ds:=ps.map cD) (t:=.var 4) (body:=csB)
  (λi τ' st'=>(∃a b,τ'=[Y ?w,Y (.tup ?H),Y (.tup ?y),Y (.lst ((crsA W H P ss (ps.take i)).map spD)),a,b])/\st'=S/\(crsA W H P ss (ps.take i)).length<=100*i)
  (by show((?qo).ev _ _ _).bind _=_; rw[qqx _ _ _ _ (.tup ?y,S) rfl]; rfl) rfl (λk τ' st' _=>rfl) ⟨⟨B,B,rfl⟩,rfl,Qzg _⟩ (λi τ' st' d hd h=>by
   obtain⟨⟨a,b,rfl⟩,rfl,hn⟩:=h;rw[Qqv]at hd;obtain⟨c,hi,rfl⟩:=Qqy.mp hd;obtain⟨u,v⟩:=Qqk.mp hi;have tk:crsA W H P ss (ps.take (i+1))=crsA W H P ss (ps.take i)++crsP (crs W H P c ss):=by
    rw[Qq3 u,v];unfold crsA;rw[Qz9];exact congrArg (_++·) (Qqs _)
   have Q:=own_ok (W:=W) (H:=H) (P:=P) m st' (c:=c) hs ?d;have rl:=qfg (W:=W) (H:=H) (P:=P) ss c;have pl:=qif (crs W H P c ss);rw[tk];have N:=qzv (st:=st') (ds:=(crs W H P c ss).map cD) (qzj λ_ _=>rfl);generalize crsA W H P ss (ps.take i)=f at *;have q:crsP (crs W H P c ss)=(crs W H P c ss).zipIdx.map λp=>(p.1.1,p.1.2,(p.2:J)):=rfl;generalize F:crs W H P c ss=row at *;have z:=qqq (c:=callD fns (m+2)) (τ:=[Y ?w,Y (.tup ?H),Y (.tup ?y),Y (.lst (f.map spD)),Y (cD c),Y (.lst (row.map cD))]) (st:=st') (t:=.var 0) (it:=.rng1 (.bcall .len [.var 5])) (elt:=.tup [.idx (.idx ?qn ?K) (.lit (O 0)),.idx (.idx ?qn ?K) (.lit (O 1)),.var 0]) (test:=B) (sr:=[B,Y 5]) (s:=.rng 0 row.length) (ds:=(List.range row.length).map λi:Y0=>D.int (0+(i:J)))
    (rwG row) (λτ=>∃a,τ=[a,Y (.lst (row.map cD))]) (by
     have el:(?qo).ev [Y ?w,Y (.tup ?H),Y (.tup ?y),Y (.lst (f.map spD)),Y (cD c),Y (.lst (row.map cD))] st' (.bcall .len [.var 5])=Y (O (row.map cD).length,st'):=qzr 0 [] 2 [];show((?qo).ev _ _ (.bcall .len [.var 5])).bind _=_;rw[el,Qqz];show(if big (row.length:J)=L then B else Y (Src.rng 0 (row.length:J).toNat,st'))=_;rw[Z8 ?o]
     rfl) (λi=>qxh 0 _ i) ?s ?l ⟨B,rfl⟩ λτ x g o=>by
    obtain⟨a,rfl⟩:=o;obtain⟨i,hi,rfl⟩:=Qqj.mp g;have hi:=Qz6.mp hi;have R:(0:J)+(i:J)=i:=by lia
    rw[R];have j:idxD st' (.lst (row.map cD)) (O (i:J))=Y (cD row[i]):=by
     show atI (row.map cD) (i:J)=_;unfold atI ixN;rw[Z9 ?d,Z9 ?t,oBs,Qqv];show Option.map _ row[i]?=_;rw[Qqb hi]
     rfl
    refine⟨[Y (O i),Y (.lst (row.map cD))],?_,_,rfl⟩;show turnC _ _ _ _ _ _ _=Y ((row[(i:J).toNat]?).map λp=>spD (p.1,p.2,(i:J)),_,_);rw[Int.toNat_natCast,Qqb hi];exact qjf rfl (qzr 0 [] 2 [Ki j,Kn,Ki j,Kn])
   have I:((List.range row.length).map λi:Y0=>D.int (0+(i:J))).filterMap (rwG row)=(crsP row).map spD:=by
    rw[q,Qxx,Qqp];refine Qkv λn=>?_;have:∀l:Z Y0,(∀x∈l,x<row.length)->l.filterMap (rwG row∘λi:Y0=>D.int (0+(i:J)))=l.map λ(i:Y0)=>spD ((row[i]?.getD (0,0)).1,(row[i]?.getD (0,0)).2,(i:J)):=λl hl=>by
     induction l with
     |nil=>rfl
     |cons x r C=>
      rw[Qq5,Qqd,C λy E=>hl y (.tail _ E)];have g:=hl x (.head _);have h2:(rwG row∘λi:Y0=>D.int (0+(i:J))) x=Y (spD (row[x].1,row[x].2,(x:J))):=rwG_at g;rw[h2,Qqb g]
      rfl
    rw[this _ λx g=>Qz6.mp g];rw[Qqv,Qqv,List.getElem?_zipIdx]
    by_cases hn:n<row.length
    ·rw[Qx3 hn,Qqb hn];show Y (spD ((row[n]?.getD (0,0)).1,(row[n]?.getD (0,0)).2,(n:J)))=Y (spD (row[n].1,row[n].2,((0+n:Y0):J)));rw[Qqb hn,Qz3]
     rfl
    ·rw[Qzh (by rw[Qxl]; lia),Qzh ?d]
     rfl
   rw[I]at z;have K:=qzv (st:=st') (ds:=(crsP row).map spD) (qzj λ_ _=>rfl);have w:=qzv (st:=st') (ds:=(f++crsP row).map spD) (qzj λ_ _=>rfl)
   have A:decide (lim<(f.map spD).length+((crsP row).map spD).length)=false:=Z7 (by
    rw[Qqz,Qqz]
    unfold lim; lia)
   refine⟨[Y ?w,Y (.tup ?H),Y (.tup ?y),Y (.lst ((f++crsP row).map spD)),Y (cD c),Y (.lst (row.map cD))],st',?_,⟨_,_,rfl⟩,rfl,by rw[Qqr]; lia⟩;rw[Qqg]at w ⊢
   exact qzp 0 [28] 2 [Kc Q,Kl N,Kc z,Kl K,Kb A,Kl w])
 obtain⟨⟨a,b,rfl⟩,rfl,_⟩:=h;rw[Qqz,Qzb]at e;have G:=qzv (st:=st') (ds:=[]) rfl;exact qzz 0 [] 3 [Kl G,Ks e]
end
noncomputable abbrev roB:Z M.S:=[.ite (.cmp .Eq (.idx ?qk (.lit (.int 0))) (.lit (sO "stake"))) [.dset ?qn (.var 2) (.sli ?qk (Y (.lit (.int 2))) B)] [],.ite (.and (.cmp .Eq (.idx ?qk (.lit (.int 0))) (.lit (sO "part"))) (.din Y6 (.idx ?qk ?qx) ?qn)) [.dset ?qn (.var 2) (.didx ?qn (.idx ?qk ?qx))] []]
section
def rob_ok(m)(S)(hk:KdOk W H P k)(hd:∀p∈rt,p.1≠day)(hl:rt.length<1000):
  (?M).ex [Y q,Y ?V,Y (O day),Y k.f] (S++[.dic L (kvR rt)]) roB=Y (.nx [Y q,Y ?V,Y (O day),Y k.f],S++[.dic L (kvR (rtS day k rt))]):=by
 have g:(S++[Ya.dic L (kvR rt)])[S.length]?=Y (.dic L (kvR rt)):=gl;have i:decide ((kvR rt).length<lim)=true:=Z6 ?k;have e:∀d:Rc4,(S++[Ya.dic L (kvR rt)]).set S.length (.dic L (dput (kvR rt) (O day) (rD d)))=S++[.dic L (kvR (rt++[(day,d)]))]:=λd=>by
  rw[sl,qqb λp l=>by
   obtain⟨u,j,rfl⟩:=Qqj.mp l
   exact beq_false_of_ne (hd u j)]
  rw[show kvR (rt++[(day,d)])=kvR rt++[(O day,rD d)] by unfold kvR; rw[Qqg]; rfl]
 cases k with
 |vein s ps=>exact qzp 0 [] 0 []
 |join a b f=>exact qzp 0 [] 0 []
 |stake o d=>
  show _=Y (_,S++[.dic L (kvR (rt++[(day,d)]))]);rw[<- e];generalize hX:S++[Ya.dic L (kvR rt)]=X at *;generalize kvR rt=kv at *;exact qzp 0 [] 0 [Kr g,Kb i]
 |clm f=>
  have hc:CF' f:=hk.2;have c:=λn=>qed (rt:=rt) n
  cases hc with
  |part n _ _ _ _ _=>
   show _=Y (_,S++[.dic L (kvR (rtP day (lkR rt n) rt))]);have c:=c n
   cases h:lkR rt n with
   |none=>
    rw[h]at c;show _=Y (_,S++[.dic L (kvR rt)]);generalize hX:S++[Ya.dic L (kvR rt)]=X at *;generalize kvR rt=kv at *;exact qzp 0 [] 0 [Kn,Kr g,Kq c]
   |some d=>
    rw[h]at c;show _=Y (_,S++[.dic L (kvR (rt++[(day,d)]))]);rw[<- e];generalize hX:S++[Ya.dic L (kvR rt)]=X at *;generalize kvR rt=kv at *;exact qzp 0 [] 0 [Kn,Kr g,Kq c,Kn,Kr g,Kq c,Kr g,Kb i]
  |_=>exact qzp 0 [] 0 []
def qhx(m)(S)(hX:∀p∈pl,KdOk W H P p.2)(up:(pl.map (·.1)).Pairwise (· < ·))(hl:pl.length<=24):callD fns (m+1) 79 [.lst ?U] S=Y (Y3 S.length,S++[.dic L (kvR (rtH pl []))]):=by
 obtain⟨τ',st',e,⟨a,b,rfl⟩,rfl⟩:=qz1 (c:=callD fns m) (τ:=[Y (.lst ?U),Y ?V,B,B]) (st:=S++[.dic L (kvR [])]) (it:=.var 0) (s:=.lst (.lst ?U)) (ds:=pl.map pK) (t:=.tup [2,3]) (body:=roB)
  (λi τ' st'=>(∃a b,τ'=[Y (.lst ?U),Y ?V,a,b])/\st'=S++[.dic L (kvR (rtH (pl.take i) []))])
  (by show((?M).ev _ _ _).bind _=_; rw[qqx _ _ _ _ (.lst ?U,S++[.dic L (kvR [])]) rfl]; rfl) (qzh rfl) (λk τ' st' _=>qz9 rfl k) ⟨⟨B,B,rfl⟩,rfl⟩ (λi τ' st' d hd h=>by
   obtain⟨⟨a,b,rfl⟩,rfl⟩:=h;rw[Qqv]at hd;obtain⟨p,hi,rfl⟩:=Qqy.mp hd;obtain⟨g,j⟩:=Qqk.mp hi;have tk:pl.take (i+1)=pl.take i++[p]:=by rw[Qq3 g,j]
   have r:rtH (pl.take (i+1)) []=rtS p.1 p.2 (rtH (pl.take i) []):=by rw[tk]; unfold rtH; rw[Qxv]; rfl
   have f:=qvz (pl.take i) [];have l:=f.length_le;simp only[Qxs,Qja,Qqz,Qzy]at l
   have e:=rob_ok (q:=.lst ?U) (day:=p.1) m S (hX p (Qqn hi)) (rt:=rtH (pl.take i) []) (λu n=>by
    have o:u.1∈([]:Rts).map (·.1)++(pl.take i).map (·.1):=f.subset (Qqj.mpr ⟨u,n,rfl⟩);have h2:((pl.take i++[p]).map (·.1)).Pairwise (· < ·):=by rw[<- tk]; exact up.sublist ((Qxu _ _).map _)
    rw[Qqg,Qxf]at h2
    exact Int.ne_of_lt (h2.2.2 u.1 o p.1 (.head _))) ?d
   rw[<- r]at e
   exact⟨_,_,e,⟨_,_,rfl⟩,rfl⟩)
 rw[Qqz,Qzb]at e;have v:(([Y (.lst ?U),Y ?V,B,B]:Sl),(S++[Ya.dic L []]).set S.length (.dic L (dall [])))=([Y (.lst ?U),Y ?V,B,B],S++[.dic L (kvR [])]):=by
  rw[sl]
  rfl
 exact qzz 0 [] 1 [Kr (gl (st:=S) (c:=.dic L [])),Ke v,Ks e]
end
structure Pr2 (late:J) (ss:Z J) (ps:Z (J×J)) (rt:Rts) (free:Yb) (a b:Ps):Prop where
 ca:Cv rt a.zs
 cb:Cv rt b.zs
 fr:free=L->a=b
 nf:free=Y6->∃v1,Tws (tcF rt ps) (late,.tup (ss.map .int),ps) v1 a b/\JnE late b.jo
def pr2_of{T:J}(up:(pl.map (·.1)).Pairwise (· < ·))(hL:(late,Kd.vein (Y9 ?H) ps)∈pl)(hjn:∀p∈pl,∀x y f,p.2=.join x y f->x≠late/\y≠late):
  Pr2 late ss ps (rtH pl []) (decide (D'<late)) (hst T ((pl.filter λp=>!(p.1==late)).filter λp=>decide (p.1<=D')) q0) (hst T (pl.filter λp=>decide (p.1<=D')) q0):=by
 by_cases h:D'<late
 ·have e:((pl.filter λp=>!(p.1==late)).filter λp=>decide (p.1<=D'))=pl.filter λp=>decide (p.1<=D'):=by
   rw[List.filter_filter];refine List.filter_congr λp _=>?_
   by_cases h2:p.1<=D'
   ·have:(p.1==late)=false:=beq_false_of_ne ?d;rw[this,Z6 h2]; rfl
   ·rw[Z7 h2]; rfl
  rw[e];have c:=qbv (T:=T) (qnz up) (pl:=pl.filter λp=>decide (p.1<=D')) (q:=q0) (λp a=>(Qqu.mp a).1) (up.sublist (Qx7.map _)) (λp _ c hc=>by cases hc) λc hc=>by cases hc
  exact⟨c,c,λ_=>rfl,λz=>absurd h (of_decide_eq_false z)⟩
 ·obtain⟨v1,h1,h2,d,b⟩:=two_st (T:=T) up hL hjn (D':=D') ?d;exact⟨d,b,λz=>absurd (of_decide_eq_true z) h,λ_=>⟨v1,h1,h2⟩⟩
def rk_z(h:cs.map Cl.z=a.map Cl.z):rkH ps p cs ro d=rkH ps p a ro d:=by
 unfold rkH;rw[<- qhk ps (stC cs _ d),<- qhj ps p (stC cs _ d),<- qhk ps (stC a _ d),<- qhj ps p (stC a _ d),qmr,qmr,h]
section
variable {W H P D:J}{late:J}{ss:Z J}{ps:Z (J×J)}{rt:Rts}{free:Yb}{a b:Ps}{cs cs':Z Cl}
def qnq(h:Pr2 late ss ps rt free a b)(hn:late≠0)(z1:cs.map Cl.z=a.zs)(z2:cs'.map Cl.z=b.zs)(vn:(b.vs.map (·.1)).Nodup)(hl:(ss.length:J)=P)(i:InG W H P (x,y,z))(hc:free=L\/(x,y,z) ∉ crsA W H P ss ps):
  (free=L->rkH (hdM W H P x y z a.jo a.vs) (x,y) cs a.ro D=rkH (hdM W H P x y z b.jo b.vs) (x,y) cs' b.ro D)/\
  (free=Y6->((rkH (hdM W H P x y z a.jo a.vs) (x,y) cs a.ro D).filter λu=>kp (tcF rt ps) u.1)=(rkH (hdM W H P x y z b.jo b.vs) (x,y) cs' b.ro D).filter λu=>kp (tcF rt ps) u.1):=by
 constructor
 ·intro hf;have e:=h.fr hf;subst e;exact rk_z (z1.trans z2.symm)
 ·intro hf;obtain⟨v1,d,g⟩:=h.nf hf;have hc:(x,y,z) ∉ crsA W H P ss ps:=by
   rcases hc with z|z
   ·rw[hf]at z; cases z
   ·exact z
  obtain⟨⟨m,l,f⟩,k,_,_⟩:=id d;have j:=jn_no hn g;have c:hdM W H P x y z b.jo b.vs=hdM W H P x y z a.jo a.vs:=by
   rw[l,f,k];exact qpq (Lq:=(late,Y9 ?H,ps)) (by rw[<- f]; exact vn) j.1 j.2 (qht i hl hc)
  rw[c];exact qix d z1 z2 _ (x,y) D
def nm_in{q:Ps}(h:Cv rt q.zs)(d:cs.map Cl.z=q.zs):∀u∈rkH hd p cs q.ro D,∃g,(u.1,g)∈rt:=λu f=>by
 obtain⟨c,hc,e⟩:=rk_nm f;have i:c.z∈q.zs:=by rw[<- d]; exact Qqj.mpr ⟨c,hc,rfl⟩
 obtain⟨g,j,_⟩:=h _ i;exact⟨g,by rw[<- e]; exact j⟩
end
def spD_eq(p q):eqT (spD p) (spD q)=decide (p=q):=by
 obtain⟨a,b,c⟩:=p;obtain⟨d,e,f⟩:=q;show((a==d)&&((b==e)&&((c==f)&&L)))=_;rw[Qx8]
 by_cases h:(a,b,c)=(d,e,f)
 ·cases h; simp
 ·rw[Z7 h,<- Qx2];simp only[Qqt,beq_iff_eq];rintro⟨rfl,rfl,rfl⟩;exact h rfl
def not_sp(S)(co:Z P3)(u):cmpD S .NotIn (spD u) (Yc (co.map spD))=Y (!decide (u∈co)):=by
 show(inD S (spD u) (Yc (co.map spD))).map (!·)=_;have e:inD S (spD u) (Yc (co.map spD))=Y (decide (u∈co)):=by
  show(if flat 9 (spD u)&&flats 9 (co.map spD) then Y ((co.map spD).any λy=>eqT y (spD u)) else B)=_;have f:flats 9 (co.map spD)=true:=by unfold flats; rw[Qze]; intro x c; obtain⟨i,_,rfl⟩:=Qqj.mp c; rfl
  rw[f];show Y _=_;rw[List.any_map];refine congrArg Y ?_
  induction co with
  |nil=>rfl
  |cons a r b=>
   rw[Qxb,b (by unfold flats at f ⊢; rw[Qqd,Qz4,Qqt]at f; exact f.2)];show(eqT (spD a) (spD u)||_)=_;rw[spD_eq]
   by_cases h:a=u
   ·subst h; simp
   ·rw[Z7 h,Qkq]
    by_cases h2:u∈r
    ·rw[Z6 h2,Z6 (Qq6 _ h2)]
    ·rw[Z7 h2,Z7 λz=>by
      rcases Qqc.mp z with z|z
      ·exact h z.symm
      ·exact h2 z]
 rw[e]
 rfl
noncomputable abbrev lwB:Z M.S:=[.set (.var 16) (.gc (.lst [.gc (.call 38 [.idx (.var 14) (.lit (.int 0)),.var 15]),.gc (.call 38 [.idx (.var 14) ?qx,.var 15])])),.set (.var 17) (.cmp .Lt (.idx (.var 9) (.var 13)) (.var 5)),.ite (.or (.var 17) (.cmp .NotIn (.var 15) (.var 11))) [.ite (.not (.call 83 [.var 12,.var 7,.var 16,.var 17])) [.ret (.lit (.bl Y6))] []] []]
structure Lw where
 ns:Z J
 pl:D
 vs:D
 late:J
 ss:Z J
 ps:Z (J×J)
 days:Z J
 la:Y0
 co:Z P3
 r:Y0
noncomputable abbrev lwT(W H P T:J)(w:Lw)(k fl sp rw fr:Y2 D):Sl:=
 [Y (scr w.ns),Y ?w,Y (.int T),Y w.pl,Y w.vs,Y (.int w.late),Y (.tup (w.ss.map .int)),Y (.tup (w.ps.map cD)),Y (.loc 0),Y (.lst (w.days.map .int)),Y (.loc w.la),Y (.lst (w.co.map spD)),Y (.loc w.r),k,fl,sp,rw,fr]
structure Two (W H P T D:J) (w:Lw) (rt:Rts) (k:J) (LF N1 N2:Y0) (a b:Ps) (cs cs':Z Cl) (k1 k2:Y0) (S:Y1):Prop where
 hl:S[LF]?=Y (.lst L [.loc N1,.loc N2])
 A1:FA (pU N1 T cs) (szD W H P) D (voD a.vs) a.jo cs a.ro S
 A2:FA (pU N2 T cs') (szD W H P) D (voD b.vs) b.jo cs' b.ro S
 z1:cs.map Cl.z=a.zs
 z2:cs'.map Cl.z=b.zs
 p1:Pu W H k1 T D a.vs a.jo cs a.ro
 l1:k1<=24
 p2:Pu W H k2 T D b.vs b.jo cs' b.ro
 l2:k2<=24
 pr:Pr2 w.late w.ss w.ps rt (decide (D<w.late)) a b
 hr:S[w.r]?=Y (.dic L (kvR rt))
 nd:(rt.map (·.1)).Nodup
 hd:idxD S (.lst (w.days.map .int)) (.int k)=Y (.int D)
 hn:w.late≠0
 sl:(w.ss.length:J)=P
 pl:w.ps.length<=16
 co:w.co=crsA W H P w.ss w.ps
section
variable {W H P T D:J}{w:Lw}{rt:Rts}{k:J}{LF N1 N2:Y0}{a b:Ps}{cs cs':Z Cl}{k1 k2:Y0}{S:Y1}
def Two.i1(h:Two W H P T D w rt k LF N1 N2 a b cs cs' k1 k2 S):idxD S (Y3 LF) (O 0)=Y (Y3 N1):=by
 show(listAt S LF).bind _=_;unfold listAt;rw[h.hl]
 rfl
def Two.i2(h:Two W H P T D w rt k LF N1 N2 a b cs cs' k1 k2 S):idxD S (Y3 LF) (O 1)=Y (Y3 N2):=by
 show(listAt S LF).bind _=_;unfold listAt;rw[h.hl]
 rfl
def Pu.asks{k:Y0}(p:Pu W H k T D vs jo cs ro)(hk:k<=24):(cs.map (·.nm)).Nodup/\(∀n∈ro,∃c∈cs,c.nm=n)/\ro.length<1000:=
 ⟨p.up.imp Int.ne_of_lt,p.R.in1,by have:=p.rl; lia⟩
def qmc(m)(h:Two W H P T D w rt k LF N1 N2 a b cs cs' k1 k2 S)(q:InG W H P u)(v t):
  ∃s r,(?J).ex (lwT W H P T w (Y (O k)) (Y (Y3 LF)) (Y (spD u)) v t) S lwB=Y (.nx (lwT W H P T w (Y (O k)) (Y (Y3 LF)) (Y (spD u)) s r),S):=by
 obtain⟨x,y,z⟩:=u;have e:ing W H P x y z=true:=by
  obtain⟨i1,i2,U,R,Q,N⟩:=q;unfold ing;rw[Z6 i1,Z6 i2,Z6 U,Z6 R,Z6 Q,Z6 N]
  rfl
 have o:=h.p1.vl;have n:=h.p2.vl;have a0:=h.l1;have X:=h.l2;obtain⟨G,E,l1⟩:=h.p1.asks h.l1;obtain⟨F,C,l2⟩:=h.p2.asks h.l2;obtain⟨q1,c1,j⟩:=qa3 (d:=D) h.p1.vn ?d h.p1.V h.p1.jv e cs a.ro G E l1 (m+4) _ S h.A1;obtain⟨q2,c2,i⟩:=qa3 (d:=D) h.p2.vn ?d h.p2.V h.p2.jv e cs' b.ro F C l2 (m+4) _ S h.A2;have mA:=nm_in (hd:=hdM W H P x y z a.jo a.vs) (p:=(x,y)) (D:=D) h.pr.ca h.z1;have l:=nm_in (hd:=hdM W H P x y z b.jo b.vs) (p:=(x,y)) (D:=D) h.pr.cb h.z2;have K:=qlj (ps:=hdM W H P x y z a.jo a.vs) (p:=(x,y)) (cs:=cs) (ro:=a.ro) (d:=D);have I:=qlj (ps:=hdM W H P x y z b.jo b.vs) (p:=(x,y)) (cs:=cs') (ro:=b.ro) (d:=D);have ro:=qnq (D:=D) h.pr h.hn h.z1 h.z2 (h.p2.vn.imp Int.ne_of_lt) h.sl (x:=x) (y:=y) (z:=z) q;have ns:=not_sp S w.co (x,y,z);rw[<- h.co]at ro;unfold rkH at mA l K I ro;have i1:=h.i1;have i2:=h.i2;have hr:=h.hr;have hd:=h.hd;have nd:=h.nd;have V:=h.pl;generalize rkA (hdM W H P x y z a.jo a.vs) (stC cs a.ro D)++rkG (hdM W H P x y z a.jo a.vs) (x,y) (stC cs a.ro D)=A at *;generalize rkA (hdM W H P x y z b.jo b.vs) (stC cs' b.ro D)++rkG (hdM W H P x y z b.jo b.vs) (x,y) (stC cs' b.ro D)=Bq at *
 have g:=qzv (st:=S) (ds:=[hrD A,hrD Bq]) (by
  show(noLocs (A.map hiD)&&(noLocs (Bq.map hiD)&&L))=L;rw[nl_h,nl_h]
  rfl)
 have c:(decide (D<w.late)=L\/(x,y,z) ∉ w.co)->callD fns (m+9) 83 [Y3 w.r,Y9 (w.ps.map cD),Yc [hrD A,hrD Bq],.bl (decide (D<w.late))] S=Y (.bl L,S):=λhc=>
  qg3 (m+5) hr nd (by unfold lim; lia) mA l ?d ?d _ (ro hc).1 (ro hc).2
 refine⟨Y (Yc [hrD A,hrD Bq]),Y (.bl (decide (D<w.late))),?_⟩
 cases hf:decide (D<w.late) with
 |true=>
  have c:=c (.inl hf);rw[hf]at c;exact qzp 0 [38,83] 9 [Ki i1,Kc c1,Kl j,Ki i2,Kc c2,Kl i,Kl g,Ki hd,Kb hf,Kc c]
 |false=>
  by_cases f:(x,y,z)∈w.co
  ·rw[Z6 f]at ns;exact qzp 0 [38,83] 9 [Ki i1,Kc c1,Kl j,Ki i2,Kc c2,Kl i,Kl g,Ki hd,Kb hf,Kb ns]
  ·have c:=c (.inr f);rw[hf]at c;rw[Z7 f]at ns;exact qzp 0 [38,83] 9 [Ki i1,Kc c1,Kl j,Ki i2,Kc c2,Kl i,Kl g,Ki hd,Kb hf,Kb ns,Kc c]
end
def qma(e:(RL c).ev (Y d::b) st elt=Y (x,st')):turnC (RL c) ?K B elt (a::b) st d=Y (Y x,Y d::b,st'):=by
 unfold turnC;show(Y (Y d::b):Y2 Sl).bind _=_;rw[oBs,e]
 rfl
def qcj(hit:τ[i]?=Y (Y (.lst [f,d1,d2])))(r:inner sr τ=B::b)(w:(RL c).ev (Y f::b) st elt=Y (o,l))(v:(RL c).ev (Y d1::b) l elt=Y (n,j))(u:(RL c).ev (Y d2::b) j elt=Y (m,h)):
  stepEv (RL c) τ st (.comp ?K (.var i) B elt sr)=Y (Y3 h.length,h++[Y8 L [o,n,m]]):=by
 have e:=qqx c τ st (.var i) (.lst [f,d1,d2],st) (by show(match τ[i]? with|some (Y d)=>Y (d,st)|_=>B)=_; rw[hit]);have hs:src (RL c) τ st (.var i)=Y (.lst (.lst [f,d1,d2]),st):=by show((RL c).ev τ st (.var i)).bind _=_; rw[e]; rfl
 show((src (RL c) τ st (.var i)).bind λp=>(loopC p.1 (turnC (RL c) ?K B elt) (p.1.size p.2+1) 0 [] (inner sr τ) p.2).map λq=>alloc q.2 (Y8 L q.1))=_;rw[hs,r];show(loopC (.lst (.lst [f,d1,d2])) (turnC (RL c) ?K B elt) 4 0 [] (B::b) st).map _=_;have step:∀(k i:Y0) (g:Z D) (a:Y2 D) (s s':Y1) (d x:D),[f,d1,d2][i]?=Y d->g.length<4->(RL c).ev (Y d::b) s elt=Y (x,s')->loopC (.lst (.lst [f,d1,d2])) (turnC (RL c) ?K B elt) (k+1) i g (a::b) s=loopC (.lst (.lst [f,d1,d2])) (turnC (RL c) ?K B elt) k (i+1) (g++[x]) (Y d::b) s':=λk i g a s s' d x hd hl t=>by
  rw[loopC];show(Y ([f,d1,d2][i]?)).bind _=_;rw[hd,oBs];dsimp only;rw[Z8 (by unfold lim; lia),qma t]
  rfl
 rw[step 3 0 [] B st l f o rfl ?g w,step 2 1 _ _ l j d1 n rfl ?g v,step 1 2 _ _ j h d2 m rfl ?g u]
 rfl
section
variable {ts pl:Pk}(K:Kp ts pl){W H P T:J}{dn:Z M.D}{b:Y0}{X:Y1}(hX:∀p∈pl,KdOk W H P p.2){D0 D1 D2:J}
structure Lf (W H P T D:J) (q:Ps) (X U:Y1) (N:Y0) (cs:Z Cl) (k:Y0):Prop where
 A:∀(kv:Z (M.D×M.D)) (dn:Z M.D) (b:Y0) (Zq:Y1),FA (pU N T cs) (szD W H P) D (voD q.vs) q.jo cs q.ro (DS (szD W H P) T kv dn b (X++U++Zq))
 z:cs.map Cl.z=q.zs
 p:Pu W H k T D q.vs q.jo cs q.ro
 l:k<=24
noncomputable abbrev qD(T:J)(pl:Pk)(D:J):Ps:=hst T (pl.filter λp=>decide (p.1<=D)) q0
theorem qoh{D:J}(F:Fs W H T D k q cs rest)(hk:k<=24)(A Bq)(a:U=A++up ((X++A).length+3) (FQ W H P T D q cs rest)++Bq):Lf W H P T D q X U ((X++A).length+3) cs k where
 A:=λkv dn b Zq=>by
  have h:=fa_up (pre:=DS ?w T kv dn b (X++A)) (N:=(X++A).length+3) (X:=Bq++Zq) (W:=W) (H:=H) (P:=P) (T:=T) (d:=D) (q:=q) (cs:=cs) (rest:=rest) rfl F.I F.pu.V F.pu.jv;have e:DS ?w T kv dn b (X++U++Zq)=DS ?w T kv dn b (X++A)++up ((X++A).length+3) (FQ W H P T D q cs rest)++(Bq++Zq):=by
   rw[a];simp only[Qqo,Qke]
  rw[e];exact h
 z:=F.z
 p:=F.pu
 l:=hk
noncomputable abbrev ahE:E:=.comp ?K (.var 9) B (.mcall 802 59 "field" ?qn [.var 0]) [B,Y 8]
include K hX
theorem qis(g:1<=W)(f:W<=24)(x:1<=H)(w:H<=24)(p0:0<=P)(p1:P<=12)(j:1<=T)(i:T<=400)(C:1<=D0/\D0<=400)(A:1<=D1/\D1<=400)(z:1<=D2/\D2<=400)(m)(N:τ[9]?=Y (Y (Yc [O D0,O D1,O D2])))(Q:τ[8]?=Y (Y (Y3 0))):
  ∃(G F E:Y0) (U:Y1) (c0 c1 c2:Z Cl) (o n k2:Y0),stepEv ?J τ (DS ?w T (kvD ts) dn b X) ahE=Y (Y3 (DS ?w T (kvD ts) dn b (X++U)).length,DS ?w T (kvD ts) dn b (X++U++[Y8 L [Y3 G,Y3 F,Y3 E]]))/\
   Lf W H P T D0 (qD T pl D0) X U G c0 o/\Lf W H P T D1 (qD T pl D1) X U F c1 n/\Lf W H P T D2 (qD T pl D2) X U E c2 k2:=by
 obtain⟨o,c0,l,e,F0,I⟩:=qjb (D:=D0) (dn:=dn) (b:=b) (X:=X) K hX g f x w p0 p1 j i C.1 C.2 m;obtain⟨n,c1,k,c,V,l1⟩:=qjb (D:=D1) (dn:=dn) (b:=b) (X:=X++up ?q2 (FQ W H P T D0 (qD T pl D0) c0 l)) K hX g f x w p0 p1 j i A.1 A.2 m
 replace e:callD fns (m+9) 59 [Y3 0,O D0] (DS ?w T (kvD ts) dn b X)=Y (Y3 ?q2,DS ?w T (kvD ts) dn b (X++up ?q2 (FQ W H P T D0 (qD T pl D0) c0 l))):=e
 generalize u:up ?q2 (FQ W H P T D0 (qD T pl D0) c0 l)=U0 at e c;obtain⟨k2,c2,y,a,S,l2⟩:=qjb (D:=D2) (dn:=dn) (b:=b) (X:=X++U0++up ((X++U0).length+3) (FQ W H P T D1 (qD T pl D1) c1 k)) K hX g f x w p0 p1 j i z.1 z.2 m
 replace c:callD fns (m+9) 59 [Y3 0,O D1] (DS ?w T (kvD ts) dn b (X++U0))=Y (Y3 ((X++U0).length+3),DS ?w T (kvD ts) dn b (X++U0++up ((X++U0).length+3) (FQ W H P T D1 (qD T pl D1) c1 k))):=c
 generalize t:up ((X++U0).length+3) (FQ W H P T D1 (qD T pl D1) c1 k)=U1 at c a
 replace a:callD fns (m+9) 59 [Y3 0,O D2] (DS ?w T (kvD ts) dn b (X++U0++U1))=Y (Y3 ((X++U0++U1).length+3),DS ?w T (kvD ts) dn b (X++U0++U1++up ((X++U0++U1).length+3) (FQ W H P T D2 (qD T pl D2) c2 y))):=a
 generalize s:up ((X++U0++U1).length+3) (FQ W H P T D2 (qD T pl D2) c2 y)=U2 at a;have q:inner [B,Y 8] τ=[B,Y (Y3 0)]:=by show [B,(τ[8]?).bind id]=_; rw[Q]; rfl
 have v:∀(d:M.D) (Yq:Y1) (r:M.D×Y1),callD fns (m+9) 59 [Y3 0,d] (DS ?w T (kvD ts) dn b Yq)=Y r->(?J).ev [Y d,Y (Y3 0)] (DS ?w T (kvD ts) dn b Yq) (.mcall 802 59 "field" (Yd 1) [Yd 0])=Y r:=λd Yq r h=>
  qzr 3 [59] 9 [Kc h]
 have hc:=qcj N q (v _ _ _ e) (v _ _ _ c) (v _ _ _ a);have R:X++U0++U1++U2=X++(U0++U1++U2):=by rw[Qqo,Qqo,Qqo]
 refine⟨X.length+3,(X++U0).length+3,(X++U0++U1).length+3,U0++U1++U2,c0,c1,c2,o,n,k2,?_,?_,?_,?_⟩
 ·rw[<- R];exact hc
 ·have:=qoh (P:=P) (X:=X) (U:=U0++U1++U2) F0 I [] (U1++U2) (by rw[Qqs,u,Qja,Qqo]);rw[Qqs]at this;exact this
 ·exact qoh (P:=P) (X:=X) (U:=U0++U1++U2) V l1 U0 U2 (by rw[t])
 ·have:=qoh (P:=P) (X:=X) (U:=U0++U1++U2) S l2 (U0++U1) [] (by rw[<- Qqo X,s,Qqs]);rw[<- Qqo]at this;exact this
end
noncomputable abbrev frS:M.S:=.forr (.var 15) (.gc (.call 78 [.var 0,.lit (.int 1),.var 1])) lwB
noncomputable abbrev dyB:Z M.S:=[.set (.var 14) (.lst [.idx (.var 10) (.var 13),.mcall 802 59 "field" (.var 8) [.idx (.var 9) (.var 13)]]),frS]
section
variable {W H P T D:J}{w:Lw}{rt:Rts}{k:J}{LF N1 N2:Y0}{a b:Ps}{cs cs':Z Cl}{k1 k2:Y0}{S:Y1}
def qbl(hn:w.ns.length<=63)(z:1<=W)(y:W<=24)(E:1<=H)(C:H<=24)(p0:0<=P)(p1:P<=12)(m)(h:Two W H P T D w rt k LF N1 N2 a b cs cs' k1 k2 S)(o n l):
  ∃j f d,stepEx ?J (lwT W H P T w (Y (O k)) (Y (Y3 LF)) o n l) S frS=Y (.nx (lwT W H P T w (Y (O k)) (Y (Y3 LF)) j f d),S):=by
 obtain⟨fd,p,G,r⟩:=qm1 hn z y E C p0 p1 (m+7) S;have g:=qzv (st:=S) (ds:=fd.map spD) (qzj λ_ _=>rfl);have q:(?J).ev (lwT W H P T w (Y (O k)) (Y (Y3 LF)) o n l) S (.gc (.call 78 [.var 0,.lit (O 1),.var 1]))=Y (.lst (fd.map spD),S):=
  qzr 0 [78] 9 [Kc p,Kl g]
 obtain⟨τ',st',hf,j,f,d,rfl,rfl⟩:=qz1 (c:=callD fns (m+9)) (τ:=lwT W H P T w (Y (O k)) (Y (Y3 LF)) o n l) (st:=S) (it:=.gc (.call 78 [.var 0,.lit (O 1),.var 1])) (s:=.lst (.lst (fd.map spD))) (ds:=fd.map spD) (t:=.var 15) (body:=lwB)
  (λi τ' st'=>∃j f d:Y2 M.D,τ'=lwT W H P T w (Y (O k)) (Y (Y3 LF)) j f d/\st'=S)
  (by show((?J).ev _ _ _).bind _=_; rw[q]; rfl) (qzh rfl) (λk τ' st' _=>qz9 rfl k) ⟨o,n,l,rfl,rfl⟩ (λi τ' st' x v A=>by
   obtain⟨F,z1,z2,rfl,rfl⟩:=A;rw[Qqv]at v;obtain⟨u,hi,rfl⟩:=Qqy.mp v;obtain⟨K,I,e⟩:=qmc m h (r u (Qqn hi)) z1 z2
   exact⟨_,_,e,_,_,_,rfl,rfl⟩)
 exact⟨_,_,_,hf⟩
end
section
variable {W H P T:J}{tsB pl:Pk}{dn:Z M.D}{b:Y0}{XA U Yq:Y1}{w:Lw}
structure Dy (W H P T:J) (w:Lw) (pl tsB:Pk) (dn:Z M.D) (b:Y0) (XA U Yq:Y1) (k:J) (D:J) (N:Y0) (cs:Z Cl) (k1:Y0):Prop where
 d1:1<=D
 d2:D<=400
 hd:∀S,idxD S (.lst (w.days.map .int)) (.int k)=Y (.int D)
 lf:Lf W H P T D (qD T (pl.filter λp=>!(p.1==w.late)) D) XA U N cs k1
 ha:∀Zq,idxD (DS (szD W H P) T (kvD tsB) dn b (XA++U++(Yq++Zq))) (.loc w.la) (.int k)=Y (.loc N)
structure Lb (W H P T:J) (w:Lw) (pl tsB:Pk) (dn:Z M.D) (b:Y0) (XA U Yq:Y1):Prop where
 K:Kp tsB pl
 hX:∀p∈pl,KdOk W H P p.2
 hL:(w.late,Kd.vein (.tup (w.ss.map .int)) w.ps)∈pl
 hjn:∀p∈pl,∀x y f,p.2=.join x y f->x≠w.late/\y≠w.late
 hr:∀Zq,(DS (szD W H P) T (kvD tsB) dn b (XA++U++(Yq++Zq)))[w.r]?=Y (.dic L (kvR (rtH pl [])))
 sl:(w.ss.length:J)=P
 pl:w.ps.length<=16
 co:w.co=crsA W H P w.ss w.ps
def qpm(hn:w.ns.length<=63)(r:1<=W)(o:W<=24)(u:1<=H)(t:H<=24)(p0:0<=P)(p1:P<=12)(z:1<=T)(v:T<=400)(m)(Lq:Lb W H P T w pl tsB dn b XA U Yq){D:J}(d:Dy W H P T w pl tsB dn b XA U Yq k D N cs s)(Zq)(x n l j):
  ∃y g c a Z',(?J).ex (lwT W H P T w (Y (O k)) x n l j) (DS ?w T (kvD tsB) dn b (XA++U++(Yq++Zq))) dyB=Y (.nx (lwT W H P T w (Y (O k)) y g c a),DS ?w T (kvD tsB) dn b (XA++U++(Yq++Z'))):=by
 obtain⟨k2,c2,h,e,F,l2⟩:=qjb (D:=D) (dn:=dn) (b:=b) (X:=XA++U++(Yq++Zq)) Lq.K Lq.hX r o u t p0 p1 z v d.d1 d.d2 m
 replace e:callD fns (m+9) 59 [Y3 0,O D] (DS ?w T (kvD tsB) dn b (XA++U++(Yq++Zq)))=Y (Y3 ((XA++U++(Yq++Zq)).length+3),DS ?w T (kvD tsB) dn b (XA++U++(Yq++Zq)++up ((XA++U++(Yq++Zq)).length+3) (FQ W H P T D (qD T pl D) c2 h))):=e
 have i:=λQ=>fa_up (pre:=DS ?w T (kvD tsB) dn b (XA++U++(Yq++Zq))) (N:=(XA++U++(Yq++Zq)).length+3) (X:=Q) (W:=W) (H:=H) (P:=P) (T:=T) (d:=D) (q:=qD T pl D) (cs:=c2) (rest:=h) rfl F.I F.pu.V F.pu.jv;generalize up ((XA++U++(Yq++Zq)).length+3) (FQ W H P T D (qD T pl D) c2 h)=V at e i;generalize (XA++U++(Yq++Zq)).length+3=N2 at e i;have lt:w.late≠0:=by have:=(Lq.K.day _ Lq.hL).1; dsimp only at this; lia
 have eq:∀Q,XA++U++(Yq++Zq)++V++Q=XA++U++(Yq++(Zq++V++Q)):=λQ=>by simp only[Qqo]
 have TT:Two W H P T D w (rtH pl []) k (DS ?w T (kvD tsB) dn b (XA++U++(Yq++Zq)++V)).length N N2 (qD T (pl.filter λp=>!(p.1==w.late)) D) (qD T pl D) cs c2 s k2 (DS ?w T (kvD tsB) dn b (XA++U++(Yq++Zq)++V++[Y8 L [Y3 N,Y3 N2]])):={
  hl:=gl (st:=DS ?w T (kvD tsB) dn b (XA++U++(Yq++Zq)++V))
  A1:=by rw[eq]; exact d.lf.A _ _ _ _
  A2:=i _
  z1:=d.lf.z
  z2:=F.z
  p1:=d.lf.p
  l1:=d.lf.l
  p2:=F.pu
  l2:=l2
  pr:=pr2_of Lq.K.up Lq.hL Lq.hjn
  hr:=by rw[eq]; exact Lq.hr _
  nd:=(qnz Lq.K.up).nd
  hd:=d.hd _
  hn:=lt
  sl:=Lq.sl
  pl:=Lq.pl
  co:=Lq.co }
 obtain⟨g,c,a,f⟩:=qbl (k:=k) hn r o u t p0 p1 m TT n l j;have ha:=d.ha Zq;have hd:=d.hd (DS ?w T (kvD tsB) dn b (XA++U++(Yq++Zq)));refine⟨Y (Y3 (DS ?w T (kvD tsB) dn b (XA++U++(Yq++Zq)++V)).length),g,c,a,Zq++V++[Y8 L [Y3 N,Y3 N2]],?_⟩;rw[<- eq];generalize XA++U++(Yq++Zq)=Q at *;exact qzp 3 [59] 9 [Ki ha,Ki hd,Kc e,Ks f]
noncomputable abbrev dyS:M.S:=.forr (.var 13) (.rng1 (.lit (.int 3))) dyB
def qpl(hn:w.ns.length<=63)(p:1<=W)(o:W<=24)(z:1<=H)(v:H<=24)(p0:0<=P)(p1:P<=12)(r:1<=T)(q:T<=400)(m)(Lq:Lb W H P T w pl tsB dn b XA U Yq)(hd:∀i:Y0,i<3->∃D N cs k1,Dy W H P T w pl tsB dn b XA U Yq (i:J) D N cs k1):
  ∃τ' A,stepEx ?J (lwT W H P T w B B B B B) (DS ?w T (kvD tsB) dn b (XA++U++Yq)) dyS=Y (.nx τ',A):=by
 obtain⟨τ',st',hf,_⟩:=qz1 (c:=callD fns (m+9)) (τ:=lwT W H P T w B B B B B) (st:=DS ?w T (kvD tsB) dn b (XA++U++Yq)) (it:=.rng1 (.lit (O 3))) (s:=.rng 0 3) (ds:=(List.range 3).map λi:Y0=>M.D.int (0+(i:J))) (t:=.var 13) (body:=dyB)
  (λi τ' st'=>∃x l k h g Zq,τ'=lwT W H P T w x l k h g/\st'=DS ?w T (kvD tsB) dn b (XA++U++(Yq++Zq)))
  (by show((?J).ev _ _ (.lit (O 3))).bind _=_; rw[qqx _ _ _ (.lit (O 3)) (O 3,_) rfl]; rfl) ?s (λi τ' st' _=>qxh 0 _ i) ⟨B,B,B,B,B,[],rfl,by rw[Qqs]⟩ (λi τ' st' x n u=>by
   obtain⟨x,l,k,h,g,Zq,rfl,rfl⟩:=u;rw[Qqv]at n;obtain⟨j,hj,rfl⟩:=Qqy.mp n;obtain⟨a,f⟩:=Qqk.mp hj;rw[Qxl]at a;rw[List.getElem_range]at f;subst f;obtain⟨D,N,cs,k1,d⟩:=hd i a;rw[Int.zero_add];obtain⟨y,F,E,C,G,e⟩:=qpm hn p o z v p0 p1 r q m Lq d Zq l k h g
   exact⟨_,_,e,_,_,_,_,_,_,rfl,rfl⟩)
 exact⟨_,_,hf⟩
end
theorem pk_of:∀{l},(∀p∈l,DF W H P p.2)->∃pl:Pk,l=pl.map (λp=>(p.1,p.2.f))/\∀p∈pl,KdOk W H P p.2
 |[],_=>⟨[],rfl,Qq4 _⟩
 |a::r,h=>by
  obtain⟨pl,e,q⟩:=pk_of (l:=r) λp b=>h p (.tail _ b);obtain⟨k,hk,ok⟩:=kd_of (h a (.head _));exact⟨(a.1,k)::pl,by rw[Qqd,<- e,hk],Qjy.mpr ⟨ok,q⟩⟩
def wvn(h:KdOk W H P k)(e:wIs k.f ["vein"]=L):∃(ss:Z J) (ps:Z (J×J)),k=.vein (Y9 ?H) ps/\(ss.length:J)=P/\ss.length<=100/\(∀s∈ss,0<=s/\s<=4)/\ps.length<=16:=by
 cases k with
 |vein s ps=>
  obtain⟨ss,rfl,j,i,d,_,c,_⟩:=h.2;exact⟨ss,ps,rfl,j,i,d,c⟩
 |join a b f=>cases e
 |stake o g=>cases e
 |clm f=>
  have hc:CF' f:=h.2;cases hc<;>cases e
def t_vn(m)(S)(p:J×D)(h:DF W H P p.2):(?M).tst [Y (O p.1),Y p.2] S (.cmp .Eq (.idx (Yd 1) (.lit (O 0))) (.lit (sO "vein")))=Y (wIs p.2 ["vein"],S):=by
 obtain⟨x,f⟩:=p
 cases h with
 |vein=>exact qzm 0 [] 0 []
 |join=>exact qzm 0 [] 0 []
 |stake=>exact qzm 0 [] 0 []
 |claim h _=>cases h<;>exact qzm 0 [] 0 []
def pk_D(pl:Pk):(pl.map λp=>(p.1,p.2.f)).map pD=pl.map pK:=by rw[Qqp]; rfl
structure Plan (W H P:J) (pl:Pk):Prop where
 up:(pl.map (·.1)).Pairwise (· < ·)
 len:pl.length<=24
 day:∀p∈pl,1<=p.1/\p.1<=400
 ok:∀p∈pl,KdOk W H P p.2
def Plan.nl(h:Plan W H P pl):noLocs ?U=true:=qzj λp a=>by
 show(L&&(noLoc p.2.f&&L))=L;rw[DF.noLoc (h.ok p a).1]
 rfl
def Plan.fil(h:Plan W H P pl)(Q:J×Kd->Yb):Plan W H P (pl.filter Q):=
 ⟨h.up.sublist (Qx7.map _),Qzn (Qz0 _ _) h.len,λp a=>h.day p (Qqu.mp a).1,λp a=>h.ok p (Qqu.mp a).1⟩
def Kp.fil(K:Kp a pl)(P:J×Kd->Yb):Kp (a.filter P) (pl.filter P):=
 ⟨K.perm.filter P,K.up.sublist (Qx7.map _),Qzn (Qz0 _ _) K.len,λp b=>K.day p (Qqu.mp b).1⟩
theorem qav:∀pl:Pk,pairsI ?U=Y (pl.map λp=>(p.1,p.2.f))
 |[]=>rfl
 |p::r=>by
  show(pairsI (r.map pK)).map _=_;rw[qav r]
  rfl
def qph(nd:(pl.map (·.1)).Nodup)(hl:pl.length<1000):bfun [] .dict [Yc ?U]=Y (Y3 0,[.dic L (kvD pl)]):=by
 show(pairsI ?U).bind _=_;rw[qav,oBs];have e:((pl.map λp=>(p.1,p.2.f)).map (·.1))=pl.map (·.1):=by rw[Qqp]; rfl
 rw[Z9 ⟨by rw[e]; exact nd,?k⟩,Qqp]
 rfl
abbrev pjD(late:J):D->Yb
 |.tup [_,.tup [_,.int a,.int b,_]]=>!((a==late)||((b==late)||false))
 |_=>L
abbrev pdD(late:J):D->Yb
 |.tup [.int n,_]=>!(n==late)
 |_=>L
noncomputable abbrev cpJ:E:=.comp ?K ?qk (Y (.or (.cmp .NotEq (.idx (.idx ?K ?qx) (.lit (.int 0))) (.lit (sO "join"))) (.cmp .NotIn ?qn (.sli (.idx ?K ?qx) (Y ?qx) (Y (.lit (.int 3))))))) ?K [B,Y 5]
noncomputable abbrev cpT:E:=.comp ?K (.gc (.call 77 [.var 0,.lit (.int 1),.var 3])) (Y (.cmp .NotEq (.idx ?K (.lit (.int 0))) ?qn)) ?K [B,Y 5]
section
def cpJ_ok(m){pl:Pk}(hX:∀p∈pl,KdOk W H P p.2)(hl:pl.length<1000)(l:τ[3]?=Y (Y (Yc ?U)))(j:τ[5]?=Y (Y (O late))):
  stepEv ?M τ [] cpJ=Y (Y3 0,[Y8 L ((pl.filter λp=>pjD late (pK p)).map pK)]):=by
 obtain⟨s,r,q,n⟩:=qk7 (c:=callD fns m) (st:=[]) l rfl;have h:=qq7 (elt:=Yd 0) (c:=.or (.cmp .NotEq (.idx (.idx (Yd 0) (.lit (O 1))) (.lit (O 0))) (.lit (sO "join"))) (.cmp .NotIn (Yd 1) (.sli (.idx (Yd 0) (.lit (O 1))) (Y (.lit (O 1))) (Y (.lit (O 3)))))) (sr:=[B,Y 5]) (rest:=[Y (O late)]) (p:=pjD late) id r q n (by show [B,(τ[5]?).bind id]=_; rw[j]; rfl) ?k
  (λi d hd=>by
   obtain⟨p,e,rfl⟩:=Qqj.mp (Qqn hd);have hk:=hX p e;obtain⟨x,k⟩:=p
   cases k with
   |vein s ps=>
    obtain⟨ss,rfl,_⟩:=hk.2;exact qzm 0 [] 0 []
   |join a b f=>exact qzm 0 [] 0 []
   |stake o g=>exact qzm 0 [] 0 []
   |clm f=>
    have hc:CF' f:=hk.2
    cases hc<;>exact qzm 0 [] 0 [])
  (λi d hd _=>qqx _ _ _ _ _ rfl)
 rw[Qxp,Qj4]at h;exact h
def cpT_ok(m){a:Pk}(hl:a.length<1000)(e:τ[5]?=Y (Y (O late)))(b:(?M).ev τ [] (.gc (.call 77 [.var 0,.lit (O 1),.var 3]))=Y (.lst (a.map pK),[])):
  stepEv ?M τ [] cpT=Y (Y3 0,[Y8 L ((a.filter λp=>!(p.1==late)).map pK)]):=by
 have h:=qq7 (it:=.gc (.call 77 [.var 0,.lit (O 1),.var 3])) (s:=.lst (.lst (a.map pK))) (ds:=a.map pK) (elt:=.var 0) (c:=.cmp .NotEq (.idx ?K (.lit (O 0))) ?qn) (sr:=[B,Y 5]) (rest:=[Y (O late)]) (p:=pdD late) id (by show((?M).ev _ _ _).bind _=_; rw[b]; rfl) (qz9 rfl) (qzh rfl) (by show [B,(τ[5]?).bind id]=_; rw[e]; rfl) ?k
  (λi d hd=>by
   obtain⟨p,f,rfl⟩:=Qqj.mp (Qqn hd)
   exact qzm 0 [] 0 [Kb (show(!(p.1==late)) = !(p.1==late) from rfl)])
  (λi d hd _=>qqx _ _ _ _ _ rfl)
 rw[Qxp,Qj4]at h;exact h
end
def jn_of{pl:Pk}:∀p∈pl.filter (λp=>pjD late (pK p)),∀x y f,p.2=.join x y f->x≠late/\y≠late:=λp a x y f e=>by
 have h:=(Qqu.mp a).2;obtain⟨d,k⟩:=p;have e:k=.join x y f:=e;subst e;have h:(!((x==late)||((y==late)||false)))=true:=h;simp only[Bool.or_false,Qkk,Bool.or_eq_false_iff,beq_eq_false_iff_ne]at h;exact h
theorem qld:∀{l:Pk}{a b:J×Kd},(l.map (·.1)).Nodup->a∈l->b∈l->a.1=b.1->a=b
 |[],_,_,_,h,_,_=>by cases h
 |x::r,a,b,nd,ha,hb,e=>by
  rw[Qqd,Qzj]at nd;rcases Qqc.mp ha with rfl|d
  ·rcases Qqc.mp hb with rfl|c
   ·rfl
   ·exact absurd (Qqj.mpr ⟨b,c,e.symm⟩) nd.1
  ·rcases Qqc.mp hb with rfl|c
   ·exact absurd (Qqj.mpr ⟨a,d,e⟩) nd.1
   ·exact qld nd.2 d c e
def Kp.late(K:Kp c pl)(hL:Lq∈pl):Kp (c.filter (λp=>!(p.1==Lq.1))++[Lq]) pl:=by
 refine⟨?_,K.up,K.len,K.day⟩;have f:c.Nodup:=List.Pairwise.of_map (·.1) (λa b h e=>h (congrArg Prod.fst e)) K.nd;have np:pl.Nodup:=K.perm.nodup_iff.mp f;have d:∀p∈c.filter (λp=>!(p.1==Lq.1)),p.1≠Lq.1:=λp g=>by
  have:=(Qqu.mp g).2;simpa using this
 refine(List.perm_ext_iff_of_nodup ?_ np).mpr λa=>?_
 ·rw[Qxk];refine⟨Qx7.nodup f,Qzj.mpr ⟨Qzm,List.nodup_nil⟩,λa ha b hb e=>?_⟩;rw[Qqa.mp hb]at e;exact d a ha (congrArg Prod.fst e)
 ·constructor
  ·intro h;rcases Qqi.mp h with h|h
   ·exact K.perm.mem_iff.mp (Qqu.mp h).1
   ·rw[Qqa.mp h]; exact hL
  ·intro h
   by_cases e:a.1=Lq.1
   ·exact Qql _ (Qqa.mpr (qld (K.up.imp Int.ne_of_lt) h hL e))
   ·exact Qzq _ (Qqu.mpr ⟨K.perm.mem_iff.mpr h,by rw[beq_false_of_ne e]; rfl⟩)
noncomputable abbrev dC(W H P T:J)(b:Y0):Ya:=.obj 802 [("extent",szD W H P),("year",.int T),("kept",.loc 1),("done",.loc 2),("back",.loc b)]
noncomputable abbrev cpV:E:=.comp (.tup [0,1]) ?qk (Y (.cmp .Eq (.idx ?qn (.lit (.int 0))) (.lit (sO "vein")))) ?K [B,B]
noncomputable abbrev st9:M.S:=.set (.var 9) (.gc (.lst [.bcall .max [.lit (.int 1),.bin .Sub (.bin .Sub (.var 5) ?qx) (.call 61 [.var 0,.lit (.int 0),.lit (.int 22),.lit (.int 4)])],.var 5,.bcall .min [.lit (.int 400),.bin .Add (.var 5) (.call 61 [.var 0,.lit (.int 0),.lit (.int 23),.lit (.int 30)])]]))
noncomputable abbrev t9(ns:Z J)(W H P T:J)(pl vs:D)(late:J)(S7 O7:D)(o dy:Y2 D):Sl:=[Y (scr ns),Y ?w,Y (.int T),Y pl,Y vs,Y (.int late),Y S7,Y O7,o,dy,B,B,B,B,B,B,B,B]
section
variable {ns:Z J}{W H P T v y late:J}{PL0 PL1 VS TA DY CO:Z M.D}{KV:Z (M.D×M.D)}{S7 O7:M.D}{S0 S1 S2 S3 S4:Y1}{la r b:Y0}{τ':Sl}
def qhz(m)(h:callD fns (m+9) 63 [scr ns,O 0] []=Y (szD W H P,[]))(g:callD fns (m+9) 64 [scr ns,O 0] []=Y (O T,[]))(f:callD fns (m+9) 61 [scr ns,O 0,O 20,O 25] []=Y (O v,[]))(e:callD fns (m+9) 74 [scr ns,O 1,szD W H P,O v] []=Y (Y3 0,[Y8 L PL0]))(d:gcD [] (Y3 0,[Ya.lst L PL0])=(Yc PL0,[]))(c:stepEv ?J [Y (scr ns),Y ?w,Y (O T),Y (Yc PL0),B,B,B,B,B,B,B,B,B,B,B,B,B,B] [] cpV=Y (Y3 0,?qv))(a:gcD [] (Y3 0,[Ya.lst L []])=(Yc [],[])):
  callD fns (m+10) 84 [scr ns] []=Y (.bl L,[]):=
 qzz 0 [63,64,61,74] 10 [Kc h,Kc g,Kc f,Kc e,Kl d,Kc c,Kl a,Kb (@Eq.refl Yb L)]
def qm9(m)(p:callD fns (m+9) 63 [scr ns,O 0] []=Y (szD W H P,[]))(o:callD fns (m+9) 64 [scr ns,O 0] []=Y (O T,[]))(n:callD fns (m+9) 61 [scr ns,O 0,O 20,O 25] []=Y (O v,[]))(l:callD fns (m+9) 74 [scr ns,O 1,szD W H P,O v] []=Y (Y3 0,[Y8 L PL0]))(k:gcD [] (Y3 0,[Ya.lst L PL0])=(Yc PL0,[]))(j:stepEv ?J [Y (scr ns),Y ?w,Y (O T),Y (Yc PL0),B,B,B,B,B,B,B,B,B,B,B,B,B,B] [] cpV=Y (Y3 0,[Y8 L VS]))(i:gcD [] (Y3 0,[Ya.lst L VS])=(Yc VS,[]))(h:((VS.length:J)==0)=Y6)(b1:callD fns (m+9) 61 [scr ns,O 0,O 21,O VS.length] []=Y (O y,[]))(b4:idxD [] (Yc VS) (O y)=Y (O late))(b5:bfun [] .dict [Yc PL0]=Y (Y3 0,[.dic L KV]))(b6:dget KV (O late)=Y (Y9 [sO "vein",S7,O7]))(b7:noLoc (Y9 [S7,O7])=L)(c1:stepEv ?J (t9 ns W H P T (Yc PL0) (Yc VS) late S7 O7 B B) [] cpJ=Y (Y3 0,[Y8 L PL1]))(c2:gcD [] (Y3 0,[Ya.lst L PL1])=(Yc PL1,[]))(c3:stepEv ?J (t9 ns W H P T (Yc PL1) (Yc VS) late S7 O7 B B) [] cpT=Y (Y3 0,[Y8 L TA]))(c4:gcD [] (Y3 0,[Ya.lst L TA])=(Yc TA,[]))(c5:callD fns (m+9) 76 [szD W H P,O T,Yc TA] []=Y (Y3 0,S0))(c6:stepEx ?J (t9 ns W H P T (Yc PL1) (Yc VS) late S7 O7 (Y (Y3 0)) B) S0 st9=Y (.nx (t9 ns W H P T (Yc PL1) (Yc VS) late S7 O7 (Y (Y3 0)) (Y (Yc DY))),S0))(c7:stepEv ?J (t9 ns W H P T (Yc PL1) (Yc VS) late S7 O7 (Y (Y3 0)) (Y (Yc DY))) S0 ahE=Y (Y3 la,S1))(g:S1[0]?=Y (dC W H P T b))(d1:callD fns (m+9) 55 [Y3 0,O late,Y9 [sO "vein",S7,O7]] S1=Y (.non,S2))(d2:callD fns (m+9) 81 [szD W H P,S7,O7] S2=Y (Yc CO,S2))(f:noLoc (Yc CO)=L)(e:callD fns (m+9) 79 [Yc PL1] S2=Y (Y3 r,S3))(d:stepEx ?J [Y (scr ns),Y ?w,Y (O T),Y (Yc PL1),Y (Yc VS),Y (O late),Y S7,Y O7,Y (Y3 0),Y (Yc DY),Y (Y3 la),Y (Yc CO),Y (Y3 r),B,B,B,B,B] S3 dyS=Y (.nx τ',S4)):
  callD fns (m+10) 84 [scr ns] []=Y (.bl L,S4):=by
 have a:noLoc (Y9 [S7,O7])=L/\([Ya.dic L KV]).take ([]:Y1).length=[]:=⟨b7,rfl⟩
 have c:=gS (Yc CO) S2 f;exact qzz 0 [63,64,61,74,76,55,81,79] 10 [Kc p,Kc o,Kc n,Kc l,Kl k,Kc j,Kl i,Kb h,Kc b1,Ki b4,Kc b5,Kr (@Eq.refl (Y2 Ya) (Y (.dic L KV))),Kq b6,Kg a,Kc c1,Kl c2,Kc c3,Kl c4,Kc c5,Kt c6,Kc c7,Kr g,Kc d1,Kc d2,Kg c,Kc e,Ks d]
end
def one_of(h:exs f [s] τ st=Y (.nx a,st')):f τ st s=Y (.nx a,st'):=by
 unfold exs at h
 cases b:f τ st s with
 |none=>rw[b]at h; cases h
 |some p=>
  obtain⟨o,S⟩:=p;rw[b]at h
  cases o with
  |nx c=>exact h
  |bk d=>cases h
  |rt d=>cases h
section
variable {ns:Z J}(hn:ns.length<=63)
include hn
theorem st9_ok(m)(S){T:J}(l1:1<=late)(l2:late<=400):
  ∃D0 D2:J,stepEx ?J (t9 ns W H P T pl vs late S7 O7 (Y (Y3 0)) B) S st9=Y (.nx (t9 ns W H P T pl vs late S7 O7 (Y (Y3 0)) (Y (Yc [O D0,O late,O D2]))),S)/\(1<=D0/\D0<=400)/\1<=D2/\D2<=400:=by
 obtain⟨a,d,f,e⟩:=dr hn (m+8) S 0 22 (many:=4) ?c ?c ?c;obtain⟨y2,c,b1,b2⟩:=dr hn (m+8) S 0 23 (many:=30) ?c ?c ?c;have b:∀k1 k2:Yb,decide (late - 1 - a > 1)=k1->decide (late+y2<400)=k2->stepEx ?J (t9 ns W H P T pl vs late S7 O7 (Y (Y3 0)) B) S st9=Y (.nx (t9 ns W H P T pl vs late S7 O7 (Y (Y3 0)) (Y (Yc [O (if k1 then late - 1 - a else 1),O late,O (if k2 then late+y2 else 400)]))),S):=λk1 k2 h1 h2=>
  one_of (exs_tp 0 [61] 9 [Kc d,Kb h1,Kc c,Kb h2,Kl (qzv (st:=S) (ds:=[O (if k1 then late - 1 - a else 1),O late,O (if k2 then late+y2 else 400)]) rfl)])
 refine⟨_,_,b _ _ rfl rfl,?_,?_⟩
 ·by_cases h:late - 1 - a > 1
  ·rw[Z9 (Z6 h)]; lia
  ·rw[Z8 (by rw[Z7 h]; nofun)]; lia
 ·by_cases h:late+y2<400
  ·rw[Z9 (Z6 h)]; lia
  ·rw[Z8 (by rw[Z7 h]; nofun)]; lia
end
def law_ok(m):∀ns:Z J,ns.length<=63->∃st',callD fns (m+10) 84 [Yc (ns.map O)] []=Y (.bl L,st'):=λns hn=>by
 obtain⟨W,H,P,t,w1,w2,h1,h2,p0,p1,_⟩:=qm3 hn (m+7) [] 0;obtain⟨T,s,G,F⟩:=qmi hn (m+7) [] 0;obtain⟨v,hv,v1,v2⟩:=dr hn (m+8) [] 0 20 (many:=25) ?c ?c ?c;obtain⟨b2,f,C,g,x⟩:=qnl hn w1 w2 h1 h2 p0 p1 (m+4) [] 1 (many:=v) ?c ?c ?d ?d;obtain⟨pl1,rfl,hok⟩:=pk_of (W:=W) (H:=H) (P:=P) λp a=>(g p a).1;rw[Qqz]at C;have Pl:Plan W H P pl1:=⟨by rw[Qqp]at x; exact x,?d,λp a=>by have:=g _ (Qqj.mpr ⟨p,a,rfl⟩); exact⟨this.2.1,by have:=this.2.2; show p.1<=400; lia⟩,hok⟩
 have a6:=qfi (W:=W) (H:=H) (P:=P) (m+9) (S:=[]) (q0:=Yc (pl1.map pK)) (τ:=[Y (scr ns),Y ?w,Y (O T),Y (Yc (pl1.map pK)),B,B,B,B,B,B,B,B,B,B,B,B,B,B]) (q:=.cmp .Eq (.idx (Yd 1) (.lit (O 0))) (.lit (sO "vein"))) (pl:=pl1.map λp=>(p.1,p.2.f)) (by rw[pk_D]; rfl) ["vein"] (λp a=>(g p a).1) (by rw[Qqz]; have:=Pl.len; lia) rfl (λp h=>t_vn (m+9) [] p h);have V:∀n∈dys (pl1.map λp=>(p.1,p.2.f)) ["vein"],∃p∈pl1,p.1=n/\wIs p.2.f ["vein"]=true:=λn hn=>by
  obtain⟨p,a,rfl⟩:=Qqj.mp hn;obtain⟨a,hw⟩:=Qqu.mp a;obtain⟨u,hu,rfl⟩:=Qqj.mp a;exact⟨u,hu,rfl,hw⟩
 have b3:(dys (pl1.map λp=>(p.1,p.2.f)) ["vein"]).length<=24:=by
  unfold dys;rw[Qqz];have:=Qz0 (λp:J×D=>wIs p.2 ["vein"]) (pl1.map λp=>(p.1,p.2.f));rw[Qqz]at this;have:=Pl.len
  lia
 rw[pk_D]at f;have a5:=qzv (st:=[]) Pl.nl;generalize dys (pl1.map λp=>(p.1,p.2.f)) ["vein"]=vs at *;have a7:=qzv (st:=[]) (nlI vs)
 by_cases r:vs=[]
 ·subst r;exact⟨_,qhz m t s hv f a5 a6 a7⟩
 have a9:0<vs.length:=Qx5.mpr r;have a8:(((vs.map D.int).length:J)==0)=false:=beq_eq_false_iff_ne.mpr ?t;obtain⟨y,b1,y0,y1⟩:=dr hn (m+8) [] 0 21 (many:=(vs.map D.int).length) ?c ?c ?t;rw[Qqz]at y1;have o:y.toNat<vs.length:=by lia
 have b4:idxD [] (Yc (vs.map D.int)) (O y)=Y (O vs[y.toNat]):=by
  show atI (vs.map D.int) y=_;unfold atI ixN;rw[Z9 y0,Z9 ?t,oBs,Qqv,Qqb o]
  rfl
 obtain⟨⟨late,kd⟩,hL,el,ew⟩:=V _ (Qxn o);rw[<- el]at b4;obtain⟨ss,ps,ek,sl,b0,a0,z⟩:=wvn (Pl.ok _ hL) ew;have ek:kd=.vein (Y9 ?H) ps:=ek;subst ek;have e:=Pl.day _ hL;dsimp only at e b4;have nd:=Pl.up.imp Int.ne_of_lt;have b5:=qph nd (by have:=Pl.len; lia);have b6:=qec nd hL;have b7:noLoc (Y9 [Y9 ?H,Y9 ?y])=true:=by
  show(noLocs ?H&&(noLocs ?y&&L))=L;rw[nlI,qzj λ_ _=>rfl]
  rfl
 have c1:=cpJ_ok (late:=late) (m+9) Pl.ok (by have:=Pl.len; lia) (τ:=t9 ns W H P T (Yc (pl1.map pK)) (Yc (vs.map O)) late (Y9 ?H) (Y9 ?y) B B) rfl rfl;have Q:=Pl.fil λp=>pjD late (pK p);have hjn:=jn_of (late:=late) (pl:=pl1);have hL:(late,Kd.vein (Y9 ?H) ps)∈pl1.filter λp=>pjD late (pK p):=Qqu.mpr ⟨hL,rfl⟩;generalize (pl1.filter λp=>pjD late (pK p))=pl at *;have c2:=qzv (st:=[]) Q.nl;obtain⟨ts,c,e3⟩:=qci hn Q.len Q.nl (m+7) 1;have K:Kp ts pl:=⟨c,Q.up,Q.len,Q.day⟩
 have lts:ts.length<=24:=by rw[c.length_eq]; exact Q.len
 have l:∀p∈ts,noLoc (pK p)=true:=λp a=>by
  show(L&&(noLoc p.2.f&&L))=L;rw[DF.noLoc (Q.ok p (c.mem_iff.mp a)).1]
  rfl
 have g3:=qpk (st:=[]) (ex:=[Y8 L [],Y8 L (ts.map pK)]) (i:=1) rfl (qzj l);have a1:(?J).ev (t9 ns W H P T (Yc ?U) (Yc (vs.map O)) late (Y9 ?H) (Y9 ?y) B B) [] (.gc (.call 77 [Yd 0,.lit (O 1),Yd 3]))=Y (Yc (ts.map pK),[]):=
  qzr 0 [77] 9 [Kc e3,Kl g3]
 have c3:=cpT_ok (late:=late) (m+9) ?d (τ:=t9 ns W H P T (Yc ?U) (Yc (vs.map O)) late (Y9 ?H) (Y9 ?y) B B) rfl a1;have KA:=K.fil λp=>!(p.1==late);have KB:=K.late hL;have k:∀p∈pl.filter (λp=>!(p.1==late)),KdOk W H P p.2:=λp a=>Q.ok p (Qqu.mp a).1;have A:∀u∈ts.filter (λp=>!(p.1==late)),u.1≠late:=λp a=>by
  have:=(Qqu.mp a).2;simpa using this
 have lA:(ts.filter λp=>!(p.1==late)).length<=24:=Qzn (Qz0 _ _) lts;have I:noLocs ((ts.filter λp=>!(p.1==late)).map pK)=true:=qzj λp a=>l p (Qqu.mp a).1;dsimp only at KB;generalize (ts.filter λp=>!(p.1==late))=tA at *;have c4:=qzv (st:=[]) I;obtain⟨j,X,c5,_⟩:=qib (T:=T) KA k w1 w2 h1 h2 p0 p1 G F (m+1);obtain⟨D0,D2,c6,d0,d2⟩:=st9_ok hn m (DS ?w T (kvD tA) (tA.map tK) (j+3) X) (W:=W) (H:=H) (P:=P) (T:=T) e.1 e.2 (pl:=Yc ?U) (vs:=Yc (vs.map O)) (S7:=Y9 ?H) (O7:=Y9 ?y);obtain⟨d,N1,N2,U,a4,a3,a2,k0,k1,k2,c7,f0,f1,f2⟩:=qis (dn:=tA.map tK) (b:=j+3) (X:=X) KA k w1 w2 h1 h2 p0 p1 G F d0 e d2 m (τ:=t9 ns W H P T (Yc ?U) (Yc (vs.map O)) late (Y9 ?H) (Y9 ?y) (Y (Y3 0)) (Y (Yc [O D0,O late,O D2]))) rfl rfl;have d1:=qc3 (T:=T) (b:=j+3) (X:=X++U++[Y8 L [Y3 d,Y3 N1,Y3 N2]]) (m+2) e.1 e.2 ((Q.ok _ hL).1.sound (m+2) _) (qoo A).2 ?k (dn:=tA.map tK) ?k;rw[show dput (kvD tA) (O late) (Kd.vein (Y9 ?H) ps).f=kvD ?S from qli (p:=(late,Kd.vein (Y9 ?H) ps)) A]at d1;generalize (X++U++[Ya.lst L [Y3 d,Y3 N1,Y3 N2]]).length+3=b at d1;generalize b8:tA.map tK++[Y9 [sO "tell",O late,(Kd.vein (Y9 ?H) ps).f]]=dn at d1;have e2:=qfh (W:=W) (H:=H) (P:=P) (m+6) (DS ?w T (kvD ?S) dn b (X++U++[Y8 L [Y3 d,Y3 N1,Y3 N2]]++?qv)) a0 ?d z;have e4:=qhx (W:=W) (H:=H) (P:=P) (m+8) (DS ?w T (kvD ?S) dn b (X++U++[Y8 L [Y3 d,Y3 N1,Y3 N2]]++?qv)) Q.ok Q.up Q.len;have b9:∀(kv:Z (D×D)) (dn:Z D) (b:Y0) (Yq:Y1),DS ?w T kv dn b (X++U++Yq)=DS ?w T kv dn b (X++U)++Yq:=λkv dn b Yq=>rfl;generalize hY:[Ya.lst L [Y3 d,Y3 N1,Y3 N2],Y8 L [],.dic L (kvR (rtH pl []))]=Yq;have eS:DS ?w T (kvD ?S) dn b (X++U++[Y8 L [Y3 d,Y3 N1,Y3 N2]]++?qv)++[.dic L (kvR (rtH pl []))]=DS ?w T (kvD ?S) dn b (X++U++Yq):=by
  rw[<- hY];simp only[Qke,Qqo,Qja]
 rw[eS]at e4;have E:∀(Zq:Y1) (i:Y0),(DS ?w T (kvD ?S) dn b (X++U++(Yq++Zq)))[(X++U).length+3+i]?=(Yq++Zq)[i]?:=λZq i=>get0 i (R:=DS ?w T (kvD ?S) dn b (X++U));have lr:(DS ?w T (kvD ?S) dn b (X++U++[Y8 L [Y3 d,Y3 N1,Y3 N2]]++?qv)).length=(X++U).length+3+2:=by
  simp only[Qqm,Qqr,Qj1]
 rw[lr]at e4
 let w:Lw:=⟨ns,Yc ?U,Yc (vs.map O),late,ss,ps,[D0,late,D2],(X++U).length+3,crsA W H P ss ps,(X++U).length+3+2⟩
 have Lq:Lb W H P T w pl ?S dn b X U Yq:={
  K:=KB
  hX:=Q.ok
  hL:=hL
  hjn:=hjn
  hr:=λZq=>by rw[E Zq 2,<- hY]; rfl
  sl:=sl
  pl:=z
  co:=rfl }
 have ha:∀(i:Y0) (N:Y0),[d,N1,N2][i]?=Y N->∀Zq,idxD (DS ?w T (kvD ?S) dn b (X++U++(Yq++Zq))) (Y3 ((X++U).length+3)) (O (i:J))=Y (Y3 N):=λi N hi Zq=>by
  show(listAt _ _).bind _=_;unfold listAt;rw[show(X++U).length+3=(X++U).length+3+0 from rfl,E Zq 0,<- hY]
  match i,hi with
  |0,hi=>cases hi; rfl
  |1,hi=>cases hi; rfl
  |2,hi=>cases hi; rfl
 have dys:∀i:Y0,i<3->∃D N cs k1,Dy W H P T w pl ?S dn b X U Yq (i:J) D N cs k1:=λi hi=>by
  match i,hi with
  |0,_=>exact⟨D0,d,a4,k0,⟨d0.1,d0.2,λS=>rfl,f0,ha 0 d rfl⟩⟩
  |1,_=>exact⟨late,N1,a3,k1,⟨e.1,e.2,λS=>rfl,f1,ha 1 N1 rfl⟩⟩
  |2,_=>exact⟨D2,N2,a2,k2,⟨d2.1,d2.2,λS=>rfl,f2,ha 2 N2 rfl⟩⟩
 obtain⟨τ',S4,d5⟩:=qpl (w:=w) hn w1 w2 h1 h2 p0 p1 G F m Lq dys;exact⟨S4,qm9 m t s hv f a5 a6 a7 a8 b1 b4 b5 b6 b7 c1 c2 c3 c4 c5 c6 c7 rfl d1 e2 (qzj λ_ _=>rfl) e4 d5⟩
end K52
end
namespace K52
open PySem PySem.Spec PyProof.Rows L2 MS
open M (D Ya Y1 Sl E S T Src Fn Out R)
def ar0{P:Z Y7->Prop}(h:P []):∀us:Z Y7,us.length=0->P us:=λus e=>by
 cases us with
 |nil=>exact h
 |cons a r=>cases e
def arS{P:Z Y7->Prop}(h:∀a,∀us:Z Y7,us.length=n->P (a::us)):∀us:Z Y7,us.length=n+1->P us:=λus e=>by
 cases us with
 |nil=>cases e
 |cons a r=>exact h a r (Nat.succ.inj e)
def bs:∀r∈tab,Bd r:=by
 repeat' first|exact Qq4 _|refine Qjy.mpr ⟨?_,?_⟩
 all_goals first|exact λ_ _ _ _ _ _=>arS λ_=>ar0 rfl|exact λ_ _ _ _ _ _=>arS λ_=>arS λ_=>ar0 rfl|exact λ_ _ _ _ _ _=>arS λ_=>arS λ_=>arS λ_=>ar0 rfl|exact λ_ _ _ _ _ _=>arS λ_=>arS λ_=>arS λ_=>arS λ_=>ar0 rfl|exact λ_ _ _ _ _ _=>arS λ_=>arS λ_=>arS λ_=>arS λ_=>arS λ_=>ar0 rfl
end K52
open PySem PySem.W PyProof.Rows
set_option maxRecDepth 100000 in
set_option maxHeartbeats 0 in
theorem PySem.Challenge.cw_dipright_k52_whole_a_vein_told_late_holds : PySem.Challenge.rw_dipright_k52_whole_a_vein_told_late.Holds := by
 w_on; o_law
 refine holds_open (XP:=XL (K52.vw PZW) []) (YP:=InK K52.KF) K52.left (InK.of (λ_=>by kernel_rfl)) InK.keeps (λs e=>xl_of s (Bool.and_eq_true_iff.mp e).1) XL.keeps (by rfl) (by rfl) (by rfl) (λs e=>recFacts_of (Bool.and_eq_true_iff.mp e).2) (by rfl) (by assumption) ?j ⟨rfl,rfl,rfl,rfl,rfl,?j⟩ ?hw ?hc
 (case hw=>w_witness2)
 refine MS.walk_law (l:=RZW) (K:=K52.KH) (k:=2*20) (x:="_law_script") rfl rfl ⟨rfl,?c,?c⟩ (λw h Yq=>Yq) ?F
 case F=>
  intro w mg fa h KX G hmg
  k_fill
  refine MS.law_mk (t:=K52.tab) (glo:=K52.glo) (i:=84) (n:=19) KX G hmg rfl rfl rfl K52.bs ?j (K52.law_ok 10) ?_ ?_ ?_ ?_ ?_ ?_
  all_goals repeat' first|exact Qq4 _|refine Qjy.mpr ⟨?_,?_⟩|apply MS.RwK.fn|apply MS.RwK.me|apply MS.ClK.mk|apply MS.GlK.mk|apply MS.GdK.mk|exact MS.vNil|exact MS.eNil|apply MS.vCons|apply MS.eCons|apply MS.vTup
  all_goals try dsimp only
  all_goals first|exact MS.vInt|exact MS.vStr|k_is|rfl

