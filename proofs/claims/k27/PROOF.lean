import PyProof.Rows.All
import Wide.All
import OpenK.AllK
import Wide.FinOn
import Lean
import PyProof.TableCode
import PyProof.EqAt
import PyProof.EqKinds
import PyProof.TupleCall
import PyProof.NeKinds
import PyProof.ZipIter
import PyProof.StrLoop
import PyProof.StrWalks
import PyProof.StrCalls
import PyProof.StrCalls2
import PyProof.StrLawsIn
import PyProof.SliceStr2
import PyProof.StrBlock
import PyProof.Rows.StrFirst
import KE.KIntText
import PyProof.StrLawsChain
import PyProof.StrLawsTight
import PyProof.CallStr
import PyProof.Rows.FStr
import PySem.SetTable
import PyProof.TupleKey
import PyProof.SetKind
import PyProof.IsRules
import PyProof.Rows.SetFrom
import PyProof.WalksMore
import PyProof.TupleIter
import KE.KSortTup
import KE.KTryMore
import PySem.Challenge.RW_dipright_k27_whole_no_younger_takes_from
set_option Elab.async false
set_option backward.eqns.nonrecursive false
set_option genInjectivity false
set_option genSizeOf false
set_option bootstrap.genMatcherCode false
set_option linter.all false
set_option maxRecDepth 100000
set_option maxHeartbeats 4000000
set_option hygiene false
local macro_rules|`(?c)=>`(szD W H P)
local macro_rules|`(?d)=>`(model X.prog X.w)
local macro_rules|`(?e)=>`(GM F sz T d ro fo jo bo r)
local macro_rules|`(?g)=>`(ps.map cD)
local macro_rules|`(?i)=>`(voD vs)
local macro_rules|`(?k)=>`(intKind prog w)
local macro_rules|`(?l)=>`(FC sz T d fo jo cs ro rest)
local macro_rules|`(?q)=>`(model prog w)
local macro_rules|`(?o)=>`(r.ev τ st a)
local macro_rules|`(?r)=>`(h.ev τ st a)
local macro_rules|`(?s)=>`(RL (callD fns m))
local macro_rules|`(?t)=>`([sO "stake",Z o,Z g.1,Z g.2.1,Z g.2.2.1,Z g.2.2.2])
local macro_rules|`(?v)=>`(M.rn fns dl n)
local macro_rules|`(?w)=>`((insertAt es (t.put j).2 (tupleKeyHash ?k k,Value.ref x)))
local macro_rules|`(?y)=>`([Y9 [Z 24,Z (1+(1+b) / 3),Z (c / 2)],Y9 [Z (1+(1+a) / 3),Z 24,Z (c / 2)],Y9 [Z (1+(1+a) / 3),Z (1+(1+b) / 3),Z 12],Y9 [Z (1+a),Z (1+b),Z c]])
local macro_rules|`(?z)=>`([.dic O (bD W H P)])
local macro_rules|`(?A)=>`(Y (Y1 (c.j+9)))
local macro_rules|`(?B)=>`(Y1 st.length)
local macro_rules|`(?C)=>`(Y (Y1 (i+9)))
local macro_rules|`(?D)=>`(.var 0)
local macro_rules|`(?E)=>`(qzr t.mask (tupleKeyHash ?k k))
local macro_rules|`(?G)=>`(s.heap.objs.size+1)
local macro_rules|`(?H)=>`(Sub.refl m)
local macro_rules|`(?I)=>`((ptT c.nm s l o d i r.length,GM F sz T d ro fo jo bo (r++[G4 c.g,G4 c.g])))
local macro_rules|`(?J)=>`(stC cs ro d)
local macro_rules|`(?K)=>`(r.ev τ p.2 b)
open _root_ renaming List->L,Int->J,Nat->Y0,Option->Y2,Bool->Ya
open Bool renaming true->O,false->Y5
open Option renaming some->Y,none->B
open PySem renaming Value->Y8,Addr->Y7,Str->Y4
open PySem renaming wpAny_bind->Qq,Shared->Qz,wpAny_pure->Qx,World->Qj,Around->Qk,wpAny_field->Qv,eval->Qw,wpAny_setField_rec->Qy,SetTable->Qa,wpAny_callSpecial?_slot->Qb,bootBuiltins->Qc,wpAny_call_entry->Qd,wpAny_truthy_bool->Qe,compareOp->Qg,wpAny_mono->Qh,wpAny_newObj_type->Qi,NameKind->Ql,sysModules->Qm,wpAny_seqItems->Qn,wpAny_holding->Qo,FuncData->Qp,Params->Qr,wpAny_passesOwn->Qs,Builtin->Qt,assignEach->Qu,call_meets->Q0,treeTable->Q1,sizeLine_eq->Q2,DictEntry->Q3,binaryOp->Q4,holding->Q5,wpAny_attempt->Q6,importedModules->Q7,tupleKind_room_in1->Q8,wpAny_setState_of->Q9,codeAny_mono->Zq,builtinLookup_eq_fast->Zz,wpAny_rule->Zx,attributeBase->Zj,getItem->Zk,sliceBounds->Zv,wpAny_of_eq->Zw,wpAny_loadPart'->Zy,wpAny_specialOf->Za,codeAny_builtin->Zb,wpAny_Call_Name_kw->Zc,codeAny->Zd,isSubtype_type->Ze,wpAny_pyIter_list->Zf,ofAClassStatement->Zg,behindInMarks->Zh,Operator->Zl,wpAny_isInstance->Zm,standAt->Zo,letOwnedTupleGo->Zp,typeLookup_type->Zr,Keyword->Zs,callerA->Z1,getMethod->Z2,wpAny_onRaise->Z3,setSearchFrom->Z4
open PySem.W renaming boot_heap->Qf,behindTheImports->Zi
open PyProof.Rows renaming AllBare->Zn,IntsAre->Zu
section
universe u
theorem Z5[Decidable p](h:p):decide p=true:=decide_eq_true h
theorem Z6[Decidable p](h:¬p):decide p=false:=decide_eq_false h
theorem Z7{h:Decidable c}(n:¬c){t e:α}:ite c t e=e:=if_neg n
theorem Z8{h:Decidable c}(n:c){t e:α}:ite c t e=t:=if_pos n
end
open PySem.Challenge renaming pw_dipright_k27_whole_no_younger_takes_from->PZW,rw_dipright_k27_whole_no_younger_takes_from->RZW
open PySem.W renaming Frag->Qqq,keepIn->Qzt,nsIn->Qx9,mg_of->Qjv,methodCall_KW->Qjb,plainGet_of->Qjn,callWith_K->Qjp,cellsFrom_some->Qkj
open List renaming length_map->Qqz,mem_map->Qqj,getElem?_eq_some_iff->Qqk,getElem?_map->Qqw,mem_cons->Qqy,size_toArray->Qqa,mem_singleton->Qqb,map_append->Qqc,mem_of_getElem?->Qqe,length_cons->Qqg,getElem?_eq_getElem->Qqh,mem_append->Qqi,map_cons->Qqm,length_append->Qqn,map_map->Qqo,mem_cons_of_mem->Qqp,getElem?_set_ne->Qqr,forall_mem_nil->Qqt,mem_append_right->Qq0,getElem?_append_left->Qq2,mem_cons_self->Qq3,getElem?_set_self->Qq5,append_assoc->Qq7,nodup_cons->Qq8,not_mem_nil->Qzq,mem_append_left->Qzz,all_eq_true->Qzx,append_nil->Qzj,filterMap_cons->Qzk,length_take->Qzv,take_succ_eq_append_getElem->Qzw,lookup_cons->Qzy,find?_cons->Qzb,pairwise_cons->Qze,nodup_append->Qzf,getElem?_append_right->Qzg,pairwise_append->Qzi,take_length->Qzm,getElem?_eq_none_iff->Qzn,map_congr_left->Qzo,getElem?_eq_none->Qzp,mem_filter->Qzr,length_set->Qzs,replicate_succ->Qz0,length_singleton->Qz1,length_filter_le->Qz2,all_cons->Qz5,mem_range->Qz6,length_eq_zero_iff->Qz7,getElem_of_mem->Qz9,mem_of_find?_eq_some->Qxj,drop_eq_getElem_cons->Qxk,map_nil->Qxv,flatten_cons->Qxw,filter_cons->Qxa,filter_append->Qxc,take_append_drop->Qxe,any_cons->Qxf,pairwise_iff_getElem->Qxg,mem_of_mem_drop->Qxh,getElem_mem->Qxi,length_pos_iff->Qxl,mem_filterMap->Qxn,filterMap_map->Qxo,length_nil->Qxp,map_singleton->Qxr,take_of_length_le->Qxt,filterMap_eq_map->Qx2,mem_of_mem_take->Qx3,getElem?_range->Qx4,filter_sublist->Qx5,find?_some->Qx6,filter_map->Qx7,length_filterMap_le->Qjq,pairwise_singleton->Qjz,pairwise_map->Qjx,foldl_append->Qjk,length_drop->Qjw,any_eq_true->Qjy,length_replicate->Qjc,filterMap_append->Qjd,mem_iff_getElem?->Qje,foldl_cons->Qjf,nil_append->Qjg,getElem_toArray->Qjh,forall_mem_cons->Qjl,getLast?_eq_some_getLast->Qjm,take_succ->Qjo,set_cons_zero->Qjr,length_zipIdx->Qjs,exists_cons_of_ne_nil->Qjt,any_eq_false->Qju,take_sublist->Qj0,length_range->Qj3,getElem?_take_of_lt->Qj5,drop_length->Qj8,getElem?_replicate->Qj9,getElem?_cons_succ->Qkq,of_mem_zip->Qkz,map_id->Qkw,take_zero->Qky,mapM_cons->Qkb
open PySem.Heap renaming get?_push_of_some->Qqx,lt_size->Qqf,get?_push_size->Qql,size_push->Qxx,get?_update_other->Qxs,get?_update_self->Qx0
open Nat renaming le_refl->Qqv,ne_of_lt->Qq4,lt_of_lt_of_le->Qq6,zero_le->Qza,lt_succ_self->Qzc,le_succ->Qzl,le_trans->Qz3,lt_or_ge->Qxq,lt_irrefl->Qxz,le_of_lt_succ->Qxy,ne_of_gt->Qxb,lt_succ_of_lt->Qxu,zero_add->Qx1,succ_pos->Qx8,lt_trichotomy->Qjj,le_add_right->Qja,mod_lt->Qji,le_of_lt->Qj4,zero_lt_succ->Qj6
open Option renaming map_eq_some_iff->Qqd,isSome_iff_exists->Qz4,isSome_map->Qj1
open Bool renaming and_eq_true->Qqs,false_ne_true->Qqu,false_eq_true->Qzd,or_eq_true->Qxd,and_true->Qxm,eq_iff_iff->Qkx,and_false->Qka,not_true->Qkc
open Array renaming getElem?_toList->Qq1,getElem?_eq_getElem->Qq9,getElem?_eq_some_iff->Qzh,length_toList->Qzu,getD_eq_getD_getElem?->Qz8,size_append->Qj2,getElem?_replicate->Qj7,getElem?_extract->Qkk,getElem?_eq_none->Qkv
section
universe u v
theorem oBs(a)(f:α->Y2 b):(Y a).bind f=f a:=rfl
theorem oMs(a)(f:α->b):(Y a).map f=Y (f a):=rfl
end
namespace L2
open PySem PySem.Spec PyProof.Rows
noncomputable def qqg(s:Stmt):Arguments:=match s with
 |.FunctionDef _ a _ _ _ _ _ _ _ _=>a
 |_=>{ posonlyargs:=[],args:=[],vararg:=B,kwonlyargs:=[],kw_defaults:=[],kwarg:=B,defaults:=[] }
noncomputable def qz0(s:Stmt):L Stmt:=match s with
 |.FunctionDef _ _ b _ _ _ _ _ _ _=>b
 |_=>[]
noncomputable def qzd(s:Stmt):Scope:=match s with
 |.FunctionDef _ _ _ _ _ _ sc _ _ _=>sc
 |_=>{ kind:=.function,names:=[],isGenerator:=Y5,isCoroutine:=Y5 }
end L2
namespace K27
open PySem PySem.Spec PyProof.Rows
noncomputable def top(i:Y0):Stmt:=PZW.main.body.getD i (.Pass ⟨0,0,0,0⟩)
noncomputable def cb(s:Stmt)(j:Y0):Stmt:=match s with
 |.ClassDef _ _ _ b _ _ _ _ _ _ _=>b.getD j (.Pass ⟨0,0,0,0⟩)
 |_=>s
end K27
namespace HD
open PySem PySem.W PySem.Calls PyProof.Rows
noncomputable def lf:Life:=PySem.Life.mk [] [] [] 0 [] [] Bool.false #[] [] 0 Bool.false Bool.false Bool.false 0 [2000,10,10] Bool.false 0 Bool.true [] [] 0 Bool.false
noncomputable def sM:Y4:=⟨#[60,109,111,100,117,108,101,62]⟩
noncomputable def sF:Y4:=⟨#[47,99,108,97,105,109,47,99,117,116,46,112,121]⟩
noncomputable def sN:Y4:=⟨#[95,95,109,97,105,110,95,95]⟩
noncomputable def bt(l:L Obj):BT:=(l.foldl (λ(p:BT×Y0) o=>(p.1.ins p.2 o,p.2+1)) (.nil,0)).1
noncomputable def Ta(P:Qr):BT:=bt ((Qf P).objs.toList++[Obj.mk (.type "tuple") B (.seq #[]) #[],Obj.mk .none B (.fields #[]) #[],
 Obj.mk (.type "code") B (.fields #[.str sM 182,.str sM 183,.str sF 184,.int 1 0,.int 0 0,.int 0 0,.int 0 0,.int 0 0,.ref 11,.bool Y5,.int 181 0,.ref 12,.none,.none,.none,.none,.int 185 0,.int 1 0,.str sF 186]) #[],
 Obj.mk (.type "frame") B .plain #[Y (.ref 13),Y (.ref 3),Y (.ref 3),B,Y (.str sN 164),B,Y (.ref 0)]])
noncomputable def Sa(w:Qj)(os:OsState):SharedT:=⟨Ta w.params,15,lf,#[],⟨0,0,0,0⟩,187,os⟩
noncomputable abbrev an:Y2 Y8:=Y (.ref 6)
noncomputable abbrev p0:Pos:=⟨0,0,0,0⟩
noncomputable def ev(p:Program):Env:={ scope:=p.main.scope,locals:=mainNs,globals:=mainNs,cells:=[],code:=.ref 13,frame:=Y 14 }
noncomputable def cE(p:Program):Code:=.body (Zi p) (ev p)
noncomputable def Lk(p q:Program)(loose:L Y4)(Xt:Program->Qz->Ya)(ads:L Y7)(w:Qj)(s:Qz):=(staticsOk (Q7 p.main.body) (Qf w.params) s.heap&&namesBound p s.heap&&gensDone s&&laidKept (Qf w.params) s.heap,openSeen q loose (Q7 p.main.body) (Xt q) O s,ads.map s.heap.get?)
theorem fin_of:topRun Q1 p w 11 an 2 s (restOf [] env c q [topFrame p0])=Y s:=by
 cases s
 rfl
noncomputable abbrev Fs(p:Program)(w:Qj)(s:Qz):Bool:=staticsOk (Q7 p.main.body) (Qf w.params) s.heap&&namesBound p s.heap&&gensDone s&&laidKept (Qf w.params) s.heap
theorem qni{os:OsState}(z:((Qf w.params).isNs mainGlobals&&(Array.mk []:Array GenState).size==0,(Qf w.params).objs.size,(Qf w.params).nsMap mainGlobals "__annotations__")=(O,11,an))(r:topRun Q1 p w 11 an N ⟨Qf w.params,#[],boot_drawn,boot_toks,os⟩ (topStub p)=Y s)(l:Fs p w s=O):topFrom Q1 p w N ⟨Qf w.params,#[],boot_drawn,boot_toks,os⟩=Y s:=by
 have c:=congrArg (·.1) z;have b:=congrArg (·.2.1) z;have a:=congrArg (·.2.2) z;dsimp only at c b a;simp only[topFrom,c,b,a,r,oBs];show(match Fs p w s with|true=>Y s|false=>B)=_;rw[l]
noncomputable def Rn(p:Program)(n:Y0)(w:Qj)(os:OsState):=segRunT Q1 p w 11 an 1 n (Sa w os) (piecesOf (Zi p) (ev p) (cE p) p0 [topFrame p0])
noncomputable def LA(p q:Program)(ads:L Y7)(w:Qj)(s:Qz):=(staticsOk (Q7 p.main.body) (Qf w.params) s.heap&&namesBound p s.heap&&gensDone s&&laidKept (Qf w.params) s.heap,ads.map s.heap.get?)
noncomputable def LF(q:Program)(s:Qz):=seen ((recsOf q).map (·.name)) (ownsOf q) [] { s with gens:=#[] }
noncomputable def LB(p q:Program)(loose:L Y4)(Xt:Program->Qz->Ya)(s:Qz):Bool:=s.heap.keysOk (looseW q loose) ((recsOf q).map (·.name)) ((litsOf q).map (·.1)) ((clssOf q (looseW q loose)).map (·.name))&&s.heap.accountedOkI (Q7 p.main.body)&&s.heap.isNs mainGlobals&&s.heap.isNs builtinsNs&&tablesOk q s.heap&&Xt q s&&s.gens.size==0
noncomputable def LD(q:Program)(loose:L Y4)(s:Qz):=(s.heap.bltView,tabsOk q s,pinSeenD q (drecsOf q) s,clsSeenW q loose s)
noncomputable def LG(q:Program)(loose:L Y4)(s:Qz):=(wideSeen q s,plainSeenD q loose s)
theorem lo3{K:Qr->Frag}(l:∀w:Qj,Option.map (λs:Qz=>(s.heap,s.gens,s.drawn,s.toks)) (fencedOpening Q1 p w N)=Y (Qf w.params,#[],boot_drawn,boot_toks))(z:∀w:Qj,((Qf w.params).isNs mainGlobals&&(Array.mk []:Array GenState).size==0,(Qf w.params).objs.size,(Qf w.params).nsMap mainGlobals "__annotations__")=(O,11,an))(pre:∀w:Qj,(λos=>topGo Q1 p w 11 an 12 ⟨Qf w.params,#[],boot_drawn,boot_toks,os⟩ (topStub p))=λos=>Y ((Sa w os).abs,⟨denote Q1 (cE p),cE p,p0,[topFrame p0]⟩))(blk:∀w:Qj,(λos=>segRun Q1 p w 11 an 1 1 (Sa w os).abs (blockOf (Zi p) (ev p) (cE p) p0 [topFrame p0]))=λos=>Y (Flow.next,(Sa w os).abs,cE p,p0))(F:∀w:Qj,(λos=>(Rn p n w os).map λr=>(r.1,r.2.2.1,r.2.2.2,LA p q ads w r.2.1.abs))=λ_=>Y (Flow.next,cE p,p1,O,(K w.params).map λp=>Y p.2))(gZ:∀w:Qj,(λos=>(Rn p n w os).map λr=>LF q r.2.1.abs)=λ_=>Y (expectedOf q))(gB:∀w:Qj,(λos=>(Rn p n w os).map λr=>LB p q loose Xt r.2.1.abs)=λ_=>Y O)(E:∀w:Qj,(λos=>(Rn p n w os).map λr=>plainSeenE q (looseW q loose) r.2.1.abs)=λ_=>Y (plainGoodE q (looseW q loose)))(D:∀w:Qj,(λos=>(Rn p n w os).map λr=>LD q loose r.2.1.abs)=λ_=>Y (bltViewBooted,O,pinGoodD (drecsOf q),clsGoodW q loose))(C:∀w:Qj,(λos=>(Rn p n w os).map λr=>LG q loose r.2.1.abs)=λ_=>Y (wideGood q,plainGoodD q loose))(le:Nat.ble (12+(1+(n+2))) N=O):LeftO p q loose (Xt q) (λs=>ads.map s.heap.get?) (λw=>(K w.params).map λp=>Y p.2) N:=by
 intro w
 rcases Qqd.mp (l w) with⟨S,Q,i⟩
 rcases S with⟨H,g,d,t,os⟩
 have h1:H=Qf w.params:=congrArg (·.1) i;have h2:g=#[]:=congrArg (·.2.1) i;have A:d=boot_drawn:=congrArg (·.2.2.1) i;have y:t=boot_toks:=congrArg (·.2.2.2) i;subst h1 h2 A y
 rcases Qqd.mp (congrFun (F w) os) with⟨⟨f,j,c,k⟩,run,same⟩
 have h:∀{α:Type}{g:Flow×SharedT×Code×Pos->α}{v:α},(Rn p n w os).map g=Y v->g (f,j,c,k)=v:=λe=>by rw[run]at e; exact Option.some.inj e
 have P:f=Flow.next:=congrArg (·.1) same;have I:c=cE p:=congrArg (·.2.1) same;have G:k=p1:=congrArg (·.2.2.1) same;have u:Fs p w j.abs=true:=congrArg (·.2.2.2.1) same;have x:=h (congrFun (gZ w) os);have m:=congrArg (·.2.2.2.2) same;have b:=h (congrFun (gB w) os);have c0:=h (congrFun (E w) os);have d:=h (congrFun (D w) os);have e:=h (congrFun (C w) os);have o:openSeen q loose (Q7 p.main.body) (Xt q) O j.abs=openGood q loose:=Prod.ext x (Prod.ext (congrArg (·.1) d) (Prod.ext b (Prod.ext (congrArg (·.2.1) d) (Prod.ext (congrArg (·.2.2.1) d) (Prod.ext c0 (Prod.ext (congrArg (·.2) e) (Prod.ext (congrArg (·.1) e) (congrArg (·.2.2.2) d))))))));subst P I G;have a:=piece_app (rest:=[]) (segRun_of run) fin_of;rw[Qzj]at a;have all:=go_top (congrFun (pre w) os) (piece_block (congrFun (blk w) os) a);have more:=topRun_mono (N - (12+(1+(n+2)))) _ _ _ _ all;rw[Nat.add_sub_cancel' (Nat.le_of_ble_eq_true le)]at more;simp only[openEnds,Q,oBs,qni (z w) more u,oMs];exact congrArg Y (Prod.ext o m)
end HD
namespace K27
open PySem L2
noncomputable def c0:L Y4:=["_law_enter_join","_law_model_here","_law_fact_here","veins","novein","order","joins","joined","good","_law_enter","_law_day","day"]
noncomputable def c1:L Y4:=["join","vein","stake","_law_enter_claim","_law_name","sorted","claims","_law_vest","term","_law_vein_here","_law_played","_law_size_here"]
noncomputable def c2:L Y4:=["_law_term_here","_law_plan_here","_law_model","_law_when","dig","pay","_law_sorted","_law_field","_law_row","_law_age","standing","_law_way"]
noncomputable def c3:L Y4:=["dip","ground","_law_names","_law_word",".0","_law_ways","fast","_law_passed","_law_old","len","index","claim"]
noncomputable def c4:L Y4:=["_law_chosen","_law_script","_law_spots_here","_law_spots","_law_found","_law_draw","_law_k","range","_law_floor","_law_cell","_law_at","append"]
noncomputable def c5:L Y4:=["law","_law_size","_law_term","_law_plan","Field","_law_spot","min","pass_to","enter","_law_rows","heirs","size"]
noncomputable def c6:L Y4:=["row","book","dug","_law_state","_law_claim","given","fallen","stands","unvested","int","_law_outs_here","any"]
noncomputable def c7:L Y4:=["_law_in","_law_column","_law_x","_law_y","_law_step","_law_enter_part","_law_near","list","_law_far","nocut","tuple","insert"]
noncomputable def c8:L Y4:=["noclaim","ended","part","work","sell","give","_law_pick","_law_j","_law_vein","_law_steps","_law_outs","_law_claim_fact"]
noncomputable def c9:L Y4:=["_law_who_here","_law_who","_law_side","_law_line","_law_fact","_law_veins","_law_rect","_law_many","_law_pace","_law_at_here","_law_rect_here","_law_rest"]
noncomputable def c10:L Y4:=["_law_tall","_law_floors","_law_wide","_law_deep","_law_count","_law_first","_law_stride","_law_place","check_district","wide","tall","deep"]
noncomputable def c11:L Y4:=["fits","LENGTHS","DEPTHS","TERMS","BadNumber","not the numbers of a district","check_day","DAYS","not a day","__init__","self","extent"]
noncomputable def c12:L Y4:=["year","found","joints","staked","Claims","debts","fact","sound","BadFact","not sound for this district","Late","the field's day isn't earlier"]
noncomputable def c13:L Y4:=["answer","enter_vein","enter_join","enter_stake","enter_dig","enter_pay","change","vest_all","other","outcrops","extend","who"]
noncomputable def c14:L Y4:=["spot","worth","owe","owner","COIN","gatekeeper","mouth","over","debtor","creditor","tenths","the field's day is later"]
noncomputable def c15:L Y4:=["today","_wall","names","name","NoVein","no vein is known by that day","get","named","last","vested","state","years"]
noncomputable def c16:L Y4:=["entries","twin","__name__","law_dipright_k27_whole_no_younger_takes_from","_law_turn","_law_one","_law_two","_law_sizes","sound_vein","ASKS","all_fit","numbers_agree"]
noncomputable def c17:L Y4:=["dipright.field","asked","values","known","bounds","all","value","kind","zip","is_cell","thing","isinstance"]
noncomputable def c18:L Y4:=["x","y","good_steps","steps","step","good_outcrops","MOST_COLUMNS","set","STEPS","COINS","below","folk"]
noncomputable def c19:L Y4:=["side","line","floor","coins","FOLK","SIDES","LINES","bound","bool","NoClaim","no claim is known by that day","Claim"]
noncomputable def c20:L Y4:=["through","vest","has_one","days","whole","pieces","parted","piece","dipright.facts","field","cell","standing_grounds"]
noncomputable def c21:L Y4:=["inside","dipright.years","counted","kept","dipright.claims","ground_of","ranked","grounds","heads","first","behind","covers"]
noncomputable def c22:L Y4:=["columns_at","first_claim","ranks","title","dipright.reach","outcrop","pair","pairs","dipright.title","OutOfGround","DiprightError","dipright.veins"]
noncomputable def c23:L Y4:=["MOVES","climbed","reversed","in_ground","met_columns","met","joint","column","enumerate","not a spot of the district","ValueError","rect"]
noncomputable def c24:L Y4:=["LEFT","RIGHT","TOP","LOW","some","can_part","ahead","dipright.errors","k","dipright.ground","/claim/cut.py","__doc__"]
noncomputable def c25:L Y4:=["__package__","__loader__","__spec__","__annotations__","__builtins__","__file__","__cached__","__main__","__module__","__firstlineno__","__static_attributes__","__weakref__"]
noncomputable def c26:L Y4:=["Claim.__init__","Claim.piece","Claim.twin","Claim.state","__dict__","Claims.__init__","Claims.names","Claims.named","Claims.standing","Claims.stake","Claims.vest","Claims.vest_all"]
noncomputable def c27:L Y4:=["Claims.change","Claims.part","Claims.twin","Field.__init__","Field.enter","Field.answer","Field.enter_vein","Field.enter_join","Field.enter_stake","Field.enter_dig","Field.enter_pay","Field.gatekeeper"]
noncomputable def c28:L Y4:=["Field.owe","Field.pass_to","Field.today","Field.size","Field.term","Field.veins","Field.claims","Field.vein","Field.joined","Field.claim","Field.state","Field.years"]
noncomputable def c29:L Y4:=["Field.standing","Field.entries","Field.twin"]
noncomputable def Al:L (L Y4):=[c0,c1,c2,c3,c4,c5,c6,c7,c8,c9,c10,c11,c12,c13,c14,c15,c16,c17,c18,c19,c20,c21,c22,c23,c24,c25,c26,c27,c28,c29]
noncomputable def Af(i j:Y0):Y4:=(Al.getD i []).getD j ⟨#[]⟩
noncomputable def b0:String:="dict"
noncomputable def b1:String:="__main__.__loader__#opaque"
noncomputable def b2:String:="tuple"
noncomputable def b3:String:="code"
noncomputable def b4:String:="function"
noncomputable def b5:String:="ValueError"
noncomputable def b6:String:="ValueError.__new__"
noncomputable def b7:String:="type"
noncomputable def b8:String:="Exception"
noncomputable def b9:String:="BaseException"
noncomputable def b10:String:="object"
noncomputable def b11:String:="ExceptionGroup.__weakref__"
noncomputable def b12:String:="getset_descriptor"
noncomputable def b13:String:="object.__new__"
noncomputable def b14:String:="function.__dict__"
noncomputable def b15:String:="function.__dict__#set"
lay_quick Af b0 b1 b2 b3 b4 b5 b6 b7 b8 b9 b10 b11 b12 b13 b14 b15
def Hy(a:Y0->Y0->Y4)(i:Y0)(p:Prop):Y0->L Y4->Prop
 |_,[]=>p
 |j,x::r=>x=a i j->Hy a i p (j+1) r
def Hz(a:Y0->Y0->Y4)(p:Prop):Y0->L (L Y4)->Prop
 |_,[]=>p
 |i,c::r=>Hy a i (Hz a p (i+1) r) 0 c
noncomputable def G(a:Y0->Y0->Y4):Program:=by
 refine'(?f:(x:Program)->Hz a (PZW=x) 0 Al->Program) _ ?h
 (case f=>exact λx _=>x)
 (case h=>(repeat intro _); show PZW=_; delta PZW; conv=>lhs; simp only[*,Nat.reduceAdd])
noncomputable abbrev fnD(x y:Y4)(s:Stmt):=FuncData.mk x y (qqg s) (.stmts (qz0 s)) (qzd s)
noncomputable abbrev kh:=PyData.keyHash
noncomputable abbrev de(P:Qr)(x:Y4)(k:Y0)(v:Y8):=DictEntry.mk (kh P x) (.str x k) v
noncomputable abbrev oq(u:String)(x:Array Y8):=Obj.mk (.type u) Option.none (.seq x) #[]
noncomputable abbrev zA(u:String)(a:Y0->Y0->Y4)(i j v w k:Y0)(ln n:J)(r p:Y0):=Obj.mk (.type u) Option.none (.fields #[.str (a i j) k,.str (a v w) (k+1),.str (a 24 10) (k+2),.int ln 0,.int n 0,.int 0 0,.int 0 0,.int 3 0,.ref r,.bool Bool.true,.int 181 0,.ref (r+1),.none,.ref (r+2),.ref (r+3),.ref (r+4),.int (.ofNat p) 0,.int ln 0,.str (a 24 10) (p+1)]) #[]
noncomputable abbrev zB(u:String)(a:Y0->Y0->Y4)(i j v w k:Y0)(ln n:J)(r p:Y0):=Obj.mk (.type u) Option.none (.fields #[.str (a i j) k,.str (a v w) (k+1),.str (a 24 10) (k+2),.int ln 0,.int n 0,.int 0 0,.int 0 0,.int 3 0,.ref r,.bool Bool.true,.int 181 0,.ref (r+1),.none,.none,.none,.ref (r+2),.int (.ofNat p) 0,.int ln 0,.str (a 24 10) (p+1)]) #[]
noncomputable abbrev zA2(u:String)(a:Y0->Y0->Y4)(i j:Y0):=zA u a i j i j
noncomputable abbrev zB2(u:String)(a:Y0->Y0->Y4)(i j:Y0):=zB u a i j i j
noncomputable abbrev zM(u:String)(a:Y0->Y0->Y4)(i j v w:Y0)(s:Stmt)(x y k r:Y0):=Obj.mk (.type u) Option.none (.func (fnD (a i j) (a v w) s 3 [] .none .none .none (.str (a x y) k) Option.none (.ref r) .none 0)) #[]
noncomputable abbrev zF(u:String)(a:Y0->Y0->Y4)(i j:Y0):=zM u a i j i j
noncomputable abbrev zR(P:Qr)(a:Y0->Y0->Y4)(i j k r:Y0):=de P (a i j) k (.ref r)
noncomputable def KG(tp:Y0->Stmt)(a:Y0->Y0->Y4)(u0 u1 u2 u3 u4 u5 u6 u7 u8 u9 u10 u11 u12 u13 u14 u15:String)(P:Qr):Qqq:=(nat_lit 3,Obj.mk (.type u0) Option.none (.dict #[de P (a 16 2) 165 (.str (a 16 3) 1082),de P (a 24 11) 166 .none,de P (a 25 0) 167 .none,de P (a 25 1) 168 (.builtin u1),de P (a 25 2) 169 .none,zR P a 25 3 170 6,zR P a 25 4 171 4,de P (a 25 5) 173 (.str (a 24 10) 172),de P (a 25 6) 174 .none,zR P a 15 1 193 21,de P (a 24 0) 197 (.int 0 196),de P (a 24 2) 199 (.int 1 198),de P (a 24 1) 201 (.int 2 200),de P (a 24 3) 203 (.int 3 202),zR P a 21 0 211 28,zR P a 20 2 217 33,zR P a 24 5 226 40,zR P a 20 6 237 47,zR P a 23 3 245 54,zR P a 22 10 265 64,zR P a 11 4 281 77,zR P a 12 8 297 89,zR P a 12 10 313 101,zR P a 15 4 329 113,zR P a 19 9 345 125,zR P a 22 9 361 137,zR P a 23 0 376 145,zR P a 23 1 388 152,zR P a 23 4 394 157,zR P a 22 0 400 162,zR P a 21 5 410 169,zR P a 22 5 418 176,zR P a 13 9 424 181,zR P a 21 11 432 188,zR P a 20 11 440 193,zR P a 21 6 453 200,zR P a 5 10 462 207,zR P a 22 1 469 214,zR P a 22 3 477 221,zR P a 14 3 486 228,zR P a 14 7 496 235,zR P a 21 2 508 242,zR P a 20 0 516 249,zR P a 19 11 580 287,zR P a 12 4 693 369,zR P a 11 7 698 374,zR P a 19 4 701 375,zR P a 19 5 704 376,zR P a 19 6 707 377,zR P a 18 8 710 378,zR P a 18 9 713 379,de P (a 18 6) 715 (.int 16 714),zR P a 16 9 758 380,zR P a 17 4 765 395,zR P a 11 0 773 402,zR P a 16 10 779 407,zR P a 17 9 787 414,zR P a 18 2 795 421,zR P a 18 5 801 426,zR P a 16 8 809 433,zR P a 16 11 816 440,zR P a 12 7 824 447,zR P a 11 1 829 448,zR P a 11 2 832 449,zR P a 11 3 835 450,de P (a 14 4) 837 (.int 10 836),zR P a 10 8 847 457,zR P a 11 6 854 464,zR P a 5 4 1081 642,zR P a 4 5 1099 653,zR P a 5 1 1111 660,zR P a 5 2 1120 667,zR P a 4 3 1126 672,zR P a 9 6 1139 679,zR P a 8 9 1145 684,zR P a 8 10 1161 691,zR P a 9 1 1170 698,zR P a 8 6 1180 705,zR P a 8 8 1189 712,zR P a 8 11 1204 719,zR P a 9 4 1210 724,zR P a 5 3 1224 731,zR P a 7 0 1232 738,zR P a 2 2 1241 745,zR P a 6 3 1250 752,zR P a 1 7 1256 757,zR P a 4 10 1269 764,zR P a 7 5 1281 771,zR P a 1 3 1290 778,zR P a 0 0 1298 785,zR P a 0 9 1309 792,zR P a 1 10 1322 799,zR P a 2 6 1328 804,zR P a 3 7 1338 811,zR P a 4 0 1344 816,zR P a 5 0 1350 821] 96) #[]) ::
(nat_lit 27,zA2 u3 a 21 0 204 9 2 22 209) ::
(nat_lit 28,zF u4 a 21 0 (tp 6) 24 9 194 27) ::
(nat_lit 32,zB2 u3 a 20 2 212 11 2 29 215) ::
(nat_lit 33,zF u4 a 20 2 (tp 7) 24 9 194 32) ::
(nat_lit 39,zA2 u3 a 24 5 218 13 3 34 224) ::
(nat_lit 40,zF u4 a 24 5 (tp 8) 24 9 194 39) ::
(nat_lit 46,zA2 u3 a 20 6 227 15 3 41 235) ::
(nat_lit 47,zF u4 a 20 6 (tp 9) 24 9 194 46) ::
(nat_lit 53,zA2 u3 a 23 3 238 25 2 48 243) ::
(nat_lit 54,zF u4 a 23 3 (tp 10) 24 9 194 53) ::
(nat_lit 140,oq u2 #[.int 0 364,.int 0 365]) ::
(nat_lit 141,oq u2 #[.int 1 366,.int 0 367]) ::
(nat_lit 142,oq u2 #[.int (-1) 369,.int 0 370]) ::
(nat_lit 143,oq u2 #[.int 0 371,.int 1 372]) ::
(nat_lit 144,oq u2 #[.int 0 373,.int (-1) 375]) ::
(nat_lit 145,oq u2 #[.ref 140,.ref 141,.ref 142,.ref 143,.ref 144]) ::
(nat_lit 151,zA2 u3 a 23 1 377 44 3 146 386) ::
(nat_lit 152,zF u4 a 23 1 (tp 21) 22 11 362 151) ::
(nat_lit 156,zB2 u3 a 23 4 389 53 4 153 392) ::
(nat_lit 157,zF u4 a 23 4 (tp 22) 22 11 362 156) ::
(nat_lit 161,zB2 u3 a 22 0 395 60 2 158 398) ::
(nat_lit 162,zF u4 a 22 0 (tp 23) 22 11 362 161) ::
(nat_lit 168,zA2 u3 a 21 5 403 70 2 163 408) ::
(nat_lit 169,zF u4 a 21 5 (tp 25) 22 4 401 168) ::
(nat_lit 175,zA2 u3 a 22 5 411 72 2 170 416) ::
(nat_lit 176,zF u4 a 22 5 (tp 26) 22 4 401 175) ::
(nat_lit 180,zB2 u3 a 13 9 419 74 2 177 422) ::
(nat_lit 181,zF u4 a 13 9 (tp 27) 22 4 401 180) ::
(nat_lit 187,zA2 u3 a 21 11 425 76 2 182 430) ::
(nat_lit 188,zF u4 a 21 11 (tp 28) 22 4 401 187) ::
(nat_lit 192,zB2 u3 a 20 11 435 79 1 189 438) ::
(nat_lit 193,zF u4 a 20 11 (tp 30) 22 8 433 192) ::
(nat_lit 199,zA2 u3 a 21 6 441 81 3 194 451) ::
(nat_lit 200,zF u4 a 21 6 (tp 31) 22 8 433 199) ::
(nat_lit 206,zA2 u3 a 5 10 454 90 2 201 460) ::
(nat_lit 207,zF u4 a 5 10 (tp 32) 22 8 433 206) ::
(nat_lit 241,zA2 u3 a 21 2 499 106 2 236 506) ::
(nat_lit 242,zF u4 a 21 2 (tp 38) 21 1 497 241) ::
(nat_lit 248,zA2 u3 a 20 0 509 112 2 243 514) ::
(nat_lit 249,zF u4 a 20 0 (tp 39) 21 1 497 248) ::
(nat_lit 262,zA u3 a 11 9 26 0 531 117 5 257 539) ::
(nat_lit 263,zM u4 a 11 9 26 0 (cb (tp 41) 0) 21 4 517 262) ::
(nat_lit 269,zA u3 a 20 7 26 1 542 125 3 264 549) ::
(nat_lit 270,zM u4 a 20 7 26 1 (cb (tp 41) 1) 21 4 517 269) ::
(nat_lit 283,zA u3 a 15 10 26 3 559 133 2 278 564) ::
(nat_lit 284,zM u4 a 15 10 26 3 (cb (tp 41) 3) 21 4 517 283) ::
(nat_lit 286,Obj.mk (.type u0) Option.none (.dict #[de P (a 25 8) 526 (.str (a 21 4) 517),de P (a 25 9) 530 (.int 115 529),zR P a 11 9 541 263,zR P a 20 7 551 270,zR P a 16 1 558 277,zR P a 15 10 566 284,zR P a 25 10 573 285,zR P a 26 4 575 288,zR P a 25 11 577 289,de P (a 24 11) 578 .none] 4) #[]) ::
(nat_lit 287,Obj.mk (.type u7) Option.none (.cls (ClassData.mk (a 19 11) [.type u10] [.ref 287,.type u10] 286 (a 19 11) Bool.true [] [] Bool.false Option.none Bool.false)) #[Option.none,Option.none,Option.some (.str (a 19 11) 519),Option.some (.str (a 19 11) 527),Option.some (.builtin u13),Option.some (.bool Bool.true)]) ::
(nat_lit 304,zA u3 a 11 9 26 5 593 143 2 299 598) ::
(nat_lit 305,zM u4 a 11 9 26 5 (cb (tp 42) 0) 21 4 517 304) ::
(nat_lit 311,zA u3 a 15 2 26 6 601 148 1 306 605) ::
(nat_lit 312,zM u4 a 15 2 26 6 (cb (tp 42) 1) 21 4 517 311) ::
(nat_lit 318,zA u3 a 15 7 26 7 608 151 2 313 613) ::
(nat_lit 319,zM u4 a 15 7 26 7 (cb (tp 42) 2) 21 4 517 318) ::
(nat_lit 323,zB u3 a 2 10 26 8 616 156 2 320 619) ::
(nat_lit 324,zM u4 a 2 10 26 8 (cb (tp 42) 3) 21 4 517 323) ::
(nat_lit 330,zA u3 a 1 2 26 9 622 159 5 325 630) ::
(nat_lit 331,zM u4 a 1 2 26 9 (cb (tp 42) 4) 21 4 517 330) ::
(nat_lit 337,zA u3 a 20 1 26 10 633 163 4 332 641) ::
(nat_lit 338,zM u4 a 20 1 26 10 (cb (tp 42) 5) 21 4 517 337) ::
(nat_lit 344,zA u3 a 13 7 26 11 644 169 3 339 651) ::
(nat_lit 345,zM u4 a 13 7 26 11 (cb (tp 42) 6) 21 4 517 344) ::
(nat_lit 351,zA u3 a 13 6 27 0 654 173 3 346 662) ::
(nat_lit 352,zM u4 a 13 6 27 0 (cb (tp 42) 7) 21 4 517 351) ::
(nat_lit 358,zA u3 a 8 2 27 1 665 191 3 353 673) ::
(nat_lit 359,zM u4 a 8 2 27 1 (cb (tp 42) 8) 21 4 517 358) ::
(nat_lit 368,Obj.mk (.type u0) Option.none (.dict #[de P (a 25 8) 588 (.str (a 21 4) 517),de P (a 25 9) 592 (.int 141 591),zR P a 11 9 600 305,zR P a 15 2 607 312,zR P a 15 7 615 319,zR P a 2 10 621 324,zR P a 1 2 632 331,zR P a 20 1 643 338,zR P a 13 7 653 345,zR P a 13 6 664 352,zR P a 8 2 675 359,zR P a 16 1 682 366,zR P a 25 10 686 367,zR P a 26 4 688 370,zR P a 25 11 690 371,de P (a 24 11) 691 .none] 4) #[]) ::
(nat_lit 369,Obj.mk (.type u7) Option.none (.cls (ClassData.mk (a 12 4) [.type u10] [.ref 369,.type u10] 368 (a 12 4) Bool.true [] [] Bool.false Option.none Bool.false)) #[Option.none,Option.none,Option.some (.str (a 12 4) 581),Option.some (.str (a 12 4) 589),Option.some (.builtin u13),Option.some (.bool Bool.true)]) ::
(nat_lit 374,oq u2 #[.int 1 696,.int 400 697]) ::
(nat_lit 375,oq u2 #[.int 1 699,.int 40 700]) ::
(nat_lit 376,oq u2 #[.int 0 702,.int 1 703]) ::
(nat_lit 377,oq u2 #[.int 1 705,.int 23 706]) ::
(nat_lit 378,oq u2 #[.int 0 708,.int 4 709]) ::
(nat_lit 379,oq u2 #[.int 1 711,.int 1000000 712]) ::
(nat_lit 380,Obj.mk (.type u0) Option.none (.dict #[zR P a 1 0 716 381,zR P a 1 2 720 382,zR P a 8 3 726 383,zR P a 8 4 728 384,zR P a 8 2 731 385,zR P a 8 5 736 386,zR P a 2 4 738 387,zR P a 2 5 746 388] 8) #[]) ::
(nat_lit 381,oq u2 #[.str (a 0 11) 717,.str (a 0 11) 718,.str (a 18 10) 719]) ::
(nat_lit 382,oq u2 #[.str (a 18 11) 721,.str (a 18 0) 722,.str (a 18 1) 723,.str (a 18 0) 724,.str (a 18 1) 725]) ::
(nat_lit 383,oq u2 #[.str (a 0 11) 727]) ::
(nat_lit 384,oq u2 #[.str (a 0 11) 729,.str (a 18 11) 730]) ::
(nat_lit 385,oq u2 #[.str (a 0 11) 732,.str (a 19 0) 733,.str (a 19 1) 734,.str (a 18 11) 735]) ::
(nat_lit 386,oq u2 #[.str (a 0 11) 737]) ::
(nat_lit 387,oq u2 #[.str (a 18 11) 739,.str (a 18 0) 740,.str (a 18 1) 741,.str (a 18 0) 742,.str (a 18 1) 743,.str (a 19 2) 744,.str (a 19 3) 745]) ::
(nat_lit 388,oq u2 #[.str (a 18 11) 747,.str (a 18 11) 748,.str (a 19 3) 749]) ::
(nat_lit 394,zA2 u3 a 17 4 759 213 1 389 763) ::
(nat_lit 395,zF u4 a 17 4 (tp 52) 20 8 694 394) ::
(nat_lit 401,zA2 u3 a 11 0 766 215 2 396 771) ::
(nat_lit 402,zF u4 a 11 0 (tp 53) 20 8 694 401) ::
(nat_lit 406,zB2 u3 a 16 10 774 219 3 403 777) ::
(nat_lit 407,zF u4 a 16 10 (tp 54) 20 8 694 406) ::
(nat_lit 413,zA2 u3 a 17 9 780 224 2 408 785) ::
(nat_lit 414,zF u4 a 17 9 (tp 55) 20 8 694 413) ::
(nat_lit 420,zA2 u3 a 18 2 788 226 2 415 793) ::
(nat_lit 421,zF u4 a 18 2 (tp 56) 20 8 694 420) ::
(nat_lit 425,zB2 u3 a 18 5 796 228 2 422 799) ::
(nat_lit 426,zF u4 a 18 5 (tp 57) 20 8 694 425) ::
(nat_lit 432,zA2 u3 a 16 8 802 234 2 427 807) ::
(nat_lit 433,zF u4 a 16 8 (tp 58) 20 8 694 432) ::
(nat_lit 439,zA2 u3 a 16 11 810 236 1 434 814) ::
(nat_lit 440,zF u4 a 16 11 (tp 59) 20 8 694 439) ::
(nat_lit 446,zA2 u3 a 12 7 817 242 2 441 822) ::
(nat_lit 447,zF u4 a 12 7 (tp 60) 20 8 694 446) ::
(nat_lit 448,oq u2 #[.int 1 827,.int 24 828]) ::
(nat_lit 449,oq u2 #[.int 0 830,.int 12 831]) ::
(nat_lit 450,oq u2 #[.int 1 833,.int 400 834]) ::
(nat_lit 456,zA2 u3 a 10 8 838 253 4 451 845) ::
(nat_lit 457,zF u4 a 10 8 (tp 66) 17 0 825 456) ::
(nat_lit 463,zA2 u3 a 11 6 848 256 1 458 852) ::
(nat_lit 464,zF u4 a 11 6 (tp 67) 17 0 825 463) ::
(nat_lit 477,zA u3 a 11 9 27 3 867 261 5 472 875) ::
(nat_lit 478,zM u4 a 11 9 27 3 (cb (tp 68) 0) 17 0 825 477) ::
(nat_lit 484,zA u3 a 5 8 27 4 878 272 3 479 884) ::
(nat_lit 485,zM u4 a 5 8 27 4 (cb (tp 68) 1) 17 0 825 484) ::
(nat_lit 491,zA u3 a 13 0 27 5 887 281 2 486 892) ::
(nat_lit 492,zM u4 a 13 0 27 5 (cb (tp 68) 2) 17 0 825 491) ::
(nat_lit 498,zA u3 a 13 1 27 6 895 294 2 493 900) ::
(nat_lit 499,zM u4 a 13 1 27 6 (cb (tp 68) 3) 17 0 825 498) ::
(nat_lit 505,zA u3 a 13 2 27 7 903 299 2 500 910) ::
(nat_lit 506,zM u4 a 13 2 27 7 (cb (tp 68) 4) 17 0 825 505) ::
(nat_lit 512,zA u3 a 13 3 27 8 913 311 2 507 920) ::
(nat_lit 513,zM u4 a 13 3 27 8 (cb (tp 68) 5) 17 0 825 512) ::
(nat_lit 547,zA u3 a 5 7 28 1 961 341 2 542 966) ::
(nat_lit 548,zM u4 a 5 7 28 1 (cb (tp 68) 10) 17 0 825 547) ::
(nat_lit 561,zA u3 a 5 11 28 3 976 350 1 556 980) ::
(nat_lit 562,zM u4 a 5 11 28 3 (cb (tp 68) 12) 17 0 825 561) ::
(nat_lit 575,zA u3 a 0 3 28 5 990 356 1 570 994) ::
(nat_lit 576,zM u4 a 0 3 28 5 (cb (tp 68) 14) 17 0 825 575) ::
(nat_lit 589,zA u3 a 1 1 28 7 1004 362 2 584 1009) ::
(nat_lit 590,zM u4 a 1 1 28 7 (cb (tp 68) 16) 17 0 825 589) ::
(nat_lit 596,zA u3 a 0 7 28 8 1012 367 2 591 1017) ::
(nat_lit 597,zM u4 a 0 7 28 8 (cb (tp 68) 17) 17 0 825 596) ::
(nat_lit 603,zA u3 a 3 11 28 9 1020 372 2 598 1026) ::
(nat_lit 604,zM u4 a 3 11 28 9 (cb (tp 68) 18) 17 0 825 603) ::
(nat_lit 624,zA u3 a 2 10 29 0 1045 382 1 619 1049) ::
(nat_lit 625,zM u4 a 2 10 29 0 (cb (tp 68) 21) 17 0 825 624) ::
(nat_lit 641,Obj.mk (.type u0) Option.none (.dict #[de P (a 25 8) 862 (.str (a 17 0) 825),de P (a 25 9) 866 (.int 259 865),zR P a 11 9 877 478,zR P a 5 8 886 485,zR P a 13 0 894 492,zR P a 13 1 902 499,zR P a 13 2 912 506,zR P a 13 3 922 513,zR P a 13 4 933 520,zR P a 13 5 941 527,zR P a 14 5 950 534,zR P a 14 2 960 541,zR P a 5 7 968 548,zR P a 15 0 975 555,zR P a 5 11 982 562,zR P a 1 8 989 569,zR P a 0 3 996 576,zR P a 1 6 1003 583,zR P a 1 1 1011 590,zR P a 0 7 1019 597,zR P a 3 11 1028 604,zR P a 15 10 1036 611,zR P a 15 11 1044 618,zR P a 2 10 1051 625,zR P a 16 0 1058 632,zR P a 16 1 1065 639,zR P a 25 10 1074 640,zR P a 26 4 1076 643,zR P a 25 11 1078 644,de P (a 24 11) 1079 .none] 4) #[]) ::
(nat_lit 642,Obj.mk (.type u7) Option.none (.cls (ClassData.mk (a 5 4) [.type u10] [.ref 642,.type u10] 641 (a 5 4) Bool.true [] [] Bool.false Option.none Bool.false)) #[Option.none,Option.none,Option.some (.str (a 5 4) 855),Option.some (.str (a 5 4) 863),Option.some (.builtin u13),Option.some (.bool Bool.true)]) ::
(nat_lit 652,zA2 u3 a 4 5 1084 391 4 647 1097) ::
(nat_lit 653,zF u4 a 4 5 (tp 70) 16 3 1082 652) ::
(nat_lit 659,zA2 u3 a 5 1 1100 406 2 654 1109) ::
(nat_lit 660,zF u4 a 5 1 (tp 71) 16 3 1082 659) ::
(nat_lit 666,zA2 u3 a 5 2 1112 413 2 661 1118) ::
(nat_lit 667,zF u4 a 5 2 (tp 72) 16 3 1082 666) ::
(nat_lit 671,zB2 u3 a 4 3 1121 416 1 668 1124) ::
(nat_lit 672,zF u4 a 4 3 (tp 73) 16 3 1082 671) ::
(nat_lit 678,zA2 u3 a 9 6 1127 421 5 673 1137) ::
(nat_lit 679,zF u4 a 9 6 (tp 74) 16 3 1082 678) ::
(nat_lit 683,zB2 u3 a 8 9 1140 425 4 680 1143) ::
(nat_lit 684,zF u4 a 8 9 (tp 75) 16 3 1082 683) ::
(nat_lit 690,zA2 u3 a 8 10 1146 427 4 685 1159) ::
(nat_lit 691,zF u4 a 8 10 (tp 76) 16 3 1082 690) ::
(nat_lit 697,zA2 u3 a 9 1 1162 437 3 692 1168) ::
(nat_lit 698,zF u4 a 9 1 (tp 77) 16 3 1082 697) ::
(nat_lit 704,zA2 u3 a 8 6 1171 439 4 699 1178) ::
(nat_lit 705,zF u4 a 8 6 (tp 78) 16 3 1082 704) ::
(nat_lit 711,zA2 u3 a 8 8 1181 443 3 706 1187) ::
(nat_lit 712,zF u4 a 8 8 (tp 79) 16 3 1082 711) ::
(nat_lit 718,zA2 u3 a 8 11 1190 445 5 713 1202) ::
(nat_lit 719,zF u4 a 8 11 (tp 80) 16 3 1082 718) ::
(nat_lit 723,zB2 u3 a 9 4 1205 453 4 720 1208) ::
(nat_lit 724,zF u4 a 9 4 (tp 81) 16 3 1082 723) ::
(nat_lit 730,zA2 u3 a 5 3 1211 465 4 725 1222) ::
(nat_lit 731,zF u4 a 5 3 (tp 82) 16 3 1082 730) ::
(nat_lit 737,zA2 u3 a 7 0 1225 473 2 732 1230) ::
(nat_lit 738,zF u4 a 7 0 (tp 83) 16 3 1082 737) ::
(nat_lit 744,zA2 u3 a 2 2 1233 475 2 739 1239) ::
(nat_lit 745,zF u4 a 2 2 (tp 84) 16 3 1082 744) ::
(nat_lit 751,zA2 u3 a 6 3 1242 481 2 746 1248) ::
(nat_lit 752,zF u4 a 6 3 (tp 85) 16 3 1082 751) ::
(nat_lit 756,zB2 u3 a 1 7 1251 488 3 753 1254) ::
(nat_lit 757,zF u4 a 1 7 (tp 86) 16 3 1082 756) ::
(nat_lit 763,zA2 u3 a 4 10 1257 493 4 758 1267) ::
(nat_lit 764,zF u4 a 4 10 (tp 87) 16 3 1082 763) ::
(nat_lit 770,zA2 u3 a 7 5 1270 505 2 765 1279) ::
(nat_lit 771,zF u4 a 7 5 (tp 88) 16 3 1082 770) ::
(nat_lit 777,zA2 u3 a 1 3 1282 519 2 772 1288) ::
(nat_lit 778,zF u4 a 1 3 (tp 89) 16 3 1082 777) ::
(nat_lit 784,zA2 u3 a 0 0 1291 535 2 779 1296) ::
(nat_lit 785,zF u4 a 0 0 (tp 90) 16 3 1082 784) ::
(nat_lit 791,zA2 u3 a 0 9 1299 544 3 786 1307) ::
(nat_lit 792,zF u4 a 0 9 (tp 91) 16 3 1082 791) ::
(nat_lit 798,zA2 u3 a 1 10 1310 559 4 793 1320) ::
(nat_lit 799,zF u4 a 1 10 (tp 92) 16 3 1082 798) ::
(nat_lit 803,zB2 u3 a 2 6 1323 566 2 800 1326) ::
(nat_lit 804,zF u4 a 2 6 (tp 93) 16 3 1082 803) ::
(nat_lit 810,zA2 u3 a 3 7 1329 574 3 805 1336) ::
(nat_lit 811,zF u4 a 3 7 (tp 94) 16 3 1082 810) ::
(nat_lit 815,zB2 u3 a 4 0 1339 583 3 812 1342) ::
(nat_lit 816,zF u4 a 4 0 (tp 95) 16 3 1082 815) ::
(nat_lit 820,zB2 u3 a 5 0 1345 593 1 817 1348) ::
(nat_lit 821,zF u4 a 5 0 (tp 96) 16 3 1082 820)::[]
noncomputable def KF:Qr->Qqq:=KG top Af b0 b1 b2 b3 b4 b5 b6 b7 b8 b9 b10 b11 b12 b13 b14 b15
noncomputable def KH(P:Qr):Qqq:=by refine'(?f:(x:Qqq)->KF P=x->Qqq) _ ?h; (case f=>exact λx _=>x); (case h=>conv=>lhs; whnf)
end K27
namespace PySem.W.Fast
open PySem K27
noncomputable def tw1626711243688430644:Program:=G tw12698105363957469650
theorem te1626711243688430644:PZW=tw1626711243688430644:=Eq.trans (b:=G Af) (by kernel_rfl) (congrArg G te12698105363957469650)
noncomputable def qzu(i:Y0):Stmt:=tw1626711243688430644.main.body.getD i (.Pass ⟨0,0,0,0⟩)
theorem qqi:top=qzu:=funext λi=>congrArg (λp:Program=>p.main.body.getD i (.Pass ⟨0,0,0,0⟩)) te1626711243688430644
noncomputable def qql:Qr->Frag:=KG qzu tw12698105363957469650 tw5353263132659302254 tw1497291801691788485 tw11335578137900319878 tw7920017293935200866 tw13870629047915373068 tw9387456825026287221 tw7877222668429162256 tw12138930492137481457 tw16292873076912583909 tw12175132274471394304 tw8350664356467688168 tw10555038864223128588 tw8269521346442587037 tw4608195604710540114 tw13723806796170149736 tw11922145542666010007
theorem te6287778425107297082:KF=qql:=congr (congr (congr (congr (congr (congr (congr (congr (congr (congr (congr (congr (congr (congr (congr (congr (congr (congrArg KG qqi) te12698105363957469650) te5353263132659302254) te1497291801691788485) te11335578137900319878) te7920017293935200866) te13870629047915373068) te9387456825026287221) te7877222668429162256) te12138930492137481457) te16292873076912583909) te12175132274471394304) te8350664356467688168) te10555038864223128588) te8269521346442587037) te4608195604710540114) te13723806796170149736) te11922145542666010007
end PySem.W.Fast
namespace K27
open PySem PySem.W PySem.Calls PyProof.Rows HD
noncomputable abbrev ads:L Y7:=[3,27,28,32,33,39,40,46,47,53,54,140,141,142,143,144,145,151,152,156,157,161,162,168,169,175,176,180,181,187,188,192,193,199,200,206,207,241,242,248,249,262,263,269,270,283,284,286,287,304,305,311,312,318,319,323,324,330,331,337,338,344,345,351,352,358,359,368,369,374,375,376,377,378,379,380,381,382,383,384,385,386,387,388,394,395,401,402,406,407,413,414,420,421,425,426,432,433,439,440,446,447,448,449,450,456,457,463,464,477,478,484,485,491,492,498,499,505,506,512,513,547,548,561,562,575,576,589,590,596,597,603,604,624,625,641,642,652,653,659,660,666,667,671,672,678,679,683,684,690,691,697,698,704,705,711,712,718,719,723,724,730,731,737,738,744,745,751,752,756,757,763,764,770,771,777,778,784,785,791,792,798,799,803,804,810,811,815,816,820,821]
noncomputable abbrev loose:L Y4:=["ASKS"]
noncomputable def vw(p:Program):Program:=view p [0,2,3,4,5,6,7,8,9,10,12,13,14,15,16,17,18,20,21,22,23,25,26,27,28,30,31,32,33,34,35,36,38,39,41,42,44,45,46,47,48,49,50,51,52,53,54,55,56,57,58,59,60,62,63,64,65,66,67,68,70,71,72,73,74,75,76,77,78,79,80,81,82,83,84,85,86,87,88,89,90,91,92,93,94,95,96]
noncomputable def Xt(q:Program)(s:Qz):Bool:=xlAt q [] s&&recOk (RowW.records (OpenRow.toRowW (OpenLaw.row RZW))) s
theorem pre:∀w:Qj,(λos=>topGo Q1 PZW w 11 an 12 ⟨Qf w.params,#[],boot_drawn,boot_toks,os⟩ (topStub PZW))=λos=>Y ((Sa w os).abs,⟨denote Q1 (cE PZW),cE PZW,p0,[topFrame p0]⟩):=by
 rw[Fast.te15667345088766844465,Fast.te14364793385576792824,Fast.te11892475500146522536,Fast.te1626711243688430644];exact λw=>by kernel_rfl
theorem blk:∀w:Qj,(λos=>segRun Q1 PZW w 11 an 1 1 (Sa w os).abs (blockOf (Zi PZW) (ev PZW) (cE PZW) p0 [topFrame p0]))=λos=>Y (Flow.next,(Sa w os).abs,cE PZW,p0):=by
 rw[Fast.te14374325043358763698,Fast.te14364793385576792824,Fast.te1626711243688430644];exact λw=>by kernel_rfl
noncomputable def GA(w:Qj):Prop:=(λos=>(Rn PZW 5565 w os).map λr=>(r.1,r.2.2.1,r.2.2.2,LA PZW (vw PZW) ads w r.2.1.abs))=λ_=>Y (Flow.next,cE PZW,⟨593,0,610,15⟩,O,(KF w.params).map λp=>Y p.2)
theorem gAf:∀w:Qj,GA (w.withFollow "special-get-raises" Y5):=by
 unfold GA Rn LA;rw[Fast.te10110043849684766642,Fast.te14364793385576792824,Fast.te5923862056798008813,Fast.te1626711243688430644,Fast.te6287778425107297082];exact λw=>by kernel_rfl
theorem gAt:∀w:Qj,GA (w.withFollow "special-get-raises" O):=by
 unfold GA Rn LA;rw[Fast.te10110043849684766642,Fast.te14364793385576792824,Fast.te5923862056798008813,Fast.te1626711243688430644,Fast.te6287778425107297082];exact λw=>by kernel_rfl
noncomputable def GZ(w:Qj):Prop:=(λos=>(Rn PZW 5565 w os).map λr=>LF (vw PZW) r.2.1.abs)=λ_=>Y (expectedOf (vw PZW))
theorem gZf:∀w:Qj,GZ (w.withFollow "special-get-raises" Y5):=by
 unfold GZ Rn LF;rw[Fast.te10110043849684766642,Fast.te14364793385576792824,Fast.te1626711243688430644];exact λw=>by kernel_rfl
theorem gZt:∀w:Qj,GZ (w.withFollow "special-get-raises" O):=by
 unfold GZ Rn LF;rw[Fast.te10110043849684766642,Fast.te14364793385576792824,Fast.te1626711243688430644];exact λw=>by kernel_rfl
noncomputable def GB(w:Qj):Prop:=(λos=>(Rn PZW 5565 w os).map λr=>LB PZW (vw PZW) loose Xt r.2.1.abs)=λ_=>Y O
theorem gBf:∀w:Qj,GB (w.withFollow "special-get-raises" Y5):=by
 unfold GB Rn LB;rw[Fast.te10110043849684766642,Fast.te14364793385576792824,Fast.te5923862056798008813,Fast.te1626711243688430644];exact λw=>by kernel_rfl
theorem gBt:∀w:Qj,GB (w.withFollow "special-get-raises" O):=by
 unfold GB Rn LB;rw[Fast.te10110043849684766642,Fast.te14364793385576792824,Fast.te5923862056798008813,Fast.te1626711243688430644];exact λw=>by kernel_rfl
noncomputable def GC(w:Qj):Prop:=(λos=>(Rn PZW 5565 w os).map λr=>plainSeenE (vw PZW) (looseW (vw PZW) loose) r.2.1.abs)=λ_=>Y (plainGoodE (vw PZW) (looseW (vw PZW) loose))
theorem gCf:∀w:Qj,GC (w.withFollow "special-get-raises" Y5):=by
 unfold GC Rn ;rw[Fast.te10110043849684766642,Fast.te14364793385576792824,Fast.te1626711243688430644];exact λw=>by kernel_rfl
theorem gCt:∀w:Qj,GC (w.withFollow "special-get-raises" O):=by
 unfold GC Rn ;rw[Fast.te10110043849684766642,Fast.te14364793385576792824,Fast.te1626711243688430644];exact λw=>by kernel_rfl
noncomputable def GD(w:Qj):Prop:=(λos=>(Rn PZW 5565 w os).map λr=>LD (vw PZW) loose r.2.1.abs)=λ_=>Y (bltViewBooted,O,pinGoodD (drecsOf (vw PZW)),clsGoodW (vw PZW) loose)
theorem gDf:∀w:Qj,GD (w.withFollow "special-get-raises" Y5):=by
 unfold GD Rn LD;rw[Fast.te10110043849684766642,Fast.te14364793385576792824,Fast.te1626711243688430644];exact λw=>by kernel_rfl
theorem gDt:∀w:Qj,GD (w.withFollow "special-get-raises" O):=by
 unfold GD Rn LD;rw[Fast.te10110043849684766642,Fast.te14364793385576792824,Fast.te1626711243688430644];exact λw=>by kernel_rfl
noncomputable def GE(w:Qj):Prop:=(λos=>(Rn PZW 5565 w os).map λr=>LG (vw PZW) loose r.2.1.abs)=λ_=>Y (wideGood (vw PZW),plainGoodD (vw PZW) loose)
theorem gEf:∀w:Qj,GE (w.withFollow "special-get-raises" Y5):=by
 unfold GE Rn LG;rw[Fast.te10110043849684766642,Fast.te14364793385576792824,Fast.te1626711243688430644];exact λw=>by kernel_rfl
theorem gEt:∀w:Qj,GE (w.withFollow "special-get-raises" O):=by
 unfold GE Rn LG;rw[Fast.te10110043849684766642,Fast.te14364793385576792824,Fast.te1626711243688430644];exact λw=>by kernel_rfl
theorem left:LeftO PZW (vw PZW) loose (Xt (vw PZW)) (λs=>ads.map s.heap.get?) (λw=>(KF w.params).map λp=>Y p.2) 11254:=
 lo3 (boot_open (by kernel_rfl) (by decide) (λs=>by kernel_rfl)) (λw=>by kernel_rfl) pre blk (byRow2 "special-get-raises" gAf gAt) (byRow2 "special-get-raises" gZf gZt) (byRow2 "special-get-raises" gBf gBt) (byRow2 "special-get-raises" gCf gCt) (byRow2 "special-get-raises" gDf gDt) (byRow2 "special-get-raises" gEf gEt) (by decide)
end K27
section
namespace L2
open PySem PySem.Spec PyProof.Rows
abbrev Key:=Sum J Y4
noncomputable def qbl:Key->Y8->Ya
 |.inl k,v=>Value.isInt k v
 |.inr x,v=>Value.isStrOf x v
noncomputable def keyH(w:Qj):Key->J
 |.inl k=>hashInt k
 |.inr x=>hashStr w x
def qzi:∀{k}{v},qbl k v=O->(∃i t,k=Sum.inl i/\v=Value.int i t)\/(∃x t,k=Sum.inr x/\v=Value.str x t)
 |.inl i,v,h=>by
  obtain⟨t,e⟩:=Value.isInt_shape h;exact .inl ⟨i,t,rfl,e⟩
 |.inr x,v,h=>by
  obtain⟨t,e⟩:=Value.isStrOf_shape h;exact .inr ⟨x,t,rfl,e⟩
def qd2(i)(t):qbl (.inl i) (.int i t)=true:=by simp[qbl,Value.isInt]
def qd1(x)(t):qbl (.inr x) (.str x t)=true:=by simp[qbl,Value.isStrOf]
def key_ll(a b):decide ((Sum.inl a:Key)=Sum.inl b)=(a==b):=by
 by_cases e:a=b
 ·subst e; simp
 ·have h:¬ (Sum.inl a:Key)=Sum.inl b:=λq=>e (Sum.inl.inj q);rw[Z6 h];exact(beq_eq_false_iff_ne.mpr e).symm
def key_rr(a b):decide ((Sum.inr a:Key)=Sum.inr b)=decide (a=b):=by
 by_cases e:a=b
 ·subst e; simp
 ·have h:¬ (Sum.inr a:Key)=Sum.inr b:=λq=>e (Sum.inr.inj q);rw[Z6 h,Z6 e]
def key_lr(a)(b):decide ((Sum.inl a:Key)=Sum.inr b)=false:=Z6 (λq=>nomatch q)
def key_rl(a)(b):decide ((Sum.inr a:Key)=Sum.inl b)=false:=Z6 (λq=>nomatch q)
noncomputable def mixKind(prog:Program)(w:Qj):PySem.KeyKind prog w Key where
 is:=qbl
 hash:=keyH w
 inj:=λv a b ha hb=>by
  rcases qzi ha with⟨i,t,rfl,rfl⟩|⟨x,t,rfl,rfl⟩
  ·rcases qzi hb with⟨j,u,rfl,e⟩|⟨y,u,rfl,e⟩
   ·injection e with e1 _; rw[e1]
   ·exact nomatch e
  ·rcases qzi hb with⟨j,u,rfl,e⟩|⟨y,u,rfl,e⟩
   ·exact nomatch e
   ·injection e with e1 _; rw[e1]
 byValue:=λk v h=>by
  rcases qzi h with⟨i,t,rfl,rfl⟩|⟨x,t,rfl,rfl⟩<;>rfl
 pyHash:=λhv h=>by
  rcases qzi hv with⟨i,t,rfl,rfl⟩|⟨x,t,rfl,rfl⟩
  ·exact wpAny_pyHash_int h
  ·exact wpAny_pyHash_str h
 eqBool:=λhu hv h=>by
  rcases qzi hu with⟨i,t,rfl,rfl⟩|⟨x,t,rfl,rfl⟩
  ·rcases qzi hv with⟨j,u,rfl,rfl⟩|⟨y,u,rfl,rfl⟩
   ·rw[key_ll]at h; exact wpAny_eqBool_int h
   ·rw[key_lr]at h; exact SeqAt.EqAt.int_str i t y u _ _ _ _ h
  ·rcases qzi hv with⟨j,u,rfl,rfl⟩|⟨y,u,rfl,rfl⟩
   ·rw[key_rl]at h; exact SeqAt.EqAt.str_int x t j u _ _ _ _ h
   ·rw[key_rr]at h; exact wpAny_eqBool_str h
 «strs»:=λk x t v h=>by
  rcases qzi h with⟨i,u,rfl,e⟩|⟨y,u,rfl,e⟩
  ·exact nomatch e
  ·injection e with e1 _;subst e1;cases v<;>rfl
def qyk(prog)(w)(i)(t):(mixKind prog w).is (.inl i) (.int i t)=true:=qd2 i t
def qq3(prog)(w)(x)(t):(mixKind prog w).is (.inr x) (.str x t)=true:=qd1 x t
inductive V where
 |non|bl (b:Ya)|int (i:J)|str (x:Y4)|byt (b:Array UInt8)|flt (b:UInt64)|ref (a:Y7)|ty (n:String)
 deriving DecidableEq
noncomputable def RelV:V->Y8->Prop
 |.non,u=>u=Value.none
 |.bl b,u=>u=Value.bool b
 |.int i,u=>∃t,u=Value.int i t
 |.str x,u=>∃t,u=Value.str x t
 |.byt b,u=>∃t,u=Value.bytes b t
 |.flt b,u=>∃t,u=Value.float b t
 |.ref a,u=>u=Value.ref a
 |.ty n,u=>u=Value.type n
abbrev Vals:L V->L Y8->Prop:=Paired RelV
theorem Vals.length(r:Vals xs us):xs.length=us.length:=Paired.length r
theorem Vals.get:∀{xs:L V}{us:L Y8}{i:Y0}{x:V},Vals xs us->xs[i]?=Y x->∃u,us[i]?=Y u/\RelV x u
 |_,_,_,_,.nil,e=>by simp at e
 |_,_,0,_,.cons r _,e=>by simp at e; subst e; exact⟨_,rfl,r⟩
 |_,_,i+1,x,.cons _ t,e=>by
  obtain⟨u,h1,h2⟩:=Vals.get t (by simpa using e);exact⟨u,by simpa using h1,h2⟩
theorem Vals.set(r:RelV x u):∀{xs:L V}{us:L Y8}(i:Y0),Vals xs us->Vals (xs.set i x) (us.set i u)
 |_,_,_,.nil=>.nil
 |_,_,0,.cons _ t=>.cons r t
 |_,_,i+1,.cons q t=>.cons q (Vals.set r i t)
theorem Vals.append:∀{xs ys}{us ws},Vals xs us->Vals ys ws->Vals (xs++ys) (us++ws)
 |_,_,_,_,.nil,s=>s
 |_,_,_,_,.cons r t,s=>.cons r (Vals.append t s)
theorem Vals.take:∀{xs:L V}{us:L Y8}(n:Y0),Vals xs us->Vals (xs.take n) (us.take n)
 |_,_,0,_=>.nil
 |_,_,_+1,.nil=>.nil
 |_,_,n+1,.cons r t=>.cons r (Vals.take n t)
theorem Vals.drop:∀{xs:L V}{us:L Y8}(n:Y0),Vals xs us->Vals (xs.drop n) (us.drop n)
 |_,_,0,r=>r
 |_,_,_+1,.nil=>.nil
 |_,_,n+1,.cons _ t=>Vals.drop n t
noncomputable def RelO:Y2 V->Y2 Y8->Prop
 |some v,Y u=>RelV v u
 |none,B=>True
 |_,_=>False
def KV{κ:Type}:L (κ×V)->L (κ×Y8)->Prop:=Paired λ(p:κ×V) (q:κ×Y8)=>p.1=q.1/\RelV p.2 q.2
noncomputable def kV:Key->V
 |.inl i=>.int i
 |.inr x=>.str x
inductive HO where
 /-- a list -/
 |lst (xs:L V)
 /-- a tuple (never changes) -/
 |tup (xs:L V)
 /-- a dict whose keys are ints and texts; one whose keys are tuples of ints and texts (the empty one is both) -/
 |dK (kvs:L (Key×V))|dT (kvs:L (L Key×V))
 /-- a set of ints: its members,its size -/
 |set (S:J->Ya) (n:Y0)
 /-- an instance of the class at C,its dict at dx,its attributes -/
 |ins (C dx:Y7) (fs:L (Y4×V))
 /-- the dict of the instance at x -/
 |own (x:Y7)
 /-- the dict of an exception -/
 |xd (fs:L (Y4×V))
 /-- a bound method,f of x -/
 |met (f x:Y7)
 /-- a range object lo,lo+1,.. below hi -/
 |rng (lo hi:J)
 /-- a thing that is known to the object (the script; a dict while a loop walks it): read,never written while it is so -/
 |frz (o:Obj) (u:HO)
 /-- a code object's table -/
 |tbl (ps:Array Y8)
 /-- any other thing,by what is O of its one object (a def of one's own: SetO a S n:=HO.ext λh=>..) -/
 |ext (φ:Heap->Prop)
abbrev Hp:=Y7->Y2 HO
noncomputable def upd(H:Hp)(a:Y7)(o:HO):Hp:=λb=>if b=a then Y o else H b
def qzy:upd H a o a=Y o:=by unfold upd; rw[Z8 rfl]
def qzx(h:b≠a):upd H a o b=H b:=by unfold upd; rw[Z7 h]
def qzt{H:Hp}(h:H a=Y o)(h':H b=Y u)(d:o≠u):a≠b:=by
 intro e; subst e; rw[h]at h'; exact d (Option.some.inj h')
def qzl{H:Hp}(h:H a=Y o)(h':H b=B):a≠b:=by
 intro e; subst e; rw[h]at h'; cases h'
section
variable (P:Program)(w:Qj)
noncomputable def ObjOk(H:Hp)(h:Heap)(a:Y7):HO->Prop
 |.lst xs=>xs.length<=sizeLine/\∃(its:L Y8) (n:Y0),Vals xs its/\h.get? a=Y { cls:=.type "list",data:=.seq its.toArray n }
 |.tup xs=>xs.length<=sizeLine/\∃its:L Y8,Vals xs its/\IsTup h a its.toArray
 |.dK kvs=>kvs.length<=sizeLine/\(a==Qm)=Y5/\∃vs,KV kvs vs/\h.DictOf (mixKind P w) a vs
 |.dT kvs=>kvs.length<=sizeLine/\(a==Qm)=Y5/\∃xs:L (L Key×Y7×Y8),
   Paired (λ(p:L Key×V) (q:L Key×Y7×Y8)=>p.1=q.1/\H q.2.1=Y (.tup (p.1.map kV))/\RelV p.2 q.2.2) kvs xs/\
   ∃o es ep,h.get? a=Y o/\o.ExactDict/\o.data=.dict es ep/\es.toList=xs.map (entryOfKey (tupleKind (mixKind P w)))/\(xs.map (·.1)).Nodup
 |.set S n=>h.SetOf (intKind P w) a S n
 |.ins C dx fs=>H dx=Y (.own a)/\fs.length<=1000/\dx≠a/\h.get? a=Y (PySem.W.instObj C dx)/\
   ∃mA,h.Ns1 dx mA/\(∀f,RelO (fs.lookup f) (mA f))/\PySem.Within mA (fs.map (·.1))
 |.own _=>∃o,h.get? a=Y o
 |.xd fs=>∃mA,h.Ns1 a mA/\∀f,RelO (fs.lookup f) (mA f)
 |.rng lo hi=>∃t u v,h.get? a=Y { cls:=.type "range",data:=.fields #[.int lo t,.int hi u,.int 1 v] }
 |.frz o u=>h.get? a=Y o/\ObjOk H h a u
 |.tbl ps=>h.get? a=Y { cls:=.none,data:=.fields ps }
 |.met f x=>h.get? a=Y (PySem.W.methodObj (.ref f) (.ref x))
 |.ext φ=>φ h/\(∃o,h.get? a=Y o)/\∀h1 h2:Heap,φ h1->(∀o,h1.get? a=Y o->h2.get? a=Y o)->φ h2
def HOk(H:Hp)(h:Heap):Prop:=∀a o,H a=Y o->ObjOk P w H h a o
end
section
theorem ObjOk.lt(x:ObjOk P w H h a o):a<h.objs.size:=by
 cases o with
 |lst xs=>obtain⟨_,_,_,_,e⟩:=x; exact Qqf e
 |tup xs=>obtain⟨_,_,_,p⟩:=x; exact p.lt
 |dK kvs=>obtain⟨_,_,_,_,o,_,_,e,_⟩:=x; exact Qqf e
 |dT kvs=>obtain⟨_,_,_,_,o,_,_,e,_⟩:=x; exact Qqf e
 |set S n=>obtain⟨o,_,_,_,e,_⟩:=x; exact Qqf e
 |ins C dx fs=>obtain⟨_,_,_,e,_⟩:=x; exact Qqf e
 |own y=>obtain⟨_,e⟩:=x; exact Qqf e
 |xd fs=>obtain⟨_,⟨_,_,_,e,_⟩,_⟩:=x; exact Qqf e
 |rng lo hi=>obtain⟨_,_,_,e⟩:=x; exact Qqf e
 |frz ob u=>obtain⟨e,_⟩:=x; exact Qqf e
 |tbl ps=>exact Qqf (x)
 |met f y=>exact Qqf (x)
 |ext b=>obtain⟨_,⟨_,e⟩,_⟩:=x; exact Qqf e
theorem Paired.mapP:∀{l₁}{c},Paired F l₁ c->(∀a b,F a b->G a b)->Paired G l₁ c
 |_,_,.nil,_=>.nil
 |_,_,.cons r t,f=>.cons (f _ _ r) (Paired.mapP t f)
def ObjOk.stay(x:ObjOk P w H h a o)(k:∀b u,(b=a\/H b=Y (.own a))->h.get? b=Y u->h'.get? b=Y u)
  (s:∀b,H b=Y (.own a)->H' b=Y (.own a)) (m:∀b xs,H b=Y (.tup xs)->H' b=Y (.tup xs)):ObjOk P w H' h' a o:=by
 induction o with
 |lst xs=>obtain⟨z,i,n,r,e⟩:=x; exact⟨z,i,n,r,k _ _ (.inl rfl) e⟩
 |tup xs=>obtain⟨z,i,r,ob,e,c⟩:=x; exact⟨z,i,r,ob,k _ _ (.inl rfl) e,c⟩
 |dK kvs=>obtain⟨z,y,vs,r,ob,es,g,e,c⟩:=x; exact⟨z,y,vs,r,ob,es,g,k _ _ (.inl rfl) e,c⟩
 |dT kvs=>
  obtain⟨z,y,xs,r,ob,es,g,e,c⟩:=x;exact⟨z,y,xs,Paired.mapP r λp q z=>⟨z.1,m _ _ z.2.1,z.2.2⟩,ob,es,g,k _ _ (.inl rfl) e,c⟩
 |set S n=>obtain⟨ob,es,g,t,e,c⟩:=x; exact⟨ob,es,g,t,k _ _ (.inl rfl) e,c⟩
 |ins C dx fs=>
  obtain⟨d,z,ne,e,mA,⟨j,es,g,A,c⟩,r⟩:=x;exact⟨s _ d,z,ne,k _ _ (.inl rfl) e,mA,⟨j,es,g,k _ _ (.inr d) A,c⟩,r⟩
 |own y=>obtain⟨ob,e⟩:=x; exact⟨ob,k _ _ (.inl rfl) e⟩
 |xd fs=>obtain⟨mA,⟨j,es,g,e,c⟩,r⟩:=x; exact⟨mA,⟨j,es,g,k _ _ (.inl rfl) e,c⟩,r⟩
 |rng lo hi=>obtain⟨t,u,v,e⟩:=x; exact⟨t,u,v,k _ _ (.inl rfl) e⟩
 |frz ob u l=>obtain⟨e,q⟩:=x; exact⟨k _ _ (.inl rfl) e,l q⟩
 |tbl ps=>
  have e:=x;exact k a _ (.inl rfl) e
 |met f y=>
  have e:=x;exact k a _ (.inl rfl) e
 |ext D=>obtain⟨p,⟨o,e⟩,st⟩:=x; exact⟨st _ _ p λo q=>k _ _ (.inl rfl) q,⟨o,k _ _ (.inl rfl) e⟩,st⟩
theorem HOk.lt(x:HOk P w H h)(e:H a=Y o):a<h.objs.size:=(x a o e).lt
def HOk.fresh(x:HOk P w H h)(e:h.objs.size<=a):H a=none:=by
 cases q:H a with
 |none=>rfl
 |some u=>exact absurd (Qq6 (x.lt q) e) (Qxz _)
def HOk.kept(x:HOk P w H h)(k:∀b u,h.get? b=Y u->h'.get? b=Y u):HOk P w H h':=λa o e=>
 (x a o e).stay (λb u _ q=>k b u q) (λ_ q=>q) λ_ _ q=>q
def HOk.laid(x:HOk P w H h)(k:∀b u,h.get? b=Y u->h'.get? b=Y u)(d:h.objs.size<=a)(new:ObjOk P w (upd H a o) h' a o):HOk P w (upd H a o) h':=λb u e=>by
 have hn:=x.fresh d
 by_cases hb:b=a
 ·subst hb; rw[qzy]at e; cases e; exact new
 ·rw[qzx hb]at e;exact(x b u e).stay (λc v _ q=>k c v q) (λc q=>by rw[qzx (qzl q hn)]; exact q) λc xs q=>by rw[qzx (qzl q hn)]; exact q
end
def Rd(H:Hp)(a:Y7)(u:HO):Prop:=H a=Y u\/∃o,H a=Y (.frz o u)
def Rd.ok(r:Rd H a u)(x:HOk P w H h):ObjOk P w H h a u:=by
 rcases r with r|⟨o,r⟩
 ·exact x a u r
 ·obtain⟨_,q⟩:=x a _ r;exact q
noncomputable def Mut:Y2 HO->Prop
 |some (.lst _)=>True
 |some (.dK _)=>True
 |some (.dT _)=>True
 |some (.set _ _)=>True
 |some (.ins _ _ _)=>True
 |some (.ext _)=>True
 |_=>False
section
def HOk.write(ok:HOk P w H h)(g:Mut (H x))(l:e=x\/H e=Y (.own x))(k:∀b u,b≠e->h.get? b=Y u->h'.get? b=Y u)(i:∃u,h'.get? e=Y u)
  (new:ObjOk P w (upd H x o') h' x o'):HOk P w (upd H x o') h':=λb u q=>by
 have d:∀c y,H c=Y (.own y)->c≠x:=λc y r z=>by subst z; rw[r]at g; exact g
 have f:∀c xs,H c=Y (.tup xs)->c≠x:=λc xs r z=>by subst z; rw[r]at g; exact g
 by_cases hb:b=x
 ·subst hb; rw[qzy]at q; cases q; exact new
 ·rw[qzx hb]at q
  by_cases a:b=e
  ·have j:H b=Y (.own x):=by
    rcases l with z|z
    ·exact absurd (a.trans z) hb
    ·rw[a]; exact z
   rw[q]at j; cases j;obtain⟨v,hv⟩:=i;exact⟨v,by rw[a]; exact hv⟩
  ·refine(ok b u q).stay (λc v hc r=>k c v ?_ r) (λc r=>by rw[qzx (d c b r)]; exact r) λc xs r=>by rw[qzx (f c xs r)]; exact r
   rcases hc with rfl|hc
   ·exact a
   ·rintro rfl;rcases l with z|z
    ·exact d c b hc z
    ·rw[hc]at z; cases z; exact hb rfl
end
structure Un (fs ex:L Y7) (H H':Hp) (h h':Heap):Prop where
 keep:∀b o,h.get? b=Y o->H b=B->b ∉ fs->b ∉ ex->h'.get? b=Y o
 slot:∀b o,h.get? b=Y o->H b=B->b∈fs->b ∉ ex->∃sl,h'.get? b=Y { o with slots:=sl }
 free:∀b o,h.get? b=Y o->H b=B->b ∉ ex->H' b=B
 there:∀b o,h.get? b=Y o->b ∉ ex->∃o',h'.get? b=Y o'
 tups:∀b xs,H b=Y (.tup xs)->H' b=Y (.tup xs)
 frzs:∀b o u,H b=Y (.frz o u)->H' b=Y (.frz o u)
 tbls:∀b ps,H b=Y (.tbl ps)->∃more,H' b=Y (.tbl (ps++more))
section
def Un.any(u:Un fs ex H H1 h h1)(q:h.get? b=Y ob)(n:H b=B)(c:b ∉ ex):∃sl,h1.get? b=Y { ob with slots:=sl }:=by
 by_cases hb:b∈fs
 ·exact u.slot b ob q n hb c
 ·exact⟨ob.slots,u.keep b ob q n hb c⟩
def Un.kept(k:∀b u,h.get? b=Y u->h'.get? b=Y u):Un fs ex H H h h':=
 ⟨λb ob q _ _ _=>k b ob q,λb ob q _ _ _=>⟨ob.slots,k b ob q⟩,λ_ _ _ n _=>n,λb ob q _=>⟨ob,k b ob q⟩,λ_ _ q=>q,λ_ _ _ q=>q,λ_ ps q=>⟨#[],by rw[q]; simp⟩⟩
def Un.refl:Un fs ex H H h h:=Un.kept λ_ _ q=>q
def Un.laid(k:∀b u,h.get? b=Y u->h'.get? b=Y u)(d:h.objs.size<=a)(c:H a=B):Un fs ex H (upd H a o) h h' where
 keep:=λb u q _ _ _=>k b u q
 slot:=λb u q _ _ _=>⟨u.slots,k b u q⟩
 free:=λb u q n _=>by rw[qzx (Qq4 (Qq6 (Qqf q) d))]; exact n
 there:=λb u q _=>⟨u,k b u q⟩
 tups:=λb xs q=>by rw[qzx (qzl q c)]; exact q
 frzs:=λb u xs q=>by rw[qzx (qzl q c)]; exact q
 tbls:=λb ps q=>⟨#[],by rw[qzx (qzl q c),q]; simp⟩
def Un.write(d:Mut (H x))(j:e=x\/H e=Y (.own x))(k:∀b u,b≠e->h.get? b=Y u->h'.get? b=Y u)(g:∃u,h'.get? e=Y u):Un fs ex H (upd H x o) h h':=by
 have i:∀b,H b=B->b≠x:=λb n z=>by subst z; rw[n]at d; exact d
 have hb:∀b,H b=B->b≠e:=λb n z=>by
  subst z;rcases j with r|r
  ·exact i b n r
  ·rw[n]at r; cases r
 have f:∀b u,H b=Y u->¬ Mut (Y u)->b≠x:=λb u q nm z=>by subst z; rw[q]at d; exact nm d
 refine⟨λb u q n _ _=>k b u (hb b n) q,λb u q n _ _=>⟨u.slots,k b u (hb b n) q⟩,λb u q n _=>by rw[qzx (i b n)]; exact n,λb u q _=>?_,
  λb xs q=>by rw[qzx (f b _ q λz=>z)]; exact q,λb u xs q=>by rw[qzx (f b _ q λz=>z)]; exact q,λb ps q=>⟨#[],by rw[qzx (f b _ q λz=>z),q]; simp⟩⟩
 by_cases c:b=e
 ·subst c; exact g
 ·exact⟨u,k b u c q⟩
end
noncomputable def trk(h:Heap)(H:Hp):L Y7:=(List.range h.objs.size).filter λa=>(H a).isSome
noncomputable def hidT(h:Heap)(H:Hp):Heap:=PySem.W.hideAll h (trk h H)
def qeq(h)(H):(hidT h H).objs.size=h.objs.size:=PySem.W.hideAll_size _ _
def qhq(e:h.get? b=Y o)(n:H b=B):(hidT h H).get? b=Y o:=
 PySem.W.hideAll_get _ e λa=>by
  have q:=(Qzr.mp a).2;rw[n]at q; simp at q
def qmn(e:(hidT h H).get? b=Y o):h.get? b=Y o/\H b=none:=by
 have a:=PySem.W.of_hideAll (trk h H) e;refine⟨a,?_⟩
 cases q:H b with
 |none=>rfl
 |some x=>
  have c:b∈trk h H:=Qzr.mpr ⟨Qz6.mpr (Qqf a),by simp[q]⟩;have z:(hidT h H).get? b=none:=PySem.W.hideAll_none (trk h H) c;rw[z]at e; cases e
structure Mod (K:Qqq) (mg:Y4->Y2 Y8) (base:Heap):Prop where
 kin:K.In base
 glob:base.Ns mainGlobals mg
 blt:∃mb,base.Ns builtinsNs mb/\∀x:Y4,x ≠ "__name__"->mb x=Qc x
 nolimit:base.NoLimit
structure Cx where
 prog:Program
 w:Qj
 K:Qqq
 mg:Y4->Y2 Y8
 base:Heap
 A:Qk
 N:L Y4
 s₀:Qz
 H₀:Hp
 env:Env
 outer:L Env
 stack:L Env
 ex:L Y7
 fn:Y4->Ya
 calm:Ya
 pn:L (Y7×Obj)
 xe:Y8->Qz->Prop
noncomputable def frs(l:L Env):L Y7:=l.filterMap (·.frame)
noncomputable abbrev Cx.fs(X:Cx):L Y7:=frs X.outer
def Vis(sc:Scope)(x:Y4):Prop:=sc.names.lookup x=Y .local\/sc.names.lookup x=Y .cell\/sc.names.lookup x=Y .free
def Loc(sc:Scope)(x:Y4):Prop:=sc.names.lookup x=Y .local\/sc.names.lookup x=Y .cell
def Look(env:Env)(h:Heap)(m:Y4->Y2 Y8)(x:Y4)(u:Y8):Prop:=
 (env.kindOf x=Y .local/\m x=Y u)\/((env.kindOf x=Y .cell\/env.kindOf x=Y .free)/\∃c,env.cells.lookup x=Y c/\h.IsCell c (Y u))
structure Cx.Ok (X:Cx):Prop where
 mod:Mod X.K X.mg X.base
 kind:X.env.scope.kind=.function
 glob:X.env.globals=mainGlobals
 blt:X.env.builtins=builtinsNs
 above:X.s₀.heap.objs.size<=X.env.locals
 inj:∀x y c,X.env.cells.lookup x=Y c->X.env.cells.lookup y=Y c->x=y
 has:∀x,(X.env.kindOf x=Y .cell\/X.env.kindOf x=Y .free)->∃c,X.env.cells.lookup x=Y c
 cab:∀x c,X.fn x=O->X.env.cells.lookup x=Y c->X.s₀.heap.objs.size<=c
 hd:X.calm=O->X.A.handled=B
 frames:X.A.frames=Y X.stack
 stk:X.stack=X.outer\/(X.stack=X.env::X.outer/\X.env.frame=Y X.env.locals)
 exf:∀b∈X.ex,b≠X.env.locals/\∀x c,X.env.cells.lookup x=Y c->c≠b
 bs:∀b o,X.base.get? b=Y o->X.s₀.heap.get? b=Y o/\X.H₀ b=B
 bsz:X.base.objs.size<=X.s₀.heap.objs.size
 noex:∀b o,X.base.get? b=Y o->b ∉ X.ex
 exfs:∀b∈X.ex,b ∉ X.fs
 funs:X.s₀.heap.FunFrames X.base X.outer
 frf:∀b∈X.fs,X.H₀ b=B
structure Inv (X:Cx) (pins:L (Y7×Obj)) (σ:L (Y2 V)) (H:Hp) (s:Qz):Prop where
 ok:X.Ok
 os:s.os=X.s₀.os
 bare:Zn s.gens
 base:Un X.fs X.ex X.H₀ H X.s₀.heap s.heap
 loc:∃m,s.heap.Ns X.env.locals m/\∀(i:Y0) (x:Y4) (v:V),X.N[i]?=Y x->σ[i]?=Y (Y v)->Vis X.env.scope x->∃u,RelV v u/\Look X.env s.heap m x u
 cell:∀x c,X.env.cells.lookup x=Y c->∃v,s.heap.IsCell c v
 free:H X.env.locals=B
 freeC:∀x c,X.env.cells.lookup x=Y c->H c=B
 pin:∀p∈X.pn++pins,s.heap.get? p.1=Y p.2/\H p.1=B/\p.1≠X.env.locals/\p.1 ∉ X.fs/\∀v,p.2.data≠.cell v
 hok:HOk X.prog X.w H s.heap
 len:σ.length=X.N.length
section
variable {X:Cx}
def Cx.Ok.nofr(ok:X.Ok)(e:X.base.get? b=Y o):b ∉ X.fs:=λhb=>by
 have:=(ok.funs.mem hb).1;rw[e]at this; cases this
theorem Inv.bs(I:Inv X pins σ H s):∀b o,X.base.get? b=Y o->s.heap.get? b=Y o/\H b=none:=λb o e=>
 ⟨I.base.keep b o (I.ok.bs b o e).1 (I.ok.bs b o e).2 (I.ok.nofr e) (I.ok.noex b o e),I.base.free b o (I.ok.bs b o e).1 (I.ok.bs b o e).2 (I.ok.noex b o e)⟩
def Inv.bk(I:Inv X pins σ H s):∀b o,X.base.get? b=Y o->s.heap.get? b=Y o:=λb o e=>(I.bs b o e).1
theorem Inv.mod(I:Inv X pins σ H s):Mod X.K X.mg X.base:=I.ok.mod
def Inv.kIn(I:Inv X pins σ H s):X.K.In s.heap:=I.ok.mod.kin.keeps I.bk
theorem Inv.lt(I:Inv X pins σ H s):X.env.locals<s.heap.objs.size:=let ⟨_,hn,_⟩:=I.loc; hn.lt
def Inv.sz(I:Inv X pins σ H s):X.s₀.heap.objs.size<=s.heap.objs.size:=Qz3 I.ok.above (Qj4 I.lt)
def Inv.nofs(I:Inv X pins σ H s)(h:s.heap.objs.size<=a):a ∉ X.fs:=λhb=>by
 obtain⟨_,o,b,_⟩:=I.ok.funs.mem hb;exact absurd (Qq6 (Qqf b) (Qz3 I.sz h)) (Qxz _)
def Inv.cne(I:Inv X pins σ H s):∀x c,X.env.cells.lookup x=Y c->c≠X.env.locals:=λx c e z=>by
 obtain⟨v,o,d,hd⟩:=I.cell x c e;obtain⟨m,⟨o',es,f,a,b,_⟩,_⟩:=I.loc;rw[z,a]at d; cases d; rw[b]at hd; cases hd
theorem Inv.funs(I:Inv X pins σ H s):s.heap.FunFrames X.base X.outer:=by
 have all:∀(l:L Env),(∀b∈frs l,b∈X.fs)->X.s₀.heap.FunFrames X.base l->s.heap.FunFrames X.base l:=by
  intro l
  induction l with
  |nil=>intro _ _; trivial
  |cons env r d=>
   intro hs g;obtain⟨hk,⟨a,o,hf,hn,f,hd⟩,hr⟩:=g;have c:=hs a (by unfold frs; rw[Qzk,hf]; exact Qq3);obtain⟨sl,e⟩:=I.base.slot a o f (I.ok.frf a c) c λz=>I.ok.exfs a z c;exact⟨hk,⟨a,_,hf,hn,e,hd⟩,d (λb hb=>hs b (by unfold frs; rw[Qzk,hf]; exact Qqp _ hb)) hr⟩
 exact all X.outer (λ_ hb=>hb) I.ok.funs
theorem Inv.stack(I:Inv X pins σ H s):s.heap.FunFrames X.base X.stack:=by
 rcases I.ok.stk with e|⟨e,hf⟩
 ·rw[e]; exact I.funs
 ·rw[e];obtain⟨m,hn,_⟩:=I.loc;refine .cons (by rw[I.ok.kind]; decide) hf hn ?_ I.funs;exact Heap.get?_none_of_le (Qz3 I.ok.bsz I.ok.above)
def Inv.stkSub(I:Inv X pins σ H s):∀b∈frs X.stack,b∈X.env.locals::X.fs:=λb hb=>by
 rcases I.ok.stk with e|⟨e,hf⟩
 ·rw[e]at hb; exact Qqp _ hb
 ·rw[e]at hb;unfold frs at hb;rw[Qzk,hf]at hb;exact hb
def Inv.stkFree(I:Inv X pins σ H s):∀b∈frs X.stack,H b=none:=λb hb=>by
 rcases Qqy.mp (I.stkSub b hb) with e|hb
 ·rw[e]; exact I.free
 ·obtain⟨_,o,a,_⟩:=I.ok.funs.mem hb;exact I.base.free b o a (I.ok.frf b hb) λz=>I.ok.exfs b z hb
def Inv.step{ch:L Y7}(I:Inv X pins σ H s)(g:∀b∈ch,(b∈X.ex\/X.s₀.heap.objs.size<=b)/\b≠X.env.locals/\(∀x c,X.env.cells.lookup x=Y c->c≠b)/\∀p∈X.pn++pins,p.1≠b)(keep:∀b o,b≠X.env.locals->b ∉ X.fs->b ∉ ch->s.heap.get? b=Y o->H b=B->h'.get? b=Y o)(slot:∀b o,b≠X.env.locals->b∈X.fs->b ∉ ch->s.heap.get? b=Y o->H b=B->∃sl,h'.get? b=Y { o with slots:=sl })(free:∀b o,b ∉ ch->s.heap.get? b=Y o->H b=B->H' b=B)(there:∀b o,b ∉ ch->s.heap.get? b=Y o->∃o',h'.get? b=Y o')(tups:∀b xs,H b=Y (.tup xs)->H' b=Y (.tup xs))(frzs:∀b o u,H b=Y (.frz o u)->H' b=Y (.frz o u))(tbls:∀b ps,H b=Y (.tbl ps)->∃more,H' b=Y (.tbl (ps++more)))(ns:∀m,s.heap.Ns X.env.locals m->h'.Ns X.env.locals m)(hok:HOk X.prog X.w H' h')(G:Zn g'):
  Inv X pins σ H' { s with heap:=h',gens:=g',drawn:=d',toks:=t' }:=by
 have y:∀b o,X.s₀.heap.get? b=Y o->b≠X.env.locals:=λb o e=>Qq4 (Qq6 (Qqf e) I.ok.above);have j:∀b o,X.s₀.heap.get? b=Y o->b ∉ X.ex->b ∉ ch:=λb o e a hb=>by
  rcases (g b hb).1 with z|z
  ·exact a z
  ·exact absurd (Qq6 (Qqf e) z) (Qxz _)
 have h:∀x c,X.env.cells.lookup x=Y c->∀v,s.heap.IsCell c v->h'.IsCell c v:=λx c e v ⟨o,w,hd⟩=>by
  have f:=λz=>(g c z).2.2.1 x c e rfl
  by_cases hc:c∈X.fs
  ·obtain⟨sl,q⟩:=slot c o (I.cne x c e) hc f w (I.freeC x c e);exact⟨_,q,hd⟩
  ·exact⟨o,keep c o (I.cne x c e) hc f w (I.freeC x c e),hd⟩
 refine⟨I.ok,I.os,G,⟨λb o e n hb a=>?_,λb o e n hb a=>?_,λb o e n a=>?_,λb o e a=>?_,λb xs e=>tups b xs (I.base.tups b xs e),λb o xs e=>frzs b o xs (I.base.frzs b o xs e),λb ps e=>?_⟩,?_,λx c e=>?_,?_,λx c e=>?_,λp E=>?_,hok,I.len⟩
 ·exact keep b o (y b o e) hb (j b o e a) (I.base.keep b o e n hb a) (I.base.free b o e n a)
 ·obtain⟨sl,t⟩:=I.base.slot b o e n hb a;obtain⟨C,A⟩:=slot b _ (y b o e) hb (j b o e a) t (I.base.free b o e n a);exact⟨C,A⟩
 ·obtain⟨o',t⟩:=I.base.there b o e a;exact free b o' (j b o e a) t (I.base.free b o e n a)
 ·obtain⟨o',t⟩:=I.base.there b o e a;exact there b o' (j b o e a) t
 ·obtain⟨m1,t⟩:=I.base.tbls b ps e;obtain⟨m2,A⟩:=tbls b _ t;exact⟨m1++m2,by rw[A,Array.append_assoc]⟩
 ·obtain⟨m,hn,F⟩:=I.loc;refine⟨m,ns m hn,λi x v t A K=>?_⟩;obtain⟨u,r,l⟩:=F i x v t A K;refine⟨u,r,?_⟩;rcases l with l|⟨k,c,e,z⟩
  ·exact .inl l
  ·exact .inr ⟨k,c,e,h x c e _ z⟩
 ·obtain⟨v,z⟩:=I.cell x c e;exact⟨v,h x c e v z⟩
 ·obtain⟨m,⟨o,_,_,w,_⟩,_⟩:=I.loc;exact free _ o (λz=>(g _ z).2.1 rfl) w I.free
 ·obtain⟨v,o,w,hd⟩:=I.cell x c e;exact free c o (λz=>(g c z).2.2.1 x c e rfl) w (I.freeC x c e)
 ·obtain⟨e,n,ne,D,d⟩:=I.pin p E;have f:=λz=>(g p.1 z).2.2.2 p E rfl;exact⟨keep p.1 p.2 ne D f e n,free p.1 p.2 f e n,ne,D,d⟩
def Inv.un(I:Inv X pins σ H s)(u:Un X.fs [] H H' s.heap h')(hok:HOk X.prog X.w H' h'):Inv X pins σ H' { s with heap:=h',toks:=t' }:=by
 obtain⟨m,⟨o,es,i,f,r⟩,_⟩:=id I.loc;obtain⟨sl,h⟩:=u.any f I.free (by simp)
 exact I.step (ch:=[]) (λ_ z=>nomatch z) (λb o _ hb _ e n=>u.keep b o e n hb (by simp)) (λb o _ hb _ e n=>u.slot b o e n hb (by simp)) (λb o _ e n=>u.free b o e n (by simp)) (λb o _ e=>u.there b o e (by simp)) u.tups u.frzs u.tbls (λm' g=>by
  obtain⟨o',c,d,a,r'⟩:=g;rw[f]at a; cases a
  exact⟨_,c,d,h,r'⟩) hok I.bare
def Inv.call(I:Inv X pins σ H s)(u:Un (frs X.stack) ch H H' s.heap h')(hok:HOk X.prog X.w H' h')(k:Zn g')(d:∀b∈ch,(b∈X.ex\/X.s₀.heap.objs.size<=b)/\b≠X.env.locals/\(∀x c,X.env.cells.lookup x=Y c->c≠b)/\∀p∈X.pn++pins,p.1≠b):
  Inv X pins σ H' { s with heap:=h',gens:=g',drawn:=d',toks:=t' }:=by
 obtain⟨m,⟨o,es,l,i,r⟩,_⟩:=id I.loc;obtain⟨sl,f⟩:=u.any i I.free λz=>(d _ z).2.1 rfl
 exact I.step d (λb o f hb hc e n=>u.keep b o e n (λz=>(Qqy.mp (I.stkSub b z)).elim f hb) hc) (λb o _ _ hc e n=>u.any e n hc) (λb o hc e n=>u.free b o e n hc) (λb o hc e=>u.there b o e hc) u.tups u.frzs u.tbls (λm' j=>by
  obtain⟨o',g,h,a,r'⟩:=j;rw[i]at a; cases a
  exact⟨_,g,h,f,r'⟩) hok k
def Inv.turned(I:Inv X pins σ H s)(k:∀b o,b≠it->s.heap.get? b=Y o->h'.get? b=Y o)(g:H it=B)(d:it≠X.env.locals)(l:it∈X.ex\/X.s₀.heap.objs.size<=it)(j:∀x c,X.env.cells.lookup x=Y c->c≠it)(i:∀p∈X.pn++pins,p.1≠it):Inv X pins σ H { s with heap:=h',toks:=t' }:=by
 have a:∀b u,H b=Y u->b≠it:=λb u e z=>by rw[z,g]at e; cases e
 refine I.step (ch:=[it]) (λb hb=>?_) (λb o _ _ hc e _=>k b o (λz=>hc (by simp[z])) e) (λb o _ _ hc e _=>⟨o.slots,k b o (λz=>hc (by simp[z])) e⟩) (λ_ _ _ _ n=>n)
  (λb o hc e=>⟨o,k b o (λz=>hc (by simp[z])) e⟩) (λ_ _ e=>e) (λ_ _ _ e=>e) (λb ps e=>⟨#[],by rw[e]; simp⟩) (λm h=>?_) (λb u e=>?_) I.bare
 ·have e:b=it:=by simpa using hb
  subst e;exact⟨l,d,j,i⟩
 ·obtain⟨o,es,t,f,r⟩:=h;exact⟨o,es,t,k _ o (Ne.symm d) f,r⟩
 ·refine(I.hok b u e).stay (λc v hc q=>k c v ?_ q) (λ_ q=>q) λ_ _ q=>q;rcases hc with z|z
  ·rw[z]; exact a b u e
  ·exact a c _ z
def Inv.tok(I:Inv X pins σ H s)(t):Inv X pins σ H { s with toks:=t }:=I.un Un.refl I.hok
theorem Inv.kept(I:Inv X pins σ H s)(k:∀b u,s.heap.get? b=Y u->h'.get? b=Y u):Inv X pins σ H { s with heap:=h',toks:=t' }:=I.un (Un.kept k) (I.hok.kept k)
theorem Inv.laid(I:Inv X pins σ H s)(k:∀b u,s.heap.get? b=Y u->h'.get? b=Y u)(c:s.heap.objs.size<=a)(new:ObjOk X.prog X.w (upd H a o) h' a o):
  Inv X pins σ (upd H a o) { s with heap:=h',toks:=t' }:=I.un (Un.laid k c (I.hok.fresh c)) (I.hok.laid k c new)
theorem Inv.write(I:Inv X pins σ H s)(c:Mut (H x))(d:e=x\/H e=Y (.own x))(k:∀b u,b≠e->s.heap.get? b=Y u->h'.get? b=Y u)(a:∃u,h'.get? e=Y u)(new:ObjOk X.prog X.w (upd H x o) h' x o):Inv X pins σ (upd H x o) { s with heap:=h',toks:=t' }:=I.un (Un.write c d k a) (I.hok.write c d k a new)
def Inv.pins_of(I:Inv X pins σ H s)(h:∀p∈a,s.heap.get? p.1=Y p.2/\H p.1=B/\p.1≠X.env.locals/\p.1 ∉ X.fs/\∀v,p.2.data≠.cell v):Inv X a σ H s:=
 ⟨I.ok,I.os,I.bare,I.base,I.loc,I.cell,I.free,I.freeC,λp b=>(Qqi.mp b).elim (λz=>I.pin p (Qzz _ z)) (h p),I.hok,I.len⟩
def qav{N:L Y4}(c:N.Nodup){i:Y0}(a:N[i]?=Y x)(b:N[j]?=Y x):i=j:=by
 obtain⟨h1,e⟩:=Qqk.mp a;obtain⟨h2,d⟩:=Qqk.mp b;exact(List.getElem_inj c).mp (e.trans d.symm)
def qvr(I:Inv X pins σ H s)(hN:X.N.Nodup)(hi:X.N[i]?=Y x)(g:Loc X.env.scope x)(r:RelV v u)(h:∀s',Inv X pins (σ.set i (Y v)) H s'->(∃a,Heap.SameBut a s.heap s'.heap/\(a=X.env.locals\/X.env.cells.lookup x=Y a))->Q () s')(hf:X.fn x=O\/X.env.scope.names.lookup x=Y .local):wpAny M A (storeName X.env x u) Q E s:=by
 obtain⟨m,hn,hl⟩:=id I.loc;have G:(X.env.scope.kind==.class||(X.env.scope.kind==.module&&X.env.locals != X.env.globals))=false:=by rw[I.ok.kind]; rfl
 have w:i<σ.length:=by rw[I.len]; exact(Qqk.mp hi).1
 have cne:=I.cne;have tracked:∀{a:Y7}{h':Heap},(∃o,s.heap.get? a=Y o/\H a=B)->Heap.SameBut a s.heap h'->HOk X.prog X.w H h':=λ{a h'} ha hs b ob e=>by
  obtain⟨_,_,l⟩:=ha;refine(I.hok b ob e).stay (λc P hc q=>(hs.2 c ?_).trans q) (λ_ q=>q) λ_ _ q=>q;rintro rfl;rcases hc with rfl|hc
  ·rw[l]at e; cases e
  ·rw[l]at hc; cases hc
 rcases g with hk|hk
 ·refine wpAny_storeName_local hk hn (λh' a1 hs=>?_) G;obtain⟨oL,_,_,a0,_⟩:=id hn;refine h _ ⟨I.ok,I.os,I.bare,⟨λb o e n hb g=>?_,λb o e n hb g=>?_,I.base.free,λb o e g=>?_,I.base.tups,I.base.frzs,I.base.tbls⟩,⟨_,a1,λj y S f t e3=>?_⟩,λy c e=>?_,I.free,I.freeC,λp W=>?_,tracked ⟨oL,a0,I.free⟩ hs,by simpa using I.len⟩ ⟨_,hs,.inl rfl⟩
  ·exact(hs.2 b (Qq4 (Qq6 (Qqf e) I.ok.above))).trans (I.base.keep b o e n hb g)
  ·obtain⟨sl,f⟩:=I.base.slot b o e n hb g;exact⟨sl,(hs.2 b (Qq4 (Qq6 (Qqf e) I.ok.above))).trans f⟩
  ·obtain⟨o',f⟩:=I.base.there b o e g;exact⟨o',(hs.2 b (Qq4 (Qq6 (Qqf e) I.ok.above))).trans f⟩
  ·by_cases hj:j=i
   ·subst hj;rw[hi]at f; cases f;rw[Qq5 w]at t;cases t;exact⟨u,r,.inl ⟨hk,by simp⟩⟩
   ·rw[Qqr (Ne.symm hj)]at t;obtain⟨T,r',q⟩:=hl j y S f t e3;refine⟨T,r',?_⟩;rcases q with⟨k,e⟩|⟨k,c,e,z⟩
    ·refine .inl ⟨k,?_⟩;have:y≠x:=λe=>hj (qav hN f (e▸hi));simp[this,e]
    ·exact .inr ⟨k,c,e,z.sameBut hs (cne y c e)⟩
  ·obtain⟨P,z⟩:=I.cell y c e;exact⟨P,z.sameBut hs (cne y c e)⟩
  ·obtain⟨e,n,ne,U,d⟩:=I.pin p W;exact⟨(hs.2 p.1 ne).trans e,n,ne,U,d⟩
 ·have C:X.fn x=true:=by
   rcases hf with z|z
   ·exact z
   ·rw[z]at hk; cases hk
  obtain⟨c,hc⟩:=I.ok.has x (.inl hk);obtain⟨P,z⟩:=I.cell x c hc;refine wpAny_storeName_cell I.ok.kind hk hc z (λh' N hs=>?_);obtain⟨oc,F,D⟩:=id z;refine h { s with heap:=h' } ⟨I.ok,I.os,I.bare,⟨λb o e n hb g=>?_,λb o e n hb g=>?_,I.base.free,λb o e g=>?_,I.base.tups,I.base.frzs,I.base.tbls⟩,⟨m,hn.sameBut hs (Ne.symm (cne x c hc)),λj y S f t e3=>?_⟩,λy R e=>?_,I.free,I.freeC,λp W=>?_,tracked ⟨oc,F,I.freeC x c hc⟩ hs,by simpa using I.len⟩ ⟨c,hs,.inr hc⟩
  ·exact(hs.2 b (Qq4 (Qq6 (Qqf e) (I.ok.cab x c C hc)))).trans (I.base.keep b o e n hb g)
  ·obtain⟨sl,f⟩:=I.base.slot b o e n hb g;exact⟨sl,(hs.2 b (Qq4 (Qq6 (Qqf e) (I.ok.cab x c C hc)))).trans f⟩
  ·obtain⟨o',f⟩:=I.base.there b o e g;exact⟨o',(hs.2 b (Qq4 (Qq6 (Qqf e) (I.ok.cab x c C hc)))).trans f⟩
  ·by_cases hj:j=i
   ·subst hj;rw[hi]at f; cases f;rw[Qq5 w]at t;cases t;exact⟨u,r,.inr ⟨.inl hk,c,hc,N⟩⟩
   ·rw[Qqr (Ne.symm hj)]at t;obtain⟨T,r',q⟩:=hl j y S f t e3;refine⟨T,r',?_⟩;rcases q with q|⟨k,R,e,z'⟩
    ·exact .inl q
    ·refine .inr ⟨k,R,e,z'.sameBut hs ?_⟩;rintro rfl;exact hj (qav hN f (I.ok.inj _ _ _ e hc▸hi))
  ·by_cases K:R=c
   ·subst K; exact⟨_,N⟩
   ·obtain⟨w2,z2⟩:=I.cell y R e;exact⟨w2,z2.sameBut hs K⟩
  ·obtain⟨e,n,ne,U,d⟩:=I.pin p W;refine⟨(hs.2 p.1 ?_).trans e,n,ne,U,d⟩;intro q;rw[q,F]at e;have q':=Option.some.inj e;exact d P (by rw[<- q']; exact D)
def qyu(I:Inv X pins σ H s)(b:X.N.Nodup)(hi:X.N[i]?=Y x)(a:Loc X.env.scope x)(r:RelV v u)(h:∀s',Inv X pins (σ.set i (Y v)) H s'->Q () s')(hf:X.fn x=O\/X.env.scope.names.lookup x=Y .local):wpAny M A (storeName X.env x u) Q E s:=
 qvr I b hi a r (λs' c _=>h s' c) hf
def Inv.call'(I:Inv X pins σ H s)(f:s'.os=s.os)(u:Un (frs X.stack) ch H H' s.heap s'.heap)(hok:HOk X.prog X.w H' s'.heap)(g:Zn s'.gens)(a:∀b∈ch,(b∈X.ex\/X.s₀.heap.objs.size<=b)/\b≠X.env.locals/\(∀x c,X.env.cells.lookup x=Y c->c≠b)/\∀p∈X.pn++pins,p.1≠b):Inv X pins σ H' s':=by
 obtain⟨h',h,i,d,o'⟩:=s';have e:=f;subst e;exact I.call u hok g a
end
abbrev XK:=Y8->Y2 Y7->Hp->Prop
abbrev St:=L (Y2 V)
abbrev VK:=V->Hp->Prop
abbrev TE:=St->Hp->VK->Prop
abbrev TT:=St->Hp->(Ya->Hp->Prop)->Prop
abbrev TA:=St->Hp->(L V->Hp->Prop)->Prop
structure Ends where
 nx:St->Hp->Prop
 rt:VK
 bk:St->Hp->Prop:=λ_ _=>False
 ct:St->Hp->Prop:=λ_ _=>False
abbrev TS:=Ends->St->Hp->Prop
def EP(X:Cx)(pins:L (Y7×Obj))(σ:St)(Q:VK)(u:Y8)(s':Qz):Prop:=∃v H',Inv X pins σ H' s'/\RelV v u/\Q v H'
def TP(X:Cx)(pins:L (Y7×Obj))(σ:St)(Q:Ya->Hp->Prop)(b:Ya)(s':Qz):Prop:=∃H',Inv X pins σ H' s'/\Q b H'
def AP(X:Cx)(pins:L (Y7×Obj))(σ:St)(Q:L V->Hp->Prop)(us:L Y8)(s':Qz):Prop:=∃vs H',Inv X pins σ H' s'/\Vals vs us/\Q vs H'
def SP(X:Cx)(pins:L (Y7×Obj))(D:Ends)(f:Flow)(s':Qz):Prop:=
 match f with
 |.next=>∃σ' H',Inv X pins σ' H' s'/\D.nx σ' H'
 |.brk=>∃σ' H',Inv X pins σ' H' s'/\D.bk σ' H'
 |.cont=>∃σ' H',Inv X pins σ' H' s'/\D.ct σ' H'
 |.ret u=>∃v σ' H',Inv X pins σ' H' s'/\RelV v u/\D.rt v H'
def PE(X:Cx)(e:Expr)(t:TE):Prop:=
 ∀(pins:L (Y7×Obj)) (s:Qz) (σ:St) (H:Hp) (Q:VK),Inv X pins σ H s->t σ H Q->wpAny ?d X.A (Qw e X.env) (EP X pins σ Q) X.xe s
def PT(X:Cx)(e:Expr)(t:TT):Prop:=
 ∀(pins:L (Y7×Obj)) (s:Qz) (σ:St) (H:Hp) (Q:Ya->Hp->Prop),Inv X pins σ H s->t σ H Q->wpAny ?d X.A (isTrue e X.env (Qw e X.env)) (TP X pins σ Q) X.xe s
def PW(X:Cx)(e:Expr)(t:TT):Prop:=
 ∀(whole:Sem Y8) (pins:L (Y7×Obj)) (s:Qz) (σ:St) (H:Hp) (Q:Ya->Hp->Prop),Inv X pins σ H s->t σ H Q->wpAny ?d X.A (isTrue e X.env whole) (TP X pins σ Q) X.xe s
def PW.pt(h:PW X e t):PT X e t:=h _
def PA(X:Cx)(es:L Expr)(t:TA):Prop:=
 ∀(pos:Pos) (pins:L (Y7×Obj)) (s:Qz) (σ:St) (H:Hp) (Q:L V->Hp->Prop),Inv X pins σ H s->t σ H Q->wpAny ?d X.A (spliced (backTo pos (starEach es X.env))) (AP X pins σ Q) X.xe s
def PS(X:Cx)(st:Stmt)(t:TS):Prop:=
 ∀(pins:L (Y7×Obj)) (s:Qz) (σ:St) (H:Hp) (D:Ends),Inv X pins σ H s->t D σ H->wpAny ?d X.A (exec st X.env) (SP X pins D) X.xe s
def PSs(X:Cx)(st:L Stmt)(t:TS):Prop:=
 ∀(pins:L (Y7×Obj)) (s:Qz) (σ:St) (H:Hp) (D:Ends),Inv X pins σ H s->t D σ H->wpAny ?d X.A (execs st X.env) (SP X pins D) X.xe s
def thn{t:Sem α}{Q b:α->Qz->Prop}(h:wpAny M A t Q E s)(c:∀a s,Q a s->b a s):wpAny M A t b E s:=Qh h c λ_ _ x=>x
section
def bin(p:PE X a j)(hb:PE X b tb){R:V->V->Hp->Prop}(I:Inv X c d H s)(h:j d H λx H1=>tb d H1 λy H2=>R x y H2){Q:α->Qz->Prop}{f:Y8->Y8->Sem α}(hf:∀v u i x y H2,Inv X c d H2 i->RelV x v->RelV y u->R x y H2->wpAny ?d X.A (f v u) Q X.xe i):
  wpAny ?d X.A (Qw a X.env) (λv g=>wpAny ?d X.A (Qw b X.env) (λu e=>wpAny ?d X.A (f v u) Q X.xe e) X.xe g) X.xe s:=by
 refine thn (p c s d H _ I h) λv k ⟨x,H1,r,m,o⟩=>?_;refine thn (hb c k d H1 _ r o) λu i ⟨y,H2,q,l,n⟩=>?_;exact hf v u i x y H2 q m l n
noncomputable def tVar(i:Y0):TE:=λσ H Q=>∃v,σ[i]?=Y (Y v)/\Q v H
noncomputable def tC(v:V):TE:=λ_ H Q=>Q v H
def pe_var(j:X.N[i]?=Y x)(hv:Vis X.env.scope x)(hd:(x==("__debug__" : Y4))=false:=by decide)(d:(x==("__classdict__" : Y4))=false:=by decide):PE X (.Name x pos) (tVar i):=by
 intro pins s σ H Q I h;obtain⟨v,e,h⟩:=h;obtain⟨m,hn,g⟩:=I.loc;obtain⟨u,r,l⟩:=g i x v j e hv;have b:EP X pins σ Q u s:=⟨v,H,I,r,h⟩
 rcases l with⟨hk,f⟩|⟨hk,c,hc,a⟩
 ·exact wpAny_Name (wpAny_loadName_local I.ok.kind hk hn f b) hd
 ·rcases hk with hk|hk
  ·exact wpAny_Name (wpAny_loadName_cell I.ok.kind hk hc a b) hd
  ·exact wpAny_Name (wpAny_loadName_free I.ok.kind hk hc a b d) hd
def pe_int{i j pos}:PE X (.Constant (.int i) j pos) (tC (.int i)):=λ_ _ _ H _ I h=>wpAny_Constant_int ⟨.int i,H,I.tok _,⟨_,rfl⟩,h⟩
def pe_bl{b j pos}:PE X (.Constant (.bool b) j pos) (tC (.bl b)):=λ_ _ _ H _ I h=>Constant_bool ⟨.bl b,H,I,rfl,h⟩
def pe_non{j pos}:PE X (.Constant .none j pos) (tC .non):=λ_ _ _ H _ I h=>Constant_none ⟨.non,H,I,rfl,h⟩
def pe_str{x j pos}:PE X (.Constant (.str x) j pos) (tC (.str x)):=λ_ _ _ H _ I h=>Calls.Constant_str ⟨.str x,H,I.tok _,⟨_,rfl⟩,h⟩
def Gl(X:Cx)(x:Y4):Prop:=X.env.kindOf x=Y .globalImplicit
def qyy(I:Inv X a b H s)(d:Gl X x)(c:X.mg x=Y u)(h:Q u s)(hd:(x==("__debug__" : Y4))=false:=by decide):wpAny ?d X.A (Qw (.Name x pos) X.env) Q E s:=
 Calls.Name_function_global I.ok.kind d (Calls.loadGlobal_global (by rw[I.ok.glob]; exact I.mod.glob.keeps I.bk) c h) hd
def qxs(I:Inv X a b H s)(e:Gl X x)(d:X.mg x=B)(hv:Qc x=Y u)(h:Q u s)(c:x ≠ "__name__":=by decide)(hd:(x==("__debug__" : Y4))=false:=by decide):wpAny ?d X.A (Qw (.Name x pos) X.env) Q E s:=by
 obtain⟨f,h1,h2⟩:=I.mod.blt;exact Calls.Name_function_global I.ok.kind e (Calls.loadGlobal_builtin (by rw[I.ok.glob]; exact I.mod.glob.keeps I.bk) d (by rw[I.ok.blt]; exact h1.keeps I.bk) ((h2 x c).trans hv) h) hd
def qyx(b:Gl X x)(a:X.mg x=Y u)(r:RelV v u)(hd:(x==("__debug__" : Y4))=false:=by decide):PE X (.Name x pos) (tC v):=
 λ_ _ _ H _ I h=>qyy I b a ⟨v,H,I,r,h⟩ hd
def qjg(c:Gl X x)(b:X.mg x=B)(hv:Qc x=Y u)(r:RelV v u)(a:x ≠ "__name__":=by decide)(hd:(x==("__debug__" : Y4))=false:=by decide):PE X (.Name x pos) (tC v):=
 λ_ _ _ H _ I h=>qxs I c b hv ⟨v,H,I,r,h⟩ a hd
def PC(X:Cx)(op:CmpOp)(a b:Expr)(t:TE):Prop:=
 ∀(pins:L (Y7×Obj)) (s:Qz) (σ:St) (H:Hp) (Q:VK),Inv X pins σ H s->t σ H Q->
  wpAny ?d X.A (Qw a X.env) (λv s₁=>wpAny ?d X.A (Qw b X.env) (λu s₂=>wpAny ?d X.A (Qg op v u) (EP X pins σ Q) X.xe s₂) X.xe s₁) X.xe s
noncomputable def tB(t:TE):TT:=λσ H Q=>t σ H λx H1=>∃c,x=.bl c/\Q c H1
def qh9(h:PC X c a b t)(e:Zh c b=Y5):PE X (.Compare a [c] [b] pos) t:=λpins s σ H Q I d=>wpAny_Compare1 (h pins s σ H Q I d) e
def qh4(h:PC X e a b t)(f:Zh e b=Y5):PT X (.Compare a [e] [b] pos) (tB t):=by
 intro pins s σ H Q I j;refine wpAny_isTrue_Compare1 (thn (h pins s σ H _ I j) λv n f=>thn f λu m h2=>thn h2 λc l ⟨x,H1,k,g,i⟩=>?_) f;obtain⟨d,rfl,q⟩:=i;cases g;exact Qe ⟨H1,k,q⟩
noncomputable def tAnd(t u:TT):TT:=λσ H Q=>t σ H λc H1=>if c=O then u σ H1 Q else Q Y5 H1
noncomputable def tOr(t u:TT):TT:=λσ H Q=>t σ H λc H1=>if c=O then Q O H1 else u σ H1 Q
noncomputable def tNot(t:TT):TT:=λσ H Q=>t σ H λc H1=>Q (!c) H1
def qls(d:PT X a tA):PW X (.BoolOp .And [a] pos) tA:=by
 intro f pins s σ H Q I h;refine isTrue_and (thn (d pins s σ H Q I h) λc g e=>?_)
 cases c with
 |true=>exact isTrue_and_nil e
 |false=>exact e
def pw_or1(d:PT X a tA):PW X (.BoolOp .Or [a] pos) tA:=by
 intro f pins s σ H Q I h;refine isTrue_or (thn (d pins s σ H Q I h) λc g e=>?_)
 cases c with
 |false=>exact isTrue_or_nil e
 |true=>exact e
def pw_and(i:PT X a tA)(hb:PW X (.BoolOp .And (b::rest) pos) tB'):PW X (.BoolOp .And (a::b::rest) pos) (tAnd tA tB'):=by
 intro f pins s σ H Q I h;refine isTrue_and (thn (i pins s σ H _ I h) λc g ⟨H1,e,d⟩=>?_)
 cases c with
 |true=>exact hb f pins g σ H1 Q e d
 |false=>exact⟨H1,e,d⟩
def pw_or(i:PT X a tA)(hb:PW X (.BoolOp .Or (b::rest) pos) tB'):PW X (.BoolOp .Or (a::b::rest) pos) (tOr tA tB'):=by
 intro f pins s σ H Q I h;refine isTrue_or (thn (i pins s σ H _ I h) λc g ⟨H1,e,d⟩=>?_)
 cases c with
 |true=>exact⟨H1,e,d⟩
 |false=>exact hb f pins g σ H1 Q e d
def pt_not(d:PT X a tA):PT X (.UnaryOp .Not a pos) (tNot tA):=by
 intro pins s σ H Q I h;exact isTrue_not (d pins s σ H (λc H1=>Q (!c) H1) I h)
noncomputable def tAndV(ta tb:TE):TE:=λσ H Q=>ta σ H λx H1=>∃c,x=.bl c/\if c=O then tb σ H1 Q else Q (.bl Y5) H1
noncomputable def tOrV(ta tb:TE):TE:=λσ H Q=>ta σ H λx H1=>∃c,x=.bl c/\if c=O then Q (.bl O) H1 else tb σ H1 Q
noncomputable def tNotV(ta:TE):TE:=λσ H Q=>ta σ H λx H1=>∃c,x=.bl c/\Q (.bl (!c)) H1
def qh8{op}(h:PE X a t):PE X (.BoolOp op [a] pos) t:=λpins s σ H Q I c=>BoolOp_one (h pins s σ H Q I c)
def pe_and(i:PE X a ta)(hb:PE X (.BoolOp .And (b::rest) pos) tb):PE X (.BoolOp .And (a::b::rest) pos) (tAndV ta tb):=by
 intro pins s σ H Q I h;refine BoolOp_and (thn (i pins s σ H _ I h) λv f ⟨x,H1,e,g,d⟩=>?_);obtain⟨c,rfl,d⟩:=d;cases g;refine Qe ?_
 cases c with
 |true=>exact hb pins f σ H1 Q e d
 |false=>exact⟨.bl Y5,H1,e,rfl,d⟩
def pe_or(i:PE X a ta)(hb:PE X (.BoolOp .Or (b::rest) pos) tb):PE X (.BoolOp .Or (a::b::rest) pos) (tOrV ta tb):=by
 intro pins s σ H Q I h;refine BoolOp_or (thn (i pins s σ H _ I h) λv f ⟨x,H1,e,g,d⟩=>?_);obtain⟨c,rfl,d⟩:=d;cases g;refine Qe ?_
 cases c with
 |false=>exact hb pins f σ H1 Q e d
 |true=>exact⟨.bl O,H1,e,rfl,d⟩
def pe_not(f:PE X a ta):PE X (.UnaryOp .Not a pos) (tNotV ta):=by
 intro pins s σ H Q I h;refine UnaryOp_ (thn (f pins s σ H _ I h) λv i ⟨x,H1,g,e,d⟩=>?_);obtain⟨c,rfl,d⟩:=d;cases e;exact not_of (Qe ⟨.bl (!c),H1,g,rfl,d⟩)
end
def SqL(K:Qqq)(H:Hp)(a:Y7)(xs:L V):Prop:=
 Rd H a (.lst xs)\/
  ∃(o:Obj) (its:Array Y8) (n:Y0),K.lookup a=Y o/\o.cls=.type "list"/\o.dict=B/\o.data=.seq its n/\its.size<=sizeLine/\Vals xs its.toList
def SqT(K:Qqq)(H:Hp)(a:Y7)(xs:L V):Prop:=
 Rd H a (.tup xs)\/
  ∃(o:Obj) (its:Array Y8) (n:Y0),K.lookup a=Y o/\o.cls=.type "tuple"/\o.data=.seq its n/\its.size<=sizeLine/\Vals xs its.toList
noncomputable def absV:Y8->Y2 V
 |.none=>Y .non
 |.bool b=>Y (.bl b)
 |.int i _=>Y (.int i)
 |.str x _=>Y (.str x)
 |.bytes b _=>Y (.byt b)
 |.float b _=>Y (.flt b)
 |.ref a=>Y (.ref a)
 |.type n=>Y (.ty n)
 |_=>B
def RelV.abs(r:RelV x u):absV u=Y x:=by
 cases x with
 |non=>cases r; rfl
 |bl _=>cases r; rfl
 |int _=>obtain⟨t,rfl⟩:=r; rfl
 |str _=>obtain⟨t,rfl⟩:=r; rfl
 |byt _=>obtain⟨t,rfl⟩:=r; rfl
 |flt _=>obtain⟨t,rfl⟩:=r; rfl
 |ref _=>cases r; rfl
 |ty _=>cases r; rfl
theorem RelV.inj(r:RelV x u)(q:RelV y u):x=y:=Option.some.inj (r.abs.symm.trans q.abs)
theorem Vals.inj:∀{xs ys}{us},Vals xs us->Vals ys us->xs=ys
 |_,_,_,.nil,.nil=>rfl
 |_,_,_,.cons r t,.cons r' t'=>by rw[r.inj r',Vals.inj t t']
section
def SqL.of{K:Qqq}(h:H a=Y (.lst xs)):SqL K H a xs:=.inl (.inl h)
def SqT.of{K:Qqq}(h:H a=Y (.tup xs)):SqT K H a xs:=.inl (.inl h)
def Inv.list(I:Inv X pins σ H s)(h:SqL X.K H a xs):∃b:L Y8,Vals xs b/\PlainL s.heap a b.toArray/\xs.length<=sizeLine:=by
 rcases h with h|⟨o,b,n,hk,hc,hd,hs,c,r⟩
 ·obtain⟨z,b,n,r,e⟩:=h.ok I.hok;exact⟨b,r,⟨_,n,e,rfl,rfl,rfl⟩,z⟩
 ·refine⟨b.toList,r,⟨o,n,I.kIn a o hk,hc,hd,by simpa using hs⟩,?_⟩;have e:=r.length;simp only[Qzu]at e;omega
def Inv.tuple(I:Inv X pins σ H s)(h:SqT X.K H a xs):∃b:L Y8,Vals xs b/\IsTup s.heap a b.toArray/\xs.length<=sizeLine:=by
 rcases h with h|⟨o,b,n,hk,hc,hs,c,r⟩
 ·obtain⟨z,b,r,p⟩:=h.ok I.hok;exact⟨b,r,p,z⟩
 ·refine⟨b.toList,r,⟨o,I.kIn a o hk,hc,n,by simpa using hs⟩,?_⟩;have e:=r.length;simp only[Qzu]at e;omega
def Inv.list_inj(I:Inv X pins σ H s)(h:SqL X.K H a xs)(h':SqL X.K H a ys):xs=ys:=by
 obtain⟨b,r,⟨o,n,e,_,_,d⟩,_⟩:=I.list h;obtain⟨its',r',⟨o',i,c,_,_,f⟩,_⟩:=I.list h';rw[e]at c; cases c;rw[d]at f;injection f with g _;have:b=its':=by simpa using congrArg Array.toList g
 subst this;exact r.inj r'
def Inv.tuple_inj(I:Inv X pins σ H s)(h:SqT X.K H a xs)(h':SqT X.K H a ys):xs=ys:=by
 obtain⟨b,r,⟨o,e,_,n,d⟩,_⟩:=I.tuple h;obtain⟨its',r',⟨o',c,_,i,f⟩,_⟩:=I.tuple h';rw[e]at c; cases c;rw[d]at f;injection f with g _;have:b=its':=by simpa using congrArg Array.toList g
 subst this;exact r.inj r'
end
noncomputable abbrev Cx.wish(X:Cx)(E:Y8->Qz->Prop):Cx:={ X with xe:=E }
noncomputable abbrev Cx.nox(X:Cx):Cx:=X.wish λ_ _=>False
theorem Cx.Ok.wish{X:Cx}(ok:X.Ok)(E:Y8->Qz->Prop):(X.wish E).Ok:=
 ⟨ok.mod,ok.kind,ok.glob,ok.blt,ok.above,ok.inj,ok.has,ok.cab,ok.hd,ok.frames,ok.stk,ok.exf,ok.bs,ok.bsz,ok.noex,ok.exfs,ok.funs,ok.frf⟩
def Cx.Ok.unwish{X:Cx}(ok:(X.wish E).Ok):X.Ok:=
 ⟨ok.mod,ok.kind,ok.glob,ok.blt,ok.above,ok.inj,ok.has,ok.cab,ok.hd,ok.frames,ok.stk,ok.exf,ok.bs,ok.bsz,ok.noex,ok.exfs,ok.funs,ok.frf⟩
section
theorem Inv.wish(I:Inv X pins σ H s)(E:Y8->Qz->Prop):Inv (X.wish E) pins σ H s:=⟨I.ok.wish E,I.os,I.bare,I.base,I.loc,I.cell,I.free,I.freeC,I.pin,I.hok,I.len⟩
theorem Inv.unwish(I:Inv (X.wish E) pins σ H s):Inv X pins σ H s:=⟨I.ok.unwish,I.os,I.bare,I.base,I.loc,I.cell,I.free,I.freeC,I.pin,I.hok,I.len⟩
theorem SP.unwish(h:SP (X.wish E) pins D f s'):SP X pins D f s':=by
 cases f with
 |next=>obtain⟨a,H',I,q⟩:=h; exact⟨a,H',I.unwish,q⟩
 |brk=>obtain⟨a,H',I,q⟩:=h; exact⟨a,H',I.unwish,q⟩
 |cont=>obtain⟨a,H',I,q⟩:=h; exact⟨a,H',I.unwish,q⟩
 |ret u=>obtain⟨v,a,H',I,r,q⟩:=h; exact⟨v,a,H',I.unwish,r,q⟩
theorem PSs.nox{st:L Stmt}(h:PSs X.nox st t):PSs X st t:=λpins s σ H D I a=>
 Qh (h pins s σ H D (I.wish _) a) (λ_ _ q=>q.unwish) λ_ _ z=>False.elim z
end
section
variable {X:Cx}{st:Stmt}{rest:L Stmt}{t u:TS}
noncomputable def tNext:TS:=λD σ H=>D.nx σ H
noncomputable def tSeq(t u:TS):TS:=λD σ H=>t { D with nx:=u D } σ H
def pss_nil:PSs X [] tNext:=λ_ _ σ H _ I h=>wpAny_execs_nil ⟨σ,H,I,h⟩
def qaz(d:PS X st t)(c:PSs X rest u):PSs X (st::rest) (tSeq t u):=by
 intro pins s σ H D I h;refine wpAny_execs_cons (thn (d pins s σ H { D with nx:=u D } I h) λf b q=>?_)
 cases f with
 |next=>
  obtain⟨a,H',g,q⟩:=q;exact c pins b a H' D g q
 |ret v=>exact q
 |brk=>exact q
 |cont=>exact q
def Inv.quiet(I:Inv X a b H s):interactive X.env=false:=by simp[interactive,I.ok.kind]
def ps_doc{x j pos pos'}:PS X (.Expr (.Constant (.str x) j pos) pos') tNext:=λ_ s σ H _ I h=>wpAny_Expr (Calls.Constant_str (show SP X _ _ .next { s with toks:=s.toks+1 } from⟨σ,H,I.tok _,h⟩)) I.quiet
noncomputable def tDrop(te:TE):TS:=λD σ H=>te σ H λ_ H1=>D.nx σ H1
def ql1(b:PE X e te)(hs:swapsWith e B pos.line X.env=pure Y5):PS X (.Expr e pos) (tDrop te):=by
 intro pins s σ H D I h;exact wpAny_Expr_any (thn (b pins s σ H _ I h) λv d ⟨x,H1,c,f,a⟩=>⟨σ,H1,c,a⟩) I.quiet hs
noncomputable def tRet(te:TE):TS:=λD σ H=>te σ H D.rt
def ps_ret(c:PE X e te):PS X (.Return (Y e) pos) (tRet te):=by
 intro pins s σ H D I h;exact wpAny_Return_some (thn (c pins s σ H _ I h) λv f ⟨x,H1,d,a,b⟩=>⟨x,σ,H1,d,a,b⟩)
noncomputable def tIfS(c:TT)(t u:TS):TS:=λD σ H=>c σ H λb H1=>if b=O then t D σ H1 else u D σ H1
def ps_if(hc:PT X c f)(k:PSs X a t)(hb:PSs X b u):PS X (.If c a b pos) (tIfS f t u):=by
 intro pins s σ H D I h;refine wpAny_If (thn (hc pins s σ H _ I h) λd g ⟨H1,j,i⟩=>?_)
 cases d with
 |true=>exact k pins g σ H1 D j i
 |false=>exact hb pins g σ H1 D j i
end
abbrev TG:=V->St->Hp->(St->Hp->Prop)->Prop
abbrev TGs:=L V->St->Hp->(St->Hp->Prop)->Prop
def PG(X:Cx)(target:Expr)(t:TG):Prop:=
 ∀(pins:L (Y7×Obj)) (s:Qz) (σ:St) (H:Hp) (v:V) (u:Y8) (Q:St->Hp->Prop),Inv X pins σ H s->RelV v u->t v σ H Q->
  wpAny ?d X.A (assign target X.env u) (λ_ s'=>∃σ' H',Inv X pins σ' H' s'/\Q σ' H') X.xe s
def PGs(X:Cx)(ts:L Expr)(t:TGs):Prop:=
 ∀(pins:L (Y7×Obj)) (s:Qz) (σ:St) (H:Hp) (vs:L V) (us:L Y8) (Q:St->Hp->Prop),Inv X pins σ H s->Vals vs us->t vs σ H Q->
  wpAny ?d X.A (assignInOrder ((Qu ts X.env).map (·.2)) us) (λ_ s'=>∃σ' H',Inv X pins σ' H' s'/\Q σ' H') X.xe s
abbrev TSet:=V->V->V->Hp->(Hp->Prop)->Prop
def PSet(X:Cx)(t:TSet):Prop:=
 ∀(pins:L (Y7×Obj)) (s:Qz) (σ:St) (H:Hp) (o i v:V) (ov iv u:Y8) (Q:Hp->Prop),Inv X pins σ H s->RelV o ov->RelV i iv->RelV v u->t o i v H Q->
  wpAny ?d X.A (setItem ov iv u) (λ_ s'=>∃H',Inv X pins σ H' s'/\Q H') X.xe s
section
noncomputable def qyf(i:Y0):TG:=λv σ H Q=>Q (σ.set i (Y v)) H
def qc9(b:X.N.Nodup)(hi:X.N[i]?=Y x)(a:Loc X.env.scope x)(hf:X.fn x=O\/X.env.scope.names.lookup x=Y .local):PG X (.Name x pos) (qyf i):=by
 intro pins s σ H v u Q I r h;exact wpAny_assign_Name (qyu I b hi a r (λs' c=>⟨_,H,c,h⟩) hf)
noncomputable def gNil:TGs:=λvs σ H Q=>vs=[]/\Q σ H
noncomputable def gCons(t:TG)(u:TGs):TGs:=λvs σ H Q=>∃v r,vs=v::r/\t v σ H λσ' H'=>u r σ' H' Q
def ql9:PGs X [] gNil:=by
 intro pins s σ H vs a Q I r h;obtain⟨e,h⟩:=h;subst e;cases r;exact assignInOrder_nil ⟨σ,H,I,h⟩
def qgf(g:PG X e t)(f:PGs X es u)(hs:(Qu (e::es) X.env).map (·.2)=assign e X.env::(Qu es X.env).map (·.2):=by rfl):PGs X (e::es) (gCons t u):=by
 intro pins s σ H vs l Q I r h;obtain⟨v,k,i,h⟩:=h;subst i
 cases r with
 |cons r c=>
  rw[hs];refine assignInOrder_cons (thn (g pins s σ H _ _ _ I r h) λ_ b ⟨a,H1,j,d⟩=>?_);exact f pins b a H1 _ _ Q j c d
noncomputable def gTup(K:Qqq)(n:Y0)(t:TGs):TG:=λv σ H Q=>∃a xs,v=.ref a/\SqT K H a xs/\xs.length=n/\t xs σ H Q
def pg_tup(hc:X.calm=O)(h:PGs X es t)(m:(Qu es X.env).length=n:=by rfl)(d:(Qu es X.env).findIdx? (·.1)=none:=by rfl):PG X (.Tuple es k pos) (gTup X.K n t):=by
 intro pins s σ H v u Q I r c;obtain⟨a,xs,q,l,p,c⟩:=c;subst q;cases r;obtain⟨g,f,j,x⟩:=I.tuple l;refine assign_Tuple_tuple (I.ok.hd hc) j (by simp[m,<- p,f.length]) d λh' i=>?_;have w:=I.kept (t':=s.toks) λb o e=>i b o (Qq4 (Qqf e)) e;exact h pins _ σ H xs _ Q w (by simpa using f) c
noncomputable def gSub(to ti:TE)(t:TSet):TG:=λv σ H Q=>to σ H λo H1=>ti σ H1 λi H2=>t o i v H2 λH3=>Q σ H3
def pg_sub(n:PE X o c)(hi:PE X i d)(hs:PSet X t)(p:∀v,assign (.Subscript o i pos) X.env v=(do
   let a <- Q5 [v] (Qw o X.env)
   let b <- Q5 [v,a] (Qw i X.env)
   Zo pos
   Q5 [v,a,b] (setItem a b v)
   release [v,a,b] []):=by intro _; rfl):PG X (.Subscript o i pos) (gSub c d t):=by
 intro pins s σ H v u Q I r h;rw[p];refine Qq (Qo (thn (n pins s σ H _ I h) λa f ⟨x,H1,z,j,m⟩=>?_));refine Qq (Qo (thn (hi pins f σ H1 _ z m) λb e ⟨y,H2,w,g,l⟩=>?_));refine Qq (wpAny_standAt (Qq (Qo (thn (hs pins e σ H2 x y v a b u _ w j g r l) λ_ C ⟨A,q,k⟩=>?_))));exact wpAny_release ⟨σ,A,q,k⟩
noncomputable def tAsg(te:TE)(g:TG):TS:=λD σ H=>te σ H λx H1=>g x σ H1 D.nx
def qh7(j:PE X e a)(i:PG X tg g)(hs:swapsWithSole [tg] e pos.line X.env=pure false:=by rfl)(f:swappedStores [tg] e X.env=pure none:=by rfl)(k:(Qu [tg] X.env).map (·.2)=[assign tg X.env]:=by rfl):PS X (.Assign [tg] e pos) (tAsg a g):=by
 intro pins s σ H D I h;refine wpAny_Assign_stores (thn (j pins s σ H _ I h) λv b ⟨x,H1,l,c,d⟩=>?_) hs f;rw[k];exact thn (i pins b σ H1 x v _ l c d) λ_ m q=>q
def qh5(j:X.N.Nodup)(hi:X.N[i]?=Y x)(f:Loc X.env.scope x)(g:PE X e b)(hs:swapsWith e (Y (.Name x a)) pos.line X.env=pure false:=by rfl)(hf:X.fn x=O\/X.env.scope.names.lookup x=Y .local):
  PS X (.Assign [.Name x a] e pos) (tAsg b (qyf i)):=by
 intro pins s σ H D I h;refine wpAny_Assign_Name (thn (g pins s σ H _ I h) λv n ⟨y,H1,l,c,d⟩=>?_) hs;exact qyu l j hi f c (λm k=>⟨_,H1,k,d⟩) hf
end
section
noncomputable def tWhile(c:TT)(tb:TS):TS:=λD σ H=>∃W:Y0->St->Hp->Prop,(∃m,W m σ H)/\∀m σ H,W m σ H->
 c σ H λb H1=>if b=O then ∃N:St->Hp->Prop,(∀σ' H',N σ' H'->∃m',m'<m/\W m' σ' H')/\tb { D with nx:=N,ct:=N,bk:=D.nx } σ H1 else D.nx σ H1
def qga(r:PassesOwn ?d X.A X.env X.xe)(hc:PT X c q)(hb:PSs X body tb):PS X (.While c body [] pos) (tWhile q tb):=by
 intro pins s σ H D I h;obtain⟨W,⟨z,w⟩,g⟩:=h;refine wpAny_While (codeAny_whileLoop (λn s'=>∃e H',Inv X pins e H' s'/\W n e H') ?_ z ⟨σ,H,I,w⟩);rintro n y ⟨d,H1,A,w1⟩;refine Qs r (thn (hc pins y d H1 _ A (g n d H1 w1)) λb x ⟨H2,u,k⟩=>?_)
 cases b with
 |true=>
  obtain⟨N,t,k⟩:=k;rw[Z8 rfl];refine Qs r (thn (hb pins x d H2 _ u k) λf C j=>?_)
  cases f with
  |next=>
   obtain⟨a,i,p,m⟩:=j;obtain⟨m',o,l⟩:=t a i m;exact⟨m',o,a,i,p,l⟩
  |cont=>
   obtain⟨a,i,p,m⟩:=j;obtain⟨m',o,l⟩:=t a i m;exact⟨m',o,a,i,p,l⟩
  |brk=>exact j
  |ret v=>exact j
 |false=>
  rw[Z7 Qqu];exact wpAny_execs_nil ⟨d,H2,u,k⟩
end
structure It where
 go:Y0->Hp->Prop
 yld:Y0->Hp->V->Hp->Prop
 stop:Y0->Hp->Prop
def FpOk(X:Cx)(pins:L (Y7×Obj))(H:Hp)(b:Y7):Prop:=
 H b=B/\b≠X.env.locals/\b ∉ X.fs/\(b∈X.ex\/X.s₀.heap.objs.size<=b)/\(∀x c,X.env.cells.lookup x=Y c->c≠b)/\∀p∈X.pn++pins,p.1≠b
def Inv.fpOk(I:Inv X a d H s)(hb:s.heap.objs.size<=b)(g:H' b=B):FpOk X a H' b:=by
 refine⟨g,Qxb (Qq6 I.lt hb),I.nofs hb,.inr (Qz3 I.sz hb),λx c e z=>?_,λp f z=>?_⟩
 ·obtain⟨v,q⟩:=I.cell x c e;exact absurd (Qq6 q.lt (by rw[z]; exact hb)) (Qxz _)
 ·exact absurd (Qq6 (Qqf (I.pin p f).1) (by rw[z]; exact hb)) (Qxz _)
structure Turn (P:Program) (w:Qj) (K:Qqq) (tg:Expr) (Jq:It) (fp:L Y7) (it:Y7) (tn:Y0->Heap->Prop):Prop where
 mem:it∈fp
 obj:∀i h,tn i h->∀b∈fp,∃o,h.get? b=Y o/\∀v,o.data≠.cell v
 keep:∀i h h',tn i h->(∀b∈fp,∀o,h.get? b=Y o->h'.get? b=Y o)->tn i h'
 item:∀(X:Cx),X.prog=P->X.w=w->X.K=K->X.calm=O->∀(i:Y0) (pins:L (Y7×Obj)) (s:Qz) (σ:St) (H:Hp) (E:Y8->Qz->Prop),Inv X pins σ H s->(∀b∈fp,FpOk X pins H b)->tn i s.heap->Jq.go i H->
  wpAny (model P w) X.A (pyNext (.ref it)) (λr s1=>∃u,r=Y u/\
   wpAny (model P w) X.A (Zp tg (.ref it) u) (λ_ s2=>∃x H',Inv X pins σ H' s2/\RelV x u/\Jq.yld i H x H'/\tn (i+1) s2.heap/\∀b∈fp,H' b=B) E s1) E s
 done:∀(X:Cx),X.prog=P->X.w=w->X.K=K->X.calm=O->∀(i:Y0) (pins:L (Y7×Obj)) (s:Qz) (σ:St) (H:Hp) (E:Y8->Qz->Prop),Inv X pins σ H s->(∀b∈fp,FpOk X pins H b)->tn i s.heap->Jq.stop i H->
  wpAny (model P w) X.A (pyNext (.ref it)) (λr s1=>r=B/\Inv X pins σ H s1) E s
 self:∀(A:Qk) (i:Y0) (s:Qz) (Q:Y8->Qz->Prop) (E:Y8->Qz->Prop),tn i s.heap->Q (.ref it) s->wpAny (model P w) A (pyIter (.ref it)) Q E s
abbrev TI:=St->Hp->(It->Hp->Prop)->Prop
def PIE(X:Cx)(pins:L (Y7×Obj))(σ:St)(tg:Expr)(R:It->Hp->Prop)(itv:Y8)(s2:Qz):Prop:=
 ∃(it:Y7) (fp:L Y7) (tn:Y0->Heap->Prop) (Jq:It) (H':Hp),itv=.ref it/\Inv X pins σ H' s2/\Turn X.prog X.w X.K tg Jq fp it tn/\tn 0 s2.heap/\(∀b∈fp,FpOk X pins H' b)/\R Jq H'
def PI(X:Cx)(tg iter:Expr)(wi:TI):Prop:=
 ∀(pins:L (Y7×Obj)) (s:Qz) (σ:St) (H:Hp) (R:It->Hp->Prop),Inv X pins σ H s->wi σ H R->
  wpAny ?d X.A (Qw iter X.env) (λv s1=>wpAny ?d X.A (pyIter v) (PIE X pins σ tg R) X.xe s1) X.xe s
def qew(b:s.heap.get? it=Y o)(hc:o.cls=.type n)(hd:o.data=.fields vs)(c:["enumerate","zip","dict_itemiterator","dict_reverseitemiterator","odict_iterator","itertools.zip_longest","itertools.pairwise"].contains n=Y5)(a:Q () s):wpAny M A (Zp tg (.ref it) u) Q E s:=by
 unfold Zp
 cases tg<;>first
  |exact Qx a
  |(cases u<;>first
    |exact Qx a
    |(refine Qq (wpAny_load b ?_)
      rw[hc,hd];show wpAny M A (if (["enumerate","zip","dict_itemiterator","dict_reverseitemiterator","odict_iterator","itertools.zip_longest","itertools.pairwise"].contains n&&vs[0]?==Y (rawInt _))=O then _ else _) Q E s;rw[Z7 (by intro h; rw[c,Bool.false_and]at h; cases h)]
      exact Qx a))
noncomputable def Itl(K:Qqq)(a:Y7):It:=
 ⟨λi H=>∃xs x,SqL K H a xs/\xs[i]?=Y x,λi H x H'=>H'=H/\∀xs,SqL K H a xs->xs[i]?=Y x,λi H=>∃xs,SqL K H a xs/\xs.length<=i⟩
noncomputable def Itt(K:Qqq)(a:Y7):It:=
 ⟨λi H=>∃xs x,SqT K H a xs/\xs[i]?=Y x,λi H x H'=>H'=H/\∀xs,SqT K H a xs->xs[i]?=Y x,λi H=>∃xs,SqT K H a xs/\xs.length<=i⟩
noncomputable def Itr(lo:J)(n:Y0):It:=⟨λi _=>i<n,λi H x H'=>H'=H/\x=.int (lo+i),λi _=>n<=i⟩
def qb5{K:Qqq}(a it):Turn P w K tg (Itl K a) [it] it (λi h=>h.IsListIter it a i) where
 mem:=by simp
 obj:=λi h st b hb=>by
  have e:b=it:=by simpa using hb
  subst e;obtain⟨o,e,c,d⟩:=st;exact⟨o,e,λv z=>by rw[d]at z; cases z⟩
 keep:=λi h h' st k=>st.at λo e=>k it (by simp) o e
 item:=by
  intro X n m q hc i pins s σ H E I hf st hg;subst n m q;obtain⟨xs,x,f,l⟩:=hg;obtain⟨j,g,p,G⟩:=I.list f;obtain⟨u,Q,F⟩:=g.get l;obtain⟨C,A,R,y,t,r⟩:=hf it (by simp);refine wpAny_pyNext_list_item st p.isList (x:=u) (by simpa using Q) λh' st' D=>?_;have T:=I.turned (t':=s.toks) (λb o hb e=>(D.2 b hb).trans e) C A y t r;obtain⟨o,e,c,d⟩:=id st';exact⟨u,rfl,qew e c d (by decide) ⟨x,H,T,F,⟨rfl,λys N=>by rw[I.list_inj N f]; exact l⟩,st',λb hb=>(hf b hb).1⟩⟩
 done:=by
  intro X n m q hc i pins s σ H E I hf st hg;subst n m q;obtain⟨xs,f,l⟩:=hg;obtain⟨j,g,p,G⟩:=I.list f;obtain⟨C,A,R,y,t,r⟩:=hf it (by simp);have U:=g.length;exact wpAny_pyNext_list_end (I.ok.hd hc) st p.isList (by simp; omega) λh' S=>⟨rfl,I.turned (λb o hb e=>S b o hb e) C A y t r⟩
 self:=λ_ _ _ _ _ st h=>wpAny_pyIter_listiter st h
def qa3{K:Qqq}(a it):Turn P w K tg (Itt K a) [it] it (λi h=>h.IsTupleIter it a i) where
 mem:=by simp
 obj:=λi h st b hb=>by
  have e:b=it:=by simpa using hb
  subst e;obtain⟨o,e,c,d⟩:=st;exact⟨o,e,λv z=>by rw[d]at z; cases z⟩
 keep:=λi h h' st k=>st.at λo e=>k it (by simp) o e
 item:=by
  intro X n m q hc i pins s σ H E I hf st hg;subst n m q;obtain⟨xs,x,g,l⟩:=hg;obtain⟨f,j,p,G⟩:=I.tuple g;obtain⟨u,Q,F⟩:=j.get l;obtain⟨C,A,R,y,t,r⟩:=hf it (by simp);refine wpAny_pyNext_tuple_item st (p) (x:=u) (by simpa using Q) λh' st' D=>?_;have T:=I.turned (t':=s.toks) (λb o hb e=>(D.2 b hb).trans e) C A y t r;obtain⟨o,e,c,d⟩:=id st';exact⟨u,rfl,qew (s:={ s with heap:=h' }) e c d (by decide) ⟨x,H,T,F,⟨rfl,λys N=>by rw[I.tuple_inj N g]; exact l⟩,st',λb hb=>(hf b hb).1⟩⟩
 done:=by
  intro X n m q hc i pins s σ H E I hf st hg;subst n m q;obtain⟨xs,g,l⟩:=hg;obtain⟨f,j,p,G⟩:=I.tuple g;obtain⟨C,A,R,y,t,r⟩:=hf it (by simp);have U:=j.length;exact wpAny_pyNext_tuple_end (I.ok.hd hc) st (p) (by simp; omega) λh' S=>⟨rfl,I.turned (λb o hb e=>S b o hb e) C A y t r⟩
 self:=λ_ _ _ _ _ st h=>wpAny_pyIter_tupleiter st h
def qa4{K:Qqq}(it)(lo)(n):Turn P w K tg (Itr lo n) [it] it (λi h=>IsRangeIter h it (lo+(i:Y0)*1) ((n:J) - (i:Y0)) 1) where
 mem:=by simp
 obj:=λi h st b hb=>by
  have e:b=it:=by simpa using hb
  subst e
  exact⟨_,st,λv z=>by
   have p:=z
   cases p⟩
 keep:=λi h h' st k=>k it (by simp) _ st
 item:=by
  intro X c a d hc i pins s σ H E I hf st hg;subst c a d;obtain⟨m,l,r,j,g,f⟩:=hf it (by simp);have W:=Walks.range (prog:=X.prog) (w:=X.w) (I.ok.hd hc) it lo 1 n;refine W.item i s _ _ hg st λv h' tk hv st' q=>?_;obtain⟨t,rfl⟩:=hv;have x:Inv X pins σ H { s with heap:=h',toks:=tk }:=I.turned (λb o hb e=>q b o (by simpa using hb) e) m l j g f;refine⟨_,rfl,qew st' rfl rfl (by decide) ⟨.int (lo+i),H,x,⟨t,?_⟩,⟨rfl,rfl⟩,st',λb hb=>(hf b hb).1⟩⟩;rw[Int.mul_one]
 done:=by
  intro X c a d hc i pins s σ H E I hf st hg;subst c a d;obtain⟨m,l,r,j,g,f⟩:=hf it (by simp);exact wpAny_pyNext_range_end (I.ok.hd hc) st (by have:n<=i:=hg; omega) λh' u=>⟨rfl,I.turned (λb o hb e=>u b o hb e) m l j g f⟩
 self:=λ_ _ _ _ _ st h=>wpAny_pyIter_rangeiter st h
section
def qy9{lo:J}(I:Inv X a c H s)(j:-(2 ^ 62)<=lo)(i:lo<2 ^ 62)(h:-(2 ^ 62)<=hi)(g:hi<2 ^ 62)(q:R (Itr lo (hi - lo).toNat) H):wpAny ?d X.A (pyIter (.ref s.heap.objs.size)) (PIE X a c tg R) E { s with heap:=s.heap.push { cls:=.type "range",data:=.fields #[.int lo t,.int hi u,.int 1 v] },toks:=d }:=by
 refine wpAny_pyIter_range (IsRange.new ..) (small_one j i h g) ?_;have f:Inv X a c H { s with heap:=s.heap.push { cls:=.type "range",data:=.fields #[.int lo t,.int hi u,.int 1 v] },toks:=d }:=I.kept λb o e=>Qqx _ e
 refine⟨(s.heap.push { cls:=.type "range",data:=.fields #[.int lo t,.int hi u,.int 1 v] }).objs.size,[(s.heap.push { cls:=.type "range",data:=.fields #[.int lo t,.int hi u,.int 1 v] }).objs.size],_,_,H,rfl,
  f.kept λb o e=>Qqx _ e,qa4 _ lo (hi - lo).toNat,?_,λb hb=>?_,q⟩
 ·have l:lo+((0:Y0):J)*1=lo:=by simp
  have k:(((hi - lo).toNat:Y0):J) - ((0:Y0):J)=Builtin.Range.rangeSize lo hi 1:=by rw[rangeSize_one]; split<;>omega
  rw[l,k];exact Qql _ rfl
 ·have e:b=(s.heap.push { cls:=.type "range",data:=.fields #[.int lo t,.int hi u,.int 1 v] }).objs.size:=by simpa using hb
  subst e;exact f.fpOk (Qqv _) (f.hok.fresh (Qqv _))
noncomputable def iRng1(ta:TA):TI:=λσ H R=>ta σ H λvs H1=>∃j:J,vs=[.int j]/\-(2 ^ 62)<=j/\j<2 ^ 62/\R (Itr 0 j.toNat) H1
noncomputable def iRng2(ta:TA):TI:=λσ H R=>ta σ H λvs H1=>∃i j:J,vs=[.int i,.int j]/\(-(2 ^ 62)<=i/\i<2 ^ 62/\-(2 ^ 62)<=j/\j<2 ^ 62)/\R (Itr i (j - i).toNat) H1
def qc8(k:Gl X "range")(i:X.mg "range" = B)(l:PA X [a] c)(hs:starEach [a] X.env=[(Y5,Qw a X.env)]:=by rfl):PI X tg (.Call (.Name "range" p) [a] [] pos) (iRng1 c):=by
 intro pins s σ H R I h;refine Call_ (qxs I k i boot_range (PyProof.Rows.callWith_type1 (thn (l pos pins s σ H _ I h) λn o ⟨vs,H1,m,f,b⟩=>?_) hs rfl));obtain⟨j,e,b,g,q⟩:=b;subst e
 cases f with
 |cons r d=>
  cases d;obtain⟨t,rfl⟩:=r;exact call_range_1 (qy9 m (by omega) (by omega) b g (by simpa using q))
def qc7(u:Gl X "range")(o:X.mg "range" = B)(v:PA X [a,b] g)(hs:starEach [a,b] X.env=[(Y5,Qw a X.env),(Y5,Qw b X.env)]:=by rfl)(c:starEach [b] X.env=[(Y5,Qw b X.env)]:=by rfl):
  PI X tg (.Call (.Name "range" p) [a,b] [] pos) (iRng2 g):=by
 intro pins s σ H R I h;refine Call_ (qxs I u o boot_range (PyProof.Rows.callWith_type1 (thn (v pos pins s σ H _ I h) λx z ⟨vs,H1,w,k,f⟩=>?_) (by rw[hs,c]) (by rw[c]; rfl)));obtain⟨i,j,e,⟨f,n,m,l⟩,q⟩:=f;subst e
 cases k with
 |cons r d=>
  cases d with
  |cons r' d=>
   cases d;obtain⟨t,rfl⟩:=r;obtain⟨y,rfl⟩:=r';exact call_range_2 (qy9 w f n m l q)
noncomputable def tFor(wi:TI)(g:TG)(tb:TS):TS:=λD σ H=>wi σ H λJq H1=>∃W:Y0->Y0->St->Hp->Prop,(∃m,W 0 m σ H1)/\∀i m σ H,W i m σ H->
 (Jq.stop i H/\D.nx σ H)\/(Jq.go i H/\∃N:St->Hp->Prop,(∀σ' H',N σ' H'->∃m',m'<m/\W (i+1) m' σ' H')/\∀x H',Jq.yld i H x H'->g x σ H' λσ2 H2=>tb { D with nx:=N,ct:=N,bk:=D.nx } σ2 H2)
noncomputable def qv3(fp:L Y7)(h:Heap):L (Y7×Obj):=fp.filterMap λb=>(h.get? b).map λo=>(b,o)
def qqs(hb:b∈fp)(e:h.get? b=Y o):(b,o)∈qv3 fp h:=Qxn.mpr ⟨b,hb,by rw[e]; rfl⟩
def qdb(a:p∈qv3 fp h):p.1∈fp/\h.get? p.1=Y p.2:=by
 obtain⟨b,hb,e⟩:=Qxn.mp a
 cases q:h.get? b with
 |none=>rw[q]at e; cases e
 |some o=>
  rw[q]at e;have c:=Option.some.inj e;subst c;exact⟨hb,q⟩
def Inv.pinned(I:Inv X a c H s)(hf:∀b∈fp,FpOk X a H b)(h:∀b∈fp,∃o,s.heap.get? b=Y o/\∀v,o.data≠.cell v):Inv X (a++qv3 fp s.heap) c H s:=
 I.pins_of λp g=>(Qqi.mp g).elim (λz=>I.pin p (Qq0 _ z)) λz=>by
  obtain⟨hb,e⟩:=qdb z;obtain⟨k,j,i,_⟩:=hf p.1 hb;obtain⟨o,f,d⟩:=h p.1 hb;rw[e]at f; cases f;exact⟨e,k,j,i,d⟩
def Inv.unpinned(I:Inv X (a++pl) b H s):Inv X a b H s:=I.pins_of λp c=>I.pin p (Qq0 _ (Qzz _ c))
def qh6(E:PassesOwn ?d X.A X.env X.xe)(hc:X.calm=O)(hi:PI X tg l U)(hg:PG X tg g)(hb:PSs X body tb)(hs:∀x,foldedSetIterable l X.env x=pure x):PS X (.For tg l body [] pos) (tFor U g tb):=by
 intro pins s σ H D I h;refine wpAny_For (thn (hi pins s σ H _ I h) λv s1 h1=>thn h1 λa0 s2 h2=>?_) hs;obtain⟨it,fp,V,Jq,H2,e,I2,T,P,f2,W,⟨m0,w0⟩,z⟩:=h2;subst e;have k:∀{H':Hp},(∀b∈fp,H' b=B)->∀b∈fp,FpOk X pins H' b:=λhn b hb=>⟨hn b hb,(f2 b hb).2⟩
 refine codeAny_forLoop_any (λn s'=>∃i j H',Inv X pins j H' s'/\V i s'.heap/\(∀b∈fp,H' b=B)/\W i n j H') ?_ m0 ⟨0,σ,H2,I2,P,λb hb=>(f2 b hb).1,w0⟩;rintro n s3 ⟨i,c,G,I3,A,F,w3⟩;rcases z i n c G w3 with⟨stop,qn⟩|⟨go,N,hN,step⟩
 ·refine Qs E (thn (T.done X rfl rfl rfl hc i pins s3 c G X.xe I3 (k F) A stop) λr s4 ⟨hr,I4⟩=>?_);subst hr;exact wpAny_execs_nil ⟨c,G,I4,qn⟩
 ·refine Qs E (thn (T.item X rfl rfl rfl hc i pins s3 c G X.xe I3 (k F) A go) λr s4 ⟨u,hr,h4⟩=>?_);subst hr;refine Qs E (thn h4 λ_ s5 ⟨x,H5,I5,r5,y5,y,R⟩=>?_);have S:=I5.pinned (k R) (T.obj _ _ y);refine Qs E (thn (hg _ s5 c H5 x u _ S r5 (step x H5 y5)) λ_ s6 ⟨K,H6,I6,q6⟩=>?_);refine Qs E (thn (hb _ s6 K H6 _ I6 q6) λf Q w=>?_);have p:∀{a:St}{t:Hp},Inv X (pins++qv3 fp s5.heap) a t Q->N a t->∃m,m<n/\∃i j H',Inv X pins j H' Q/\V i Q.heap/\(∀b∈fp,H' b=B)/\W i m j H':=λ{a t} q C=>by
   obtain⟨m',hm,w7⟩:=hN a t C;refine⟨m',hm,i+1,a,t,q.unpinned,T.keep _ _ _ y λb hb o e=>(q.pin (b,o) (Qq0 _ (Qq0 _ (qqs hb e)))).1,λb hb=>?_,w7⟩;obtain⟨o,e,d⟩:=T.obj _ _ y b hb;exact(q.pin (b,o) (Qq0 _ (Qq0 _ (qqs hb e)))).2.1
  cases f with
  |next=>obtain⟨a,t,q,C⟩:=w; exact p q C
  |cont=>obtain⟨a,t,q,C⟩:=w; exact p q C
  |brk=>obtain⟨a,t,q,w⟩:=w; exact⟨a,t,q.unpinned,w⟩
  |ret v=>obtain⟨x7,a,t,q,r7,w⟩:=w; exact⟨x7,a,t,q.unpinned,r7,w⟩
end
abbrev R2:=V->V->Hp->VK->Prop
def OpR(X:Cx)(f:Y8->Y8->Sem Y8)(r:R2):Prop:=
 ∀(pins:L (Y7×Obj)) (s:Qz) (σ:St) (H:Hp) (x y:V) (v u:Y8) (Q:VK),Inv X pins σ H s->RelV x v->RelV y u->r x y H Q->
  wpAny ?d X.A (f v u) (EP X pins σ Q) X.xe s
def UnR(X:Cx)(f:Y8->Sem Y8)(r:V->Hp->VK->Prop):Prop:=
 ∀(pins:L (Y7×Obj)) (s:Qz) (σ:St) (H:Hp) (x:V) (v:Y8) (Q:VK),Inv X pins σ H s->RelV x v->r x H Q->
  wpAny ?d X.A (f v) (EP X pins σ Q) X.xe s
def qqh(X:Cx)(f:Y8)(r:L V->Hp->VK->Prop):Prop:=
 ∀(pins:L (Y7×Obj)) (s:Qz) (σ:St) (H:Hp) (xs:L V) (us:L Y8) (Q:VK),Inv X pins σ H s->Vals xs us->r xs H Q->
  wpAny ?d X.A (call f us) (EP X pins σ Q) X.xe s
def TruR(X:Cx)(r:V->Hp->(Ya->Hp->Prop)->Prop):Prop:=
 ∀(pins:L (Y7×Obj)) (s:Qz) (σ:St) (H:Hp) (x:V) (v:Y8) (Q:Ya->Hp->Prop),Inv X pins σ H s->RelV x v->r x H Q->
  wpAny ?d X.A (truthy v) (TP X pins σ Q) X.xe s
noncomputable def tOp(r:R2)(ta tb:TE):TE:=λσ H Q=>ta σ H λx H1=>tb σ H1 λy H2=>r x y H2 Q
noncomputable def tUn(r:V->Hp->VK->Prop)(ta:TE):TE:=λσ H Q=>ta σ H λx H1=>r x H1 Q
noncomputable def rI(C:J->J->Prop)(g:J->J->V):R2:=λx y H Q=>∃i j,x=.int i/\y=.int j/\C i j/\Q (g i j) H
noncomputable def rI0(g:J->J->V):R2:=λx y H Q=>∃i j,x=.int i/\y=.int j/\Q (g i j) H
def rU(g:J->V):V->Hp->VK->Prop:=λx H Q=>∃i,x=.int i/\Q (g i) H
section
def binT(p:PE X a ta)(hb:PE X b tb){R:V->V->Hp->Prop}(I:Inv X d e H s)(h:ta e H λx H1=>tb e H1 λy H2=>R x y H2){f:Y8->Y8->Sem Y8}(hf:∀v u j x y H2,Inv X d e H2 j->RelV x v->RelV y u->R x y H2->wpAny ?d X.A (f v u) Q X.xe j):
  wpAny ?d X.A (Qw a X.env) (λv i=>wpAny ?d X.A (Qw b X.env) (λu g=>wpAny ?d X.A (f v u) Q X.xe g) X.xe i) X.xe s:=by
 refine thn (p d s e H _ I h) λv k ⟨x,H1,r,m,o⟩=>?_;refine thn (hb d k e H1 _ r o) λu j ⟨y,H2,q,l,n⟩=>?_;exact hf v u j x y H2 q m l n
def pe_op(i:OpR X (Q4 d) r)(j:PE X a ta)(hb:PE X b tb):PE X (.BinOp a d b pos) (tOp r ta tb):=by
 intro pins s σ H Q I h;exact wpAny_BinOp (binT j hb I h λv u e x y H2 k g f q=>i pins e σ H2 x y v u Q k g f q)
def pe_un(i:UnR X (unaryOp d) r)(j:PE X a ta):PE X (.UnaryOp d a pos) (tUn r ta):=by
 intro pins s σ H Q I h;exact UnaryOp_ (thn (j pins s σ H _ I h) λv e ⟨x,H1,k,f,g⟩=>i pins e σ H1 x v Q k f g)
def opI{g:J->J->J}(d:∀(i j:J) (t u:Tok) (s:Qz) (Q:Y8->Qz->Prop) (E:Y8->Qz->Prop),C i j->Q (.int (g i j) s.toks) { s with toks:=s.toks+1 }->wpAny ?d X.A (f (.int i t) (.int j u)) Q E s):
  OpR X f (rI C λi j=>.int (g i j)):=by
 intro pins s σ H x y v u Q I l k h;obtain⟨i,j,rfl,rfl,hc,q⟩:=h;obtain⟨t,rfl⟩:=l;obtain⟨e,rfl⟩:=k;exact d i j t e s _ _ hc ⟨.int (g i j),H,I.tok _,⟨_,rfl⟩,q⟩
def opI0{g:J->J->J}(d:∀(i j:J) (t u:Tok) (s:Qz) (Q:Y8->Qz->Prop) (E:Y8->Qz->Prop),Q (.int (g i j) s.toks) { s with toks:=s.toks+1 }->wpAny ?d X.A (f (.int i t) (.int j u)) Q E s):
  OpR X f (rI0 λi j=>.int (g i j)):=by
 intro pins s σ H x y v u Q I l k h;obtain⟨i,j,rfl,rfl,q⟩:=h;obtain⟨t,rfl⟩:=l;obtain⟨e,rfl⟩:=k;exact d i j t e s _ _ ⟨.int (g i j),H,I.tok _,⟨_,rfl⟩,q⟩
def opB0{g:J->J->Ya}(d:∀(i j:J) (t u:Tok) (s:Qz) (Q:Y8->Qz->Prop) (E:Y8->Qz->Prop),Q (.bool (g i j)) s->wpAny ?d X.A (f (.int i t) (.int j u)) Q E s):
  OpR X f (rI0 λi j=>.bl (g i j)):=by
 intro pins s σ H x y v u Q I l k h;obtain⟨i,j,rfl,rfl,q⟩:=h;obtain⟨t,rfl⟩:=l;obtain⟨e,rfl⟩:=k;exact d i j t e s _ _ ⟨.bl (g i j),H,I,rfl,q⟩
def CPow(i j:J):Prop:=0<=j/\j<=1000000/\i.natAbs<2 ^ 64
def CMul(i j:J):Prop:=(-(2 ^ 64)<i/\i<2 ^ 64)\/(-(2 ^ 64)<j/\j<2 ^ 64)
def CMul.ok(h:CMul i j):IntMulOk i j:=by
 rcases h with⟨h1,h2⟩|⟨h1,h2⟩
 ·exact .of_left (intBits_le_64 h1 h2)
 ·exact .of_right (intBits_le_64 h1 h2)
def op_add:OpR X (Q4 .Add) (rI0 λi j=>.int (i+j)):=opI0 λ_ _ _ _ _ _ _ q=>add_int q
def op_sub:OpR X (Q4 .Sub) (rI0 λi j=>.int (i - j)):=opI0 λ_ _ _ _ _ _ _ q=>sub_int q
def op_mul:OpR X (Q4 .Mult) (rI CMul λi j=>.int (i*j)):=opI λ_ _ _ _ _ _ _ hc q=>mul_int q hc.ok
def op_mod:OpR X (Q4 .Mod) (rI (λ_ j=>0<j) λi j=>.int (i % j)):=opI λi j _ _ _ _ _ hc q=>by
 have h1:=hc;exact mod_int' (by omega) (by rw[Int.fmod_eq_emod_of_nonneg i (by omega)]; exact q)
def op_pow:OpR X (Q4 .Pow) (rI CPow λi j=>.int (i ^ j.toNat)):=opI λ_ _ _ _ _ _ _ hc q=>pow_int_small hc.1 hc.2.1 hc.2.2 q
def unI{g:J->J}(d:∀(i:J) (t:Tok) (s:Qz) (Q:Y8->Qz->Prop) (E:Y8->Qz->Prop),Q (.int (g i) s.toks) { s with toks:=s.toks+1 }->wpAny ?d X.A (f (.int i t)) Q E s):
  UnR X f (rU λi=>.int (g i)):=by
 intro pins s σ H x v Q I e h;obtain⟨i,rfl,q⟩:=h;obtain⟨t,rfl⟩:=e;exact d i t s _ _ ⟨.int (g i),H,I.tok _,⟨_,rfl⟩,q⟩
def un_neg:UnR X (unaryOp .USub) (rU λi=>.int (-i)):=unI λ_ _ _ _ _ q=>neg_int q
end
section
def qii(I:Inv X d f H s)(q:Q (.bl k) H)(e:k=g):EP X d f Q (.bool g) s:=by
 subst e;exact⟨.bl k,H,I,rfl,q⟩
def op_lt:OpR X (Qg .Lt) (rI0 λi j=>.bl (decide (i<j))):=opB0 λ_ _ _ _ _ _ _ q=>lt_int q
def op_le:OpR X (Qg .LtE) (rI0 λi j=>.bl (decide (i<=j))):=opB0 λ_ _ _ _ _ _ _ q=>le_int q
def op_gt:OpR X (Qg .Gt) (rI0 λi j=>.bl (decide (j<i))):=opB0 λ_ _ _ _ _ _ _ q=>gt_int q
def op_ge:OpR X (Qg .GtE) (rI0 λi j=>.bl (decide (j<=i))):=opB0 λ_ _ _ _ _ _ _ q=>ge_int q
def op_isN:OpR X (Qg .Is) (λx y H Q=>y=.non/\Q (.bl (decide (x=.non))) H):=by
 intro pins s σ H x y v u Q I d e h;obtain⟨rfl,q⟩:=h;cases e;refine is_none_gen (qii I q ?_)
 cases x<;>first
  |(cases d; rfl)
  |(obtain⟨t,rfl⟩:=d; rfl)
def qmg:OpR X (Qg .IsNot) (λx y H Q=>y=.non/\Q (.bl (!decide (x=.non))) H):=by
 intro pins s σ H x y v u Q I d e h;obtain⟨rfl,q⟩:=h;cases e;refine isnot_none_gen (qii I q ?_)
 cases x<;>first
  |(cases d; rfl)
  |(obtain⟨t,rfl⟩:=d; rfl)
def qmy(i:OpR X (Qg d) r)(k:PE X a ta)(hb:PE X b tb)(j:Zh d b=Y5):PE X (.Compare a [d] [b] pos) (tOp r ta tb):=by
 intro pins s σ H Q I h;exact wpAny_Compare1 (binT k hb I h λv u e x y H2 l g f q=>i pins e σ H2 x y v u Q l g f q) j
noncomputable def tTest(t:TE):TT:=λσ H Q=>t σ H λx H'=>∃k,x=.bl k/\Q k H'
def qlt(p:OpR X (Qg d) r)(t:PE X a ta)(hb:PE X b tb)(q:Zh d b=Y5):PT X (.Compare a [d] [b] pos) (tTest (tOp r ta tb)):=by
 intro pins s σ H Q I h
 refine wpAny_isTrue_Compare1 (thn (t pins s σ H _ I h) λv g ⟨x,H1,C,l,o⟩=>thn (hb pins g σ H1 _ C o) λu f ⟨y,H2,A,j,n⟩=>
  thn (p pins f σ H2 x y v u _ A l j n) λc E ⟨z,D,w,i,k,e,m⟩=>?_) q
 subst e;cases i;exact Qe ⟨D,w,m⟩
noncomputable def qhu(r r':R2)(ta tb tc:TE):TE:=λσ H Q=>ta σ H λx H1=>tb σ H1 λy H2=>r x y H2 λz H3=>∃k,z=.bl k/\
 (if k=O then tc σ H3 λw' H4=>r' y w' H4 Q else Q (.bl Y5) H3)
def qgn(P:OpR X (Qg g) r)(i:OpR X (Qg f) l)(S:PE X a ta)(hb:PE X b tb)(hc:PE X c tc)(R:lastMarks [g,f] [b,c]=Y5):PE X (.Compare a [g,f] [b,c] pos) (qhu r l ta tb tc):=by
 intro pins s σ H Q I h
 refine Compare_chain (thn (S pins s σ H _ I h) λv C ⟨x,H1,V,F,N⟩=>chain_link (thn (hb pins C σ H1 _ V N) λu A ⟨y,H2,U,j,K⟩=>
  thn (P pins A σ H2 x y v u _ U F j K) λd w ⟨z,o,n,E,k,e,m⟩=>?_)) R
 subst e;cases E;refine Qe ?_
 cases k with
 |false=>exact ite_ff ⟨.bl Y5,o,n,rfl,m⟩
 |true=>exact ite_tt (chain_last (thn (hc pins w σ o _ n m) λq t ⟨p,W,T,D,G⟩=>i pins t σ W y p u q Q T j D G))
def qgy(T:OpR X (Qg g) r)(i:OpR X (Qg f) l)(V:PE X a ta)(hb:PE X b tb)(hc:PE X c tc)(U:lastMarks [g,f] [b,c]=Y5):PT X (.Compare a [g,f] [b,c] pos) (tTest (qhu r l ta tb tc)):=by
 intro pins s σ H Q I h
 refine isTrue_chain (thn (V pins s σ H _ I h) λv C ⟨x,H1,I1,G,R⟩=>test_link (thn (hb pins C σ H1 _ I1 R) λu A ⟨y,H2,I2,j,P⟩=>
  thn (T pins A σ H2 x y v u _ I2 G j P) λd w ⟨z,o,n,F,k,e,m⟩=>?_)) U
 subst e;cases F;refine Qe ?_
 cases k with
 |false=>
  obtain⟨k',e',S⟩:=m;cases e';exact ite_ff ⟨o,n,S⟩
 |true=>
  refine ite_tt (test_last (thn (hc pins w σ o _ n m) λq t ⟨p,H4,I4,E,N⟩=>thn (i pins t σ H4 y p u q _ I4 j E N) λd' s5 ⟨z2,H5,I5,D,k2,W,K⟩=>?_));subst W;cases D;exact Qe ⟨H5,I5,K⟩
def TruV(K:Qqq)(x:V)(H:Hp)(k:Ya):Prop:=
 match x with
 |.non=>k=Y5
 |.bl b=>k=b
 |.int i=>k=(i != 0)
 |.str y=>y.length<=sizeLine/\k=((y.length:J) != 0)
 |.byt y=>y.size<=sizeLine/\k=((y.size:J) != 0)
 |.ref p=>(∃xs,SqL K H p xs/\k = !xs.isEmpty)\/(∃xs,SqT K H p xs/\k = !xs.isEmpty)\/∃kvs,H p=Y (.dK kvs)/\k = !kvs.isEmpty
 |_=>False
def qbm{kvs:L (d×V)}{vs:L (d×Y8)}(r:KV kvs vs):(!vs.isEmpty) = !kvs.isEmpty:=by
 cases r<;>rfl
def qkr(r:Vals xs d):(!d.toArray.isEmpty) = !xs.isEmpty:=by
 cases r<;>simp
def qww:(sizeLine:Y0)<2 ^ 63:=by rw[Q2]; decide
def tru_ok:TruR X (λx H Q=>∃k,TruV X.K x H k/\Q k H):=by
 intro pins s σ H x v Q I g h;obtain⟨k,e,q⟩:=h;have w:=qww;have hs:=Q2
 cases x with
 |non=>
  cases g;have d:=e;subst d;exact truthy_none ⟨H,I,q⟩
 |bl b=>
  cases g;have d:=e;subst d;exact Qe ⟨H,I,q⟩
 |int i=>
  obtain⟨t,rfl⟩:=g;have d:=e;subst d;exact PySem.P.truthy_int ⟨H,I,q⟩
 |str y=>
  obtain⟨t,rfl⟩:=g;obtain⟨o,d⟩:y.length<=sizeLine/\k=((y.length:J) != 0):=e;subst d;exact PySem.P.truthy_str (by omega) ⟨H,I.tok _,q⟩
 |byt y=>
  obtain⟨t,rfl⟩:=g;obtain⟨o,d⟩:y.size<=sizeLine/\k=((y.size:J) != 0):=e;subst d;exact PySem.W.truthy_bytes (by omega) ⟨H,I.tok _,q⟩
 |ref p=>
  cases g;have d:=e;rcases d with⟨xs,j,d⟩|⟨xs,j,d⟩|⟨kvs,j,d⟩
  ·subst d;obtain⟨l,r,pl,n⟩:=I.list j;have f:=r.length;exact wpAny_truthy_list pl.isList (by simp only[Qqa]; omega) ⟨H,I.tok _,by rw[qkr r]; exact q⟩
  ·subst d;obtain⟨l,r,pl,n⟩:=I.tuple j;have f:=r.length;exact truthy_tuple pl (by simp only[Qqa]; omega) ⟨H,I.tok _,by rw[qkr r]; exact q⟩
  ·subst d;obtain⟨n,u,vs,r,m⟩:kvs.length<=sizeLine/\(p==Qm)=Y5/\∃vs,KV kvs vs/\s.heap.DictOf (mixKind X.prog X.w) p vs:=I.hok p _ j;have f:=Paired.length r;exact wpAny_truthy_dict u m (by omega) ⟨H,I.tok _,by rw[qbm r]; exact q⟩
 |_=>exact(e).elim
def qgw(j:PE X a ta)(i:∀d,isTrue a X.env d=(do let v <- d; Zo a.pos; Q5 [v] (truthy v))):
  PT X a (λσ H Q=>ta σ H λx H'=>∃k,TruV X.K x H' k/\Q k H'):=by
 intro pins s σ H Q I h;exact isTrue_plain (thn (j pins s σ H _ I h) λv e ⟨x,H1,l,f,g⟩=>tru_ok pins e σ H1 x v Q l f g) (i _)
def vals1(r:Vals [x] us):∃u,us=[u]/\RelV x u:=by
 cases r with
 |cons e d=>cases d; exact⟨_,rfl,e⟩
def vals2(r:Vals [x,y] us):∃u w',us=[u,w']/\RelV x u/\RelV y w':=by
 cases r with
 |cons g f=>
  cases f with
  |cons e d=>cases d; exact⟨_,_,rfl,g,e⟩
def qe5(hc:X.calm=O):qqh X (.builtin "min") (λxs H Q=>∃i j,xs=[.int i,.int j]/\Q (.int (if j<i then j else i)) H):=by
 intro pins s σ H xs e Q I r h;obtain⟨i,j,rfl,q⟩:=h;obtain⟨u,d,rfl,⟨t,rfl⟩,⟨f,rfl⟩⟩:=vals2 r;refine min_two_ints (I.ok.hd hc) λh' tk k=>⟨_,H,I.kept k,?_,q⟩
 by_cases hj:j<i
 ·rw[Z8 hj,Z8 hj]; exact⟨_,rfl⟩
 ·rw[Z7 hj,Z7 hj]; exact⟨_,rfl⟩
def qwp:qqh X (.type "int") (λxs H Q=>(∃i,xs=[.int i]/\Q (.int i) H)\/∃k,xs=[.bl k]/\Q (.int (if k then 1 else 0)) H):=by
 intro pins s σ H xs e Q I r h;rcases h with⟨i,rfl,q⟩|⟨k,rfl,q⟩
 ·obtain⟨u,rfl,t,rfl⟩:=vals1 r;exact call_int_int ⟨.int i,H,I,⟨_,rfl⟩,q⟩
 ·obtain⟨u,rfl,d⟩:=vals1 r;cases d;exact call_int_bool ⟨.int (if k then 1 else 0),H,I.tok _,⟨_,rfl⟩,q⟩
end
structure ObjM (h:Heap) (x dx C:Y7) (mA:Y4->Y2 Y8):Prop where
 obj:h.get? x=Y (PySem.W.instObj C dx)
 ns:h.Ns1 dx mA
 ne:dx≠x
def qdr{h:Heap}(n:h.Ns1 f d):∃c,h.get? f=Y c/\∀name,PySem.W.lookIn name c=Y (d name):=by
 obtain⟨o,es,l,i,hd,hk,_,j⟩:=n;refine⟨o,i,λname=>?_⟩;have e:=j name;unfold nsFind findBy at e;rw[<- Array.find?_toList]at e;unfold PySem.W.lookIn;rw[hd];dsimp only
 split
 ·rename_i y q;rw[q]at e;exact congrArg Y e
 ·rename_i q;rw[q]at e;have a:es.toList.any (·.refKey)=false:=by
   rw[Qju];intro y g;obtain⟨z,t,b⟩:=hk y (Array.mem_toList_iff.mp g);simp[DictEntry.refKey,b]
  have k:¬ es.toList.any (·.refKey)=true:=by rw[a]; exact Qqu
  rw[Z7 k];exact congrArg Y e
def ObjM.look(I:ObjM h x c C b):∃a,PySem.W.InstAt h x (PySem.W.instObj C c) C (Y a)/\∀name,PySem.W.lookIn name a=Y (b name):=
 let ⟨a,d,e⟩:=qdr I.ns
 ⟨a,⟨I.obj,rfl,rfl,d⟩,e⟩
section
variable {prog:Program}{w:Qj}{A:Qk}{E:Y8->Qz->Prop}{s:Qz}{K:Qqq}{x dx C f:Y7}{mA:Y4->Y2 Y8}{name:Y4}{v:Y8}
def qnf(X:K.In s.heap)(I:ObjM s.heap x dx C mA)(d:PySem.W.plainGet K C name=O)(c:PySem.W.hasDictIn K C=O)(e:PySem.W.findIn K (.ref C) name=Y B)(hv:mA name=Y v)(a:PySem.W.handedIn v=O)(h:Q v { s with toks:=s.toks+1 }):
  wpAny ?q A (getAttr (.ref x) name expr) Q E s:=by
 obtain⟨i,g,b⟩:=I.look;exact PySem.W.get_value X g (Qjn d).1 (PySem.W.findObj_own c e rfl (by rw[b,hv])) a h
def qhj(X:K.In s.heap)(I:ObjM s.heap x dx C mA)(a:PySem.W.plainGet K C name=O)(hf:PySem.W.findIn K (.ref C) name=Y (Y (.ref f)))(c:PySem.W.isFn K (.ref f)=O)(hv:mA name=B)(h:Q (.ref f,[.ref x]) s):
  wpAny ?q A (Z2 (.ref x) name pl) Q E s:=by
 obtain⟨b,e,d⟩:=I.look;exact PySem.W.method_fn X e (Qjn a).1 (Qjn a).2 hf (beq_iff_eq.mp c) (by show(PySem.W.lookIn name b).map (·.isSome)=Y Y5; rw[d,hv]; rfl) h
def qlh(X:K.In s.heap)(I:ObjM s.heap x dx C mA)(hs:PySem.W.findIn K (.ref C) "__setattr__" = Y (Y (.builtin "object.__setattr__")))(o:PySem.W.plainOver K C=O)(n:PySem.W.takerIn K C name=Y B)(p:PySem.W.hasDictIn K C=O)(m:PySem.Within mA ns)(hsz:ns.length<=sizeLine)(h:∀h',ObjM h' x dx C (λy=>if y=name then Y v else mA y)->Heap.SameBut dx s.heap h'->Q () { s with heap:=h',toks:=s.toks+2 }):
  wpAny ?q A (setAttr (.ref x) name v) Q E s:=by
 obtain⟨u,k,z⟩:=I.look;refine PySem.W.set_plain X k hs (PySem.W.osa_open X k o n λb=>?_);obtain⟨D,hc,i⟩:=PySem.W.any_some p;have l:=I.obj;refine Qq (Qx (Qq (Qq (wpAny_loadPart l (Qq (PySem.W.Looks.here (PySem.W.looks_clsIn X hc) ?_))))));rw[i];refine Qx (Qq (Qx (Qq ?_)));refine wpAny_nsSet1 I.ns λh' d c=>?_;obtain⟨oD,q,t,e,g,j⟩:=d.count (PySem.Within.cons name v m);refine Qq (wpAny_lookBehind e (by rw[g]; exact pastItsLine_dict (Qz3 j (by rw[Qqg]; omega))) ?_);exact Qx (h _ ⟨(c.2 _ (Ne.symm I.ne)).trans I.obj,d,I.ne⟩ c)
def qg4(X:K.In s.heap)(b:PySem.W.makesIn K C=O)(hi:PySem.W.findIn K (.ref C) "__init__" = Y (Y (.ref f)))(hf:PySem.W.typeIn K (.ref f)=Y (.type "function"))(h:Zd ?q (A.under (.builtin "type.__call__" ⟨.ref C::vs,a⟩)) (.call (.ref f) ⟨.ref ?G::vs,a⟩) (PySem.W.InitBack ?G R)
   { s with heap:=(s.heap.push PySem.W.emptyDict).push (PySem.W.instObj C s.heap.objs.size) }):
  Zd ?q A (.call (.ref C) ⟨vs,a⟩) R s:=by
 obtain⟨c,g,d,t,os⟩:=s;exact PySem.W.make_core (PySem.W.makes_of X b) (PySem.W.looks_findIn X hi) (λself=>PySem.W.bind_fn X self hf) (.inl rfl) h
end
noncomputable def putF(f:Y4)(v:V):L (Y4×V)->L (Y4×V)
 |[]=>[(f,v)]
 |(g,x)::r=>if g=f then(g,v)::r else(g,x)::putF f v r
theorem qjn(f g)(v):∀fs:L (Y4×V),(putF f v fs).lookup g=if g=f then Y v else fs.lookup g
 |[]=>by
  show List.lookup g [(f,v)]=_
  by_cases h:g=f
  ·have hb:=beq_iff_eq.mpr h;simp only[List.lookup,hb,Z8 h]
  ·have hb:=beq_eq_false_iff_ne.mpr h;simp only[List.lookup,hb,Z7 h]
 |(k,x)::r=>by
  have a:=qjn f g v r;rw[show putF f v ((k,x)::r)=(if k=f then(k,v)::r else(k,x)::putF f v r) from rfl]
  by_cases hk:k=f
  ·rw[Z8 hk]
   by_cases h:g=k
   ·have hb:=beq_iff_eq.mpr h;simp only[List.lookup,hb,Z8 (h.trans hk)]
   ·have hb:=beq_eq_false_iff_ne.mpr h;simp only[List.lookup,hb,Z7 (λe:g=f=>h (e.trans hk.symm))]
  ·rw[Z7 hk]
   by_cases h:g=k
   ·have hb:=beq_iff_eq.mpr h;simp only[List.lookup,hb,Z7 (λe:g=f=>hk (h.symm.trans e))]
   ·have hb:=beq_eq_false_iff_ne.mpr h;simp only[List.lookup,hb];exact a
theorem qjr(f)(v):∀fs:L (Y4×V),f∈(putF f v fs).map (·.1)/\∀g,g∈fs.map (·.1)->g∈(putF f v fs).map (·.1)
 |[]=>⟨by simp[putF],λg h=>by simp at h⟩
 |(k,x)::r=>by
  obtain⟨b,a⟩:=qjr f v r;rw[show putF f v ((k,x)::r)=(if k=f then(k,v)::r else(k,x)::putF f v r) from rfl]
  by_cases hk:k=f
  ·rw[Z8 hk];subst hk;exact⟨by simp,λg h=>by simpa using h⟩
  ·rw[Z7 hk];refine⟨?_,λg h=>?_⟩
   ·rw[Qqm];exact Qqp _ b
   ·rw[Qqm]at h ⊢;rcases Qqy.mp h with e|e
    ·exact Qqy.mpr (.inl e)
    ·exact Qqp _ (a g e)
theorem qjo(f)(v):∀fs:L (Y4×V),(putF f v fs).length<=fs.length+1
 |[]=>by simp[putF]
 |(k,x)::r=>by
  have a:=qjo f v r;rw[show putF f v ((k,x)::r)=(if k=f then(k,v)::r else(k,x)::putF f v r) from rfl]
  by_cases hk:k=f
  ·rw[Z8 hk,Qqg,Qqg]; omega
  ·rw[Z7 hk,Qqg,Qqg]; omega
def RelO.some_of(r:RelO (Y v) o):∃u,o=Y u/\RelV v u:=by
 cases o with
 |none=>exact(r).elim
 |some u=>exact⟨u,rfl,r⟩
def RelO.none_of(r:RelO B o):o=none:=by
 cases o with
 |none=>rfl
 |some u=>exact(r).elim
def qex(r:RelV v u):PySem.W.handedIn u=true:=by
 cases v with
 |non=>cases (r); rfl
 |bl b=>cases (r); rfl
 |int i=>obtain⟨t,e⟩:=(r); cases e; rfl
 |str x=>obtain⟨t,e⟩:=(r); cases e; rfl
 |byt b=>obtain⟨t,e⟩:=(r); cases e; rfl
 |flt b=>obtain⟨t,e⟩:=(r); cases e; rfl
 |ref a=>cases (r); rfl
 |ty n=>cases (r); rfl
section
def qqw(hok:HOk P w H h)(e:H a=Y (.ins C dx fs)):∃mA,ObjM h a dx C mA/\(∀f,RelO (fs.lookup f) (mA f))/\PySem.Within mA (fs.map (·.1))/\fs.length<=1000/\H dx=Y (.own a):=by
 obtain⟨d,z,ne,ob,mA,n,r,q⟩:=(hok a _ e)
 exact⟨mA,⟨ob,n,ne⟩,r,q,z,d⟩
end
structure Cls (K:Qqq) (C:Y7):Prop where
 pg:PySem.W.plainGet K C Str.empty=O
 hd:PySem.W.hasDictIn K C=O
 po:PySem.W.plainOver K C=O
 sa:PySem.W.findIn K (.ref C) "__setattr__" = Y (Y (.builtin "object.__setattr__"))
def Cls.get{K:Qqq}(c:Cls K C)(f):PySem.W.plainGet K C f=true:=c.pg
def NoAttr(K:Qqq)(C:Y7)(f:Y4):Prop:=PySem.W.findIn K (.ref C) f=Y B
def NoAttr.taker{K:Qqq}(n:NoAttr K C f):PySem.W.takerIn K C f=Y none:=by
 unfold PySem.W.takerIn;rw[show PySem.W.findIn K (.ref C) f=Y B from n]
 rfl
structure Meth (K:Qqq) (C:Y7) (m:Y4) (f:Y7):Prop where
 at_:PySem.W.findIn K (.ref C) m=Y (Y (.ref f))
 fn:PySem.W.isFn K (.ref f)=O
 kp:Qzt K (.ref f)=O
section
def qbn(I:Inv X pins σ H s)(e:H a=Y (.ins C dx fs))(c:Cls X.K C)(n:NoAttr X.K C f)(l:fs.lookup f=Y v)(h:∀u s',Inv X pins σ H s'->RelV v u->Q u s'):wpAny ?d A (getAttr (.ref a) f b) Q E s:=by
 obtain⟨mA,i,r,_,_,_⟩:=qqw I.hok e;obtain⟨u,g,d⟩:=RelO.some_of (by rw[<- l]; exact r f);exact qnf I.kIn i (c.get f) c.hd n g (qex d) (h u _ (I.tok _) d)
def qxf(I:Inv X pins σ H s)(e:H a=Y (.ins C dx fs))(c:Cls X.K C)(k:Meth X.K C m g)(l:fs.lookup m=B)(h:Q (.ref g,[.ref a]) s):wpAny ?d A (Z2 (.ref a) m pl) Q E s:=by
 obtain⟨mA,b,r,_,_,_⟩:=qqw I.hok e;have hn:=RelO.none_of (by rw[<- l]; exact r m);exact qhj I.kIn b (c.get m) k.at_ k.fn hn h
def qbq(I:Inv X pins σ H s)(e:H a=Y (.ins C dx fs))(c:Cls X.K C)(n:NoAttr X.K C f)(w:fs.length<1000)(m:RelV y u)(h:∀s',Inv X pins σ (upd H a (.ins C dx (putF f y fs))) s'->Q () s'):wpAny ?d A (setAttr (.ref a) f u) Q E s:=by
 obtain⟨mA,d,r,j,_,k⟩:=qqw I.hok e;have p:(fs.map (·.1)).length<=sizeLine:=by rw[Qqz,Q2]; omega
 refine qlh I.kIn d c.sa c.po n.taker c.hd j p λh' i l=>h _ ?_;have hd:∃o,h'.get? dx=Y o:=let ⟨o,_,_,t,_⟩:=i.ns; ⟨o,t⟩;refine I.write (by rw[e]; exact True.intro) (.inr k) (λb q hb z=>(l.2 b hb).trans z) hd ?_;refine⟨by rw[qzx d.ne]; exact k,?_,d.ne,i.obj,_,i.ns,λg=>?_,λg hg=>?_⟩
 ·have:=qjo f y fs; omega
 ·rw[qjn]
  by_cases q:g=f
  ·rw[Z8 q,Z8 q]; exact m
  ·rw[Z7 q,Z7 q]; exact r g
 ·by_cases q:g=f
  ·rw[q]; exact(qjr f y fs).1
  ·refine(qjr f y fs).2 g (j g λz=>hg ?_);show(if g=f then Y u else mA g)=B;rw[Z7 q]; exact z
def Inv.made(I:Inv X pins σ H s):Inv X pins σ (upd (upd H s.heap.objs.size (.own ?G)) ?G (.ins C s.heap.objs.size []))
  { s with heap:=(s.heap.push PySem.W.emptyDict).push (PySem.W.instObj C s.heap.objs.size) }:=by
 have c:(s.heap.push PySem.W.emptyDict).get? s.heap.objs.size=Y PySem.W.emptyDict:=Qql s.heap rfl;have i:((s.heap.push PySem.W.emptyDict).push (PySem.W.instObj C s.heap.objs.size)).get? ?G=Y (PySem.W.instObj C s.heap.objs.size):=by
  have:=Qql (s.heap.push PySem.W.emptyDict) (o:=PySem.W.instObj C s.heap.objs.size) rfl;rwa [Qxx]at this
 have h:(s.heap.push PySem.W.emptyDict).Ns s.heap.objs.size (λ_=>B):=⟨PySem.W.emptyDict,#[],_,c,rfl,(λe g=>absurd g (by simp)),λ_=>rfl⟩
 have j:=I.laid (o:=.own ?G) (t':=s.toks) (λb u q=>Qqx _ q) (Qqv _) ⟨_,c⟩;refine j.laid (λb u q=>Qqx _ q) (Nat.le_of_eq (Qxx _ _)) ?_;have ne:s.heap.objs.size≠s.heap.objs.size+1:=Qq4 (Qzc _);refine⟨by rw[qzx ne,qzy],Qza _,ne,i,λ_=>B,(Heap.Ns1.of_empty h).at λo q=>Qqx _ q,λ_=>True.intro,λy d=>absurd rfl d⟩
def qn2(hb:Zj e f env (Qw e env)=Qw e env)(h:wpAny ?q A (Qw e env) (λo b=>wpAny ?q A (getAttr o f O) Q E b) E s):wpAny ?q A (Qw (.Attribute e f pos) env) Q E s:=
 Attribute_any_ h (by rw[arm_eval_Attribute,hb])
end
noncomputable def tFld(K:Qqq)(ta:TE)(f:Y4):TE:=λσ H Q=>ta σ H λx H1=>∃a C dx fs v,x=.ref a/\H1 a=Y (.ins C dx fs)/\Cls K C/\NoAttr K C f/\fs.lookup f=Y v/\Q v H1
noncomputable def sFld(K:Qqq)(ta tv:TE)(f:Y4):TS:=λD σ H=>tv σ H λy H1=>ta σ H1 λx H2=>∃a C dx fs,x=.ref a/\H2 a=Y (.ins C dx fs)/\Cls K C/\NoAttr K C f/\fs.length<1000/\
 D.nx σ (upd H2 a (.ins C dx (putF f y fs)))
section
def pe_fld(g:PE X e ta)(hb:Zj e f X.env (Qw e X.env)=Qw e X.env):PE X (.Attribute e f pos) (tFld X.K ta f):=by
 intro pins s σ H Q I h;refine qn2 hb (thn (g pins s σ H _ I h) λu r ⟨x,H1,k,b,a,C,dx,fs,v,ex,i,c,n,l,q⟩=>?_);subst ex;obtain rfl:u=Value.ref a:=b;exact qbn k i c n l λm p j d=>⟨v,H1,j,d,q⟩
def ps_fld(k:PE X o ta)(hv:PE X value tv)(hs:swapsWith value (Y (.Attribute o f pos')) pos.line X.env=pure Y5):PS X (.Assign [.Attribute o f pos'] value pos) (sFld X.K ta tv f):=by
 intro pins s σ H D I h;refine plainObj_wpAny_Assign_Attribute (thn (hv pins s σ H _ I h) λu b ⟨y,H1,t,d,q⟩=>thn (k pins b σ H1 _ t q) λj w ⟨x,H2,r,g,a,C,dx,fs,ex,m,c,n,l,i⟩=>?_) hs;subst ex;obtain rfl:j=Value.ref a:=g;exact qbq r m c n l d λv p=>⟨σ,_,p,i⟩
def qmp(y:PE X e p)(I:Inv X d j H s)(h:p j H λx H1=>∃a C dx fs g,x=.ref a/\H1 a=Y (.ins C dx fs)/\Cls X.K C/\Meth X.K C m g/\fs.lookup m=B/\
   ∀n,Inv X d j H1 n->wpAny ?d X.A (callWith pos (.ref g) [.ref a] (backTo pos (starEach b X.env)) (backToKw pos (keywordEach [] X.env))) Q X.xe n)(w:Qw (.Call (.Attribute e m i) b [] pos) X.env=(do
   let r <- Qw e X.env
   Zo i.atName
   let (f,first) <- Q5 [r] (Z2 r m pl)
   callWith pos f first (backTo pos (starEach b X.env)) (backToKw pos (keywordEach [] X.env)))):
  wpAny ?d X.A (Qw (.Call (.Attribute e m i) b [] pos) X.env) Q X.xe s:=by
 refine Qjb (thn (y d s j H _ I h) λu n ⟨x,H1,t,v,a,C,dx,fs,g,ex,z,c,k,l,q⟩=>?_) w;subst ex;obtain rfl:u=Value.ref a:=v;exact qxf t z c k l (q n t)
end
section
end
structure Room (k:Y0) (A:Qk):Prop where
 hd:A.handled=B
 dp:A.depth+3*k+5<recursionLimit
 un:A.units+16*k+200<cLine
def Room.mono(r:Room k A)(h:j<=k):Room j A:=⟨r.hd,by have:=r.dp; omega,by have:=r.un; omega⟩
theorem Room.deeper(r:Room (k+1) A)(env):Room k (A.deeper env):=
 ⟨r.hd,by have:=r.dp; show A.depth+1+3*k+5<_; omega,by have:=r.un; show A.units+3+16*k+200<_; omega⟩
def qbi{A:Qk}:(A.under (.builtin "type.__call__" ⟨.ref C::us,a⟩)).depth=A.depth+1:=by
 first|rfl|simp[Around.under,Code.weight,Code.isCreation,Code.isGuard,Code.isCaller,Code.frames,Code.isFrame,guardIds]
def qbh{A:Qk}:(A.under (.builtin "type.__call__" ⟨.ref C::us,a⟩)).units=A.units+1:=by
 first|rfl|simp[Around.under,Code.cUnits,Code.frames,Code.isFrame]
def Room.make(r:Room (k+1) A)(C)(us)(a):Room k (A.under (.builtin "type.__call__" ⟨.ref C::us,a⟩)):=
 ⟨r.hd,by have:=r.dp; rw[qbi]; omega,by have:=r.un; rw[qbh]; omega⟩
theorem Room.depth(r:Room k A):A.depth<recursionLimit:=by have:=r.dp; omega
theorem Room.units(r:Room k A):A.units+64<cLine:=by have:=r.un; omega
noncomputable def tNil:TA:=λ_ H Q=>Q [] H
noncomputable def tCons(ta:TE)(tr:TA):TA:=λσ H Q=>ta σ H λx H1=>tr σ H1 λxs H2=>Q (x::xs) H2
section
def pa_nil:PA X [] tNil:=λ_ _ _ _ H Q I h=>Calls.spliced_nil ⟨[],H,I,.nil,h⟩
def qjh(g:PE X e te)(hr:PA X es t)(hs:starEach (e::es) X.env=(Y5,Qw e X.env)::starEach es X.env:=by rfl):PA X (e::es) (tCons te t):=by
 intro pos pins s σ H Q I h;rw[hs];refine Calls.spliced_cons (thn (g pins s σ H _ I h) λu a ⟨x,H1,j,c,f⟩=>?_);exact thn (hr pos pins a σ H1 _ j f) λk l ⟨xs,H2,i,b,d⟩=>⟨x::xs,H2,i,.cons c b,d⟩
noncomputable def tTup(t:TA):TE:=λσ H Q=>t σ H λxs H1=>xs.length<=sizeLine/\∀p,H1 p=B->Q (.ref p) (upd H1 p (.tup xs))
noncomputable def tLst(t:TA):TE:=λσ H Q=>t σ H λxs H1=>xs.length<=sizeLine/\∀p,H1 p=B->Q (.ref p) (upd H1 p (.lst xs))
def pe_tup{d}(h:PA X es t):PE X (.Tuple es d pos) (tTup t):=by
 intro pins s σ H Q I g;refine wpAny_Tuple_spliced (thn (h pos pins s σ H _ I g) λf a ⟨xs,H1,c,r,z,q⟩=>⟨by rw[<- r.length]; exact z,?_⟩);have hf:=c.hok.fresh (Qqv _);refine⟨.ref a.heap.objs.size,upd H1 a.heap.objs.size (.tup xs),c.laid (λb u e=>Qqx _ e) (Qqv _) ?_,rfl,q _ hf⟩;exact⟨z,f,r,⟨_,Qql _ rfl,rfl,_,rfl⟩⟩
def pe_lst(h:PA X es t):PE X (.List es pos) (tLst t):=by
 intro pins s σ H Q I f;refine wpAny_List_spliced (thn (h pos pins s σ H _ I f) λd a ⟨xs,H1,c,r,z,q⟩=>⟨by rw[<- r.length]; exact z,?_⟩);have hf:=c.hok.fresh (Qqv _);refine⟨.ref a.heap.objs.size,upd H1 a.heap.objs.size (.lst xs),c.laid (λb u e=>Qqx _ e) (Qqv _) ?_,rfl,q _ hf⟩;exact⟨z,d,0,r,Qql _ rfl⟩
end
abbrev Sp:=L V->Hp->VK->XK->Prop
abbrev CXT:=L Env->Hp->Qz->XK->Y8->Qz->Prop
structure Env0 (P:Program) (w:Qj) (K:Qqq) (mg:Y4->Y2 Y8) (base:Heap) (A:Qk) (outer:L Env) (s:Qz) (H:Hp):Prop where
 frames:A.frames=Y outer
 mod:Mod K mg base
 bs:∀b o,base.get? b=Y o->s.heap.get? b=Y o/\H b=B
 bsz:base.objs.size<=s.heap.objs.size
 funs:s.heap.FunFrames base outer
 frf:∀b∈frs outer,H b=B
 hok:HOk P w H s.heap
 bare:Zn s.gens
def CE(outer:L Env)(P:Program)(w:Qj)(H:Hp)(s:Qz)(Q:VK)(u:Y8)(s':Qz):Prop:=
 ∃v H',s'.os=s.os/\Zn s'.gens/\Un (frs outer) [] H H' s.heap s'.heap/\HOk P w H' s'.heap/\RelV v u/\Q v H'
def CR(CX:CXT)(outer:L Env)(P:Program)(w:Qj)(H:Hp)(s:Qz)(Q:VK)(E:XK)(r:Result)(s':Qz):Prop:=
 match r with
 |.ok (.ret u)=>CE outer P w H s Q u s'
 |.ok _=>False
 |.error e=>CX outer H s E e s'
structure FnOk (P:Program) (w:Qj) (K:Qqq) (mg:Y4->Y2 Y8) (base:Heap) (CX:CXT) (k:Y0) (f:Y7) (fd:Qp) (ps:L Y4) (sp:Sp):Prop where
 len:∀vs H Q E,sp vs H Q E->vs.length=ps.length
 run:∀(A:Qk) (outer:L Env) (s:Qz) (H:Hp) (args:Args) (us:L Y8) (vs:L V) (Q:VK) (E:XK),Room k A->Env0 P w K mg base A outer s H->BindsTo s fd args (ps.zip us)->Vals vs us->sp vs H Q E->
  Zd (model P w) A (.call (.ref f) args) (CR CX outer P w H s Q E) s
def FnOk.imp{K:Qqq}(F:FnOk P w K mg base c k f fd ps b)(h:∀vs H Q E,sp' vs H Q E->b vs H Q E):FnOk P w K mg base c k f fd ps sp':=
 ⟨λvs H Q E q=>F.len vs H Q E (h _ _ _ _ q),λA outer s H a d vs Q E hr e hb hv hs=>F.run A outer s H a d vs Q E hr e hb hv (h _ _ _ _ hs)⟩
def Env0.make{K:Qqq}(e:Env0 P w K mg base A outer s H)(C)(us)(a):
  Env0 P w K mg base (A.under (.builtin "type.__call__" ⟨.ref C::us,a⟩)) outer s H:=⟨by first|exact e.frames|(simpa[Around.under,Code.envs,Code.isFrame,pushEnvs] using e.frames),e.mod,e.bs,e.bsz,e.funs,e.frf,e.hok,e.bare⟩
section
def Inv.env0(I:Inv X pins σ H s):Env0 X.prog X.w X.K X.mg X.base X.A X.stack s H:=
 ⟨I.ok.frames,I.ok.mod,I.bs,Qz3 I.ok.bsz I.sz,I.stack,I.stkFree,I.hok,I.bare⟩
def Inv.after(I:Inv X pins σ H s)(h:CE X.stack X.prog X.w H s Q u s'):EP X pins σ Q u s':=by
 obtain⟨v,H',os,bare,un,hok,r,q⟩:=h;obtain⟨c,g,d,t,a⟩:=s';obtain rfl:a=s.os:=os;exact⟨v,H',I.call un hok bare (λb z=>absurd z (by simp)),r,q⟩
end
noncomputable def tCall(sp:Sp)(dvs:L V)(E:XK)(t:TA):TE:=λσ H Q=>t σ H λvs H1=>sp (vs++dvs) H1 Q E
noncomputable def qlv(C:Y7)(m:Y4)(sp:Sp)(dvs:L V)(E:XK)(ta:TE)(t:TA):TE:=λσ H Q=>ta σ H λx H1=>∃a dx fs,x=.ref a/\H1 a=Y (.ins C dx fs)/\fs.lookup m=B/\
 t σ H1 λvs H2=>sp (x::(vs++dvs)) H2 Q E
noncomputable def tMake(C:Y7)(sp:Sp)(dvs:L V)(E:XK)(t:TA):TE:=λσ H Q=>t σ H λvs H1=>∀x dx,H1 x=B->H1 dx=B->dx≠x->
 sp (.ref x::(vs++dvs)) (upd (upd H1 dx (.own x)) x (.ins C dx [])) (λv H2=>v=.non/\Q (.ref x) H2) E
def Binds(K:Qqq)(fd:Qp)(ps:L Y4)(ds:L Y8):Prop:=
 ∀(s:Qz) (us:L Y8),K.In s.heap->(us++ds).length=ps.length->BindsTo s fd ⟨us,[]⟩ (ps.zip (us++ds))
def Binds.all{K:Qqq}(h:∀a:L Y8,a.length=ps.length->bindArgs fd ⟨a,[]⟩=pure (ps.zip a)):Binds K fd ps []:=λs a _ b=>by
 rw[Qzj]at b ⊢;exact .of_eq (h a b)
def qkz(CX:CXT)(X:Cx)(E:XK):Prop:=∀(pins:L (Y7×Obj)) (σ:St) (H:Hp) (s:Qz) (e:Y8) (s':Qz),Inv X pins σ H s->CX X.stack H s E e s'->X.xe e s'
section
def qc0(F:FnOk X.prog X.w X.K X.mg X.base CX k f fd ps sp)(hr:Room k X.A)(hb:Binds X.K fd ps ds)(hd:Vals dvs ds)(g:qkz CX X E)(I:Inv X a c H s)(r:Vals vs us)(h:sp (vs++dvs) H Q E):wpAny ?d X.A (call (.ref f) us) (EP X a c Q) X.xe s:=by
 have d:=r.append hd;have i:(us++ds).length=ps.length:=by rw[<- d.length]; exact F.len _ _ _ _ h
 refine wpAny_call (Zq (F.run X.A X.stack s H ⟨us,[]⟩ (us++ds) (vs++dvs) Q E hr I.env0 (hb s us I.kIn i) d h) λr s' b=>?_)
 cases r with
 |error e=>exact g a c H s e s' I b
 |ok j=>
  cases j with
  |ret u=>exact I.after b
  |next=>exact False.elim b
  |brk=>exact False.elim b
  |cont=>exact False.elim b
def qma(F:FnOk X.prog X.w X.K X.mg X.base CX k f fd ps sp)(hr:Room k X.A)(i:Gl X x)(g:X.mg x=Y (.ref f))(hk:Qzt X.K (.ref f)=O)(hb:Binds X.K fd ps ds)(hd:Vals dvs ds)(d:qkz CX X E)
  (l:PA X (e::es) t) (b:(x==("__debug__" : Y4))=false:=by decide) (j:starEach (e::es) X.env=(Y5,Qw e X.env)::starEach es X.env:=by rfl) (a:(backTo pos (starEach es X.env)).any (·.1)=false:=by rfl) :
  PE X (.Call (.Name x p) (e::es) [] pos) (tCall sp dvs E t):=by
 intro pins s σ H Q I h;refine Zc (qyy I i g ?_ b);refine Qjp I.ok.mod.kin hk (thn (l pos pins s σ H _ I h) λn u ⟨vs,H1,c,r,q⟩=>⟨c.kIn,?_⟩) j a;exact qc0 F hr hb hd d c r q
def qmz(G:PE X o ta)(c:Cls X.K C)(i:Meth X.K C m f)(F:FnOk X.prog X.w X.K X.mg X.base CX k f fd ps sp)(hr:Room k X.A)(hb:Binds X.K fd ps ds)(hd:Vals dvs ds)(A:qkz CX X E)(K:PA X (e::es) t)(b:starEach (e::es) X.env=(Y5,Qw e X.env)::starEach es X.env:=by rfl)(d:(backTo pos (starEach es X.env)).any (·.1)=false:=by rfl)(D:Qw (.Call (.Attribute o m apos) (e::es) [] pos) X.env=(do
   let g <- Qw o X.env
   Zo apos.atName
   let (f,first) <- Q5 [g] (Z2 g m pl)
   callWith pos f first (backTo pos (starEach (e::es) X.env)) (backToKw pos (keywordEach [] X.env))):=by rfl):
  PE X (.Call (.Attribute o m apos) (e::es) [] pos) (qlv C m sp dvs E ta t):=by
 intro pins s σ H Q I h;refine Qjb (thn (G pins s σ H _ I h) λu w ⟨x,H1,n,y,a,dx,fs,ex,N,l,q⟩=>?_) D;subst ex;obtain rfl:u=Value.ref a:=y;refine qxf n N c i l ?_;refine Qjp I.ok.mod.kin i.kp (thn (K pos pins w σ H1 _ n q) λv P ⟨vs,H2,j,r,z⟩=>⟨j.kIn,?_⟩) b d;exact qc0 (vs:=.ref a::vs) F hr hb hd A j (.cons rfl r) z
def qgh(r:PE X o ta)(c:Cls X.K C)(g:Meth X.K C m f)(F:FnOk X.prog X.w X.K X.mg X.base CX k f fd ps sp)(hr:Room k X.A)(hb:Binds X.K fd ps ds)(hd:Vals dvs ds)(j:qkz CX X E)(n:Qw (.Call (.Attribute o m apos) [] [] pos) X.env=(do
   let d <- Qw o X.env
   Zo apos.atName
   let (f,first) <- Q5 [d] (Z2 d m pl)
   callWith pos f first (backTo pos (starEach [] X.env)) (backToKw pos (keywordEach [] X.env))):=by rfl):
  PE X (.Call (.Attribute o m apos) [] [] pos) (qlv C m sp dvs E ta tNil):=by
 intro pins s σ H Q I h;refine Qjb (thn (r pins s σ H _ I h) λu w ⟨x,H1,b,i,a,dx,fs,ex,v,l,q⟩=>?_) n;subst ex;obtain rfl:u=Value.ref a:=i;refine qxf b v c g l ?_;exact PySem.W.callWith_K0 b.kIn g.kp (qc0 (vs:=[.ref a]) F hr hb hd j b (.cons rfl .nil) q)
structure Mk (K:Qqq) (C f:Y7):Prop where
 makes:PySem.W.makesIn K C=O
 init:PySem.W.findIn K (.ref C) "__init__" = Y (Y (.ref f))
 fn:PySem.W.isFn K (.ref f)=O
 kp:Qzt K (.ref C)=O
def qgq(M:Mk X.K C f)(F:FnOk X.prog X.w X.K X.mg X.base CX k f fd ps sp)(hr:Room (k+1) X.A)(hb:Binds X.K fd ps ds)(hd:Vals dvs ds)(n:qkz CX X E)(I:Inv X a d H s)(r:Vals vs us)(h:∀x dx,H x=B->H dx=B->dx≠x->sp (.ref x::(vs++dvs)) (upd (upd H dx (.own x)) x (.ins C dx [])) (λv H2=>v=.non/\Q (.ref x) H2) E):
  wpAny ?d X.A (call (.ref C) us) (EP X a d Q) X.xe s:=by
 have i:=h ?G s.heap.objs.size (I.hok.fresh (Qzl _)) (I.hok.fresh (Qqv _)) (Qq4 (Qzc _));have c:=Inv.made (C:=C) I;have g:Vals (V.ref ?G::(vs++dvs)) (Value.ref ?G::(us++ds)):=.cons rfl (r.append hd);have q:(Value.ref ?G::us++ds).length=ps.length:=by
  have e:=g.length;rw[F.len _ _ _ _ i]at e;exact e.symm
 refine wpAny_call (qg4 I.kIn M.makes M.init (beq_iff_eq.mp M.fn) (Zq (F.run _ X.stack _ _ ⟨Value.ref ?G::us,[]⟩ (Value.ref ?G::(us++ds)) _ _ E (hr.make C us [])
  (c.env0.make C us []) (hb _ (Value.ref ?G::us) c.kIn q) g i) λr s' b=>?_))
 cases r with
 |error e=>exact n a d _ _ e s' c b
 |ok w=>
  cases w with
  |ret u=>
   obtain⟨v,H',y,j,ev,l⟩:=c.after b;subst ev;exact⟨j,⟨V.ref ?G,H',y,rfl,l⟩⟩
  |next=>exact False.elim b
  |brk=>exact False.elim b
  |cont=>exact False.elim b
def qmq(M:Mk X.K C f)(F:FnOk X.prog X.w X.K X.mg X.base CX k f fd ps sp)(hr:Room (k+1) X.A)(i:Gl X x)(g:X.mg x=Y (.ref C))(hb:Binds X.K fd ps ds)(hd:Vals dvs ds)(d:qkz CX X E)
  (l:PA X (e::es) t) (b:(x==("__debug__" : Y4))=false:=by decide) (j:starEach (e::es) X.env=(Y5,Qw e X.env)::starEach es X.env:=by rfl) (a:(backTo pos (starEach es X.env)).any (·.1)=false:=by rfl) :
  PE X (.Call (.Name x p) (e::es) [] pos) (tMake C sp dvs E t):=by
 intro pins s σ H Q I h;refine Zc (qyy I i g ?_ b);refine Qjp I.ok.mod.kin M.kp (thn (l pos pins s σ H _ I h) λn u ⟨vs,H1,c,r,q⟩=>⟨c.kIn,?_⟩) j a;exact qgq M F hr hb hd d c r q
end
section
end
structure FnScope (N P:L Y4) (sc:Scope):Prop where
 kind:sc.kind=.function
 co:sc.isCoroutine=Y5
 gen:sc.isGenerator=Y5
 nd:N.Nodup
 pre:N.take P.length=P
 par:∀x∈P,sc.names.lookup x=Y .local\/sc.names.lookup x=Y .cell
 nofree:∀y∈sc.names,y.2≠.free
theorem qwu:∀{binds}{m},(∀v,(x,v) ∉ binds)->bindL a binds m x=m x
 |[],_,_=>rfl
 |(n,v)::r,m,h=>by
  unfold bindL;rw[qwu λw b=>h w (Qqp _ b)]
  split
  ·have:x≠n:=by rintro rfl; exact h v Qq3
   simp[this]
  ·rfl
theorem qw1:∀{binds}{m},(∀v,(x,v) ∉ binds)->bindC a binds m x=m x
 |[],_,_=>rfl
 |(n,v)::r,m,h=>by
  unfold bindC;rw[qw1 λw b=>h w (Qqp _ b)]
  split
  ·rfl
  ·have:x≠n:=by rintro rfl; exact h v Qq3
   simp[this]
theorem qw0:∀{P:L Y4}{vs:L Y8}{i:Y0}{m:Y4->Y2 Y8},P.Nodup->P[i]?=Y x->vs[i]?=Y v->a x=Y .local->
  bindL a (P.zip vs) m x=Y v
 |[],_,_,_,_,h,_,_=>by simp at h
 |_::_,[],_,_,_,_,h,_=>by simp at h
 |p::P,w::vs,0,m,nd,h1,h2,hk=>by
  simp at h1 h2; subst h1; subst h2;show bindL a ((p,w)::P.zip vs) m p=_;unfold bindL;rw[qwu λv hv=>(Qq8.mp nd).1 (Qkz hv).1,Z8 hk];simp
 |p::P,w::vs,i+1,m,nd,h1,h2,hk=>by
  unfold bindL;exact qw0 (Qq8.mp nd).2 (by simpa using h1) (by simpa using h2) hk
theorem qw2:∀{P:L Y4}{vs:L Y8}{i:Y0}{m:Y4->Y2 Y8},P.Nodup->P[i]?=Y x->vs[i]?=Y v->a x≠Y .local->
  bindC a (P.zip vs) m x=Y v
 |[],_,_,_,_,h,_,_=>by simp at h
 |_::_,[],_,_,_,_,h,_=>by simp at h
 |p::P,w::vs,0,m,nd,h1,h2,hk=>by
  simp at h1 h2; subst h1; subst h2;show bindC a ((p,w)::P.zip vs) m p=_;unfold bindC;rw[qw1 λv hv=>(Qq8.mp nd).1 (Qkz hv).1,Z7 hk];simp
 |p::P,w::vs,i+1,m,nd,h1,h2,hk=>by
  unfold bindC;exact qw2 (Qq8.mp nd).2 (by simpa using h1) (by simpa using h2) hk
noncomputable def start(N:L Y4)(vs:L V):St:=vs.map Y++List.replicate (N.length - vs.length) B
noncomputable def cxOf(CX:CXT)(P:Program)(w:Qj)(K:Qqq)(mg:Y4->Y2 Y8)(base:Heap)(N:L Y4)(qual:Y4)(scope:Scope)(f:Y7)(cd:Y8)(A:Qk)(outer:L Env)(s:Qz)(H:Hp)(E:XK):Cx where
 prog:=P
 w:=w
 K:=K
 mg:=mg
 base:=base
 A:=A.deeper (envOfC qual scope s.heap.objs.size f cd)
 N:=N
 s₀:=s
 H₀:=H
 env:=envOfC qual scope s.heap.objs.size f cd
 outer:=outer
 stack:=envOfC qual scope s.heap.objs.size f cd::outer
 ex:=[]
 calm:=O
 fn:=λ_=>O
 pn:=[]
 xe:=λe s'=>wpAny (model P w) (A.deeper (envOfC qual scope s.heap.objs.size f cd)) (leaving (envOfC qual scope s.heap.objs.size f cd) e) (λ_ s''=>CX outer H s E e s'') (λe' s''=>CX outer H s E e' s'') s'
def qau{sc:Scope}(h:sc.names.lookup x=Y .cell):∃c,(cellsFrom n sc.names []).lookup x=Y c:=by
 have q:=Qkj sc.names n [] (.inl h);exact Qz4.mp q
def qd6{K:Qqq}(S:FnScope N ps d)(hd:A.handled=B)(j:Env0 P w K mg base A outer s H)(R:vs.length=ps.length)(r:Vals vs us)(x:InCallC s s.heap.objs.size (bindL (envOfC g d s.heap.objs.size f C).kindOf (ps.zip us) λ_=>B) (cellsFrom ?G d.names []) (bindC (envOfC g d s.heap.objs.size f C).kindOf (ps.zip us) λ_=>B) s1):
  Inv (cxOf F P w K mg base N g d f C A outer s H E) [] (start N vs) H s1:=by
 have I:ps.length<=N.length:=by have:=congrArg List.length S.pre; rw[Qzv]at this; omega
 obtain⟨h1,tk,rfl,hk⟩:=x.done;have l:∀b:Y7,b ∉ (cxOf F P w K mg base N g d f C A outer s H E).ex:=λb z=>absurd (show b∈([]:L Y7) from z) (by simp)
 refine⟨⟨j.mod,S.kind,rfl,rfl,Qqv _,λy z c h1 h2=>?_,λy m=>?_,λy c _ h=>?_,λ_=>hd,Around.frames_deeper j.frames,.inr ⟨rfl,rfl⟩,λb z=>absurd z (l b),j.bs,j.bsz,λb _ _=>l b,λb z=>absurd z (l b),j.funs,j.frf⟩,
  rfl,j.bare,Un.kept hk,⟨_,x.toInCall.ns,λi y v h1 h2 T=>?_⟩,λy c h=>⟨_,x.cell y c h⟩,j.hok.fresh (Qqv _),λy c h=>?_,λp t=>absurd (show p∈([]:L (Y7×Obj)) from t) (by simp),j.hok.kept hk,?_⟩
 ·exact name_of_addr x.apart (PySem.mem_of_lookup h1) (PySem.mem_of_lookup h2)
 ·have m:=m;rcases m with m|m
  ·exact qau m
  ·exact absurd rfl (S.nofree _ (PySem.mem_of_lookup m))
 ·exact Qj4 (x.above y c (PySem.mem_of_lookup h))
 ·have hi:i<vs.length:=by
   unfold start at h2
   by_cases hi:i<vs.length
   ·exact hi
   ·rw[Qzg (by simpa using hi)]at h2;rw[Qj9]at h2
    split at h2<;>cases h2
  have Q:vs[i]?=Y v:=by
   unfold start at h2;rw[Qq2 (by simpa using hi),Qqw]at h2
   cases e:vs[i]? with
   |none=>rw[e]at h2; cases h2
   |some a=>rw[e]at h2; cases h2; rfl
  obtain⟨u,D,G⟩:=r.get Q;have t:ps[i]?=Y y:=by
   rw[<- S.pre,Qj5 (by omega)]; exact h1
  have o:ps.Nodup:=by rw[<- S.pre]; exact S.nd.sublist (Qj0 _ _)
  refine⟨u,G,?_⟩;rcases S.par y (Qqe t) with k|k
  ·exact .inl ⟨k,qw0 o t D k⟩
  ·obtain⟨c,e⟩:=qau k;refine .inr ⟨.inl k,c,e,?_⟩;have q:=x.cell y c e;rw[qw2 o t D (by show d.names.lookup y≠_; rw[k]; decide)]at q;exact q
 ·exact j.hok.fresh (Qj4 (x.above y c (PySem.mem_of_lookup h)))
 ·unfold start;show _=N.length;rw[Qqn,Qqz,Qjc];omega
def fn_of{K:Qqq}{kV:Y8}(lk:K.lookup f=Y ⟨oc,od,.func (PySem.W.fnOf name c g body a T kV doc R an d ct),F⟩)(G:PySem.W.codeIn K d c=O)(S:FnScope N ps a)(len:∀vs H Q E,sp vs H Q E->vs.length=ps.length)(l:∀(A:Qk) (outer:L Env) (s:Qz) (H:Hp) (vs:L V) (Q:VK) (E:XK),Room k (A.deeper (envOfC c a s.heap.objs.size f d))->sp vs H Q E->
   ∃t,PSs (cxOf C P w K mg base N c a f d A outer s H E) body t/\t { nx:=λ_ H'=>Q .non H',rt:=Q } (start N vs) H):
  FnOk P w K mg base C (k+1) f (PySem.W.fnOf name c g body a T kV doc R an d ct) ps sp:=by
 refine⟨len,λA outer s H U X vs Q E hr z hb r m=>?_⟩;have hl:=len _ _ _ _ m;have W:=z.mod.kin.keeps λb o e=>(z.bs b o e).1;have lim:=z.mod.nolimit.keeps λb o e=>(z.bs b o e).1;have j:∀y∈ps.zip X,a.names.lookup y.1=Y .local\/(a.names.lookup y.1=Y .cell/\((cellsFrom ?G a.names []).lookup y.1).isSome=O):=λ⟨n,v⟩ hy=>by
  rcases S.par n (Qkz hy).1 with q|q
  ·exact .inl q
  ·exact .inr ⟨q,Qkj _ _ _ (.inl q)⟩
 refine codeAny_call_function hr.depth (W _ _ lk) rfl S.co S.gen rfl (PySem.W.codeRec_of W G) (hb _ _ _ _ ?_);refine wpAny_newFunctionEnv_cells S.kind j λenv he s1 x=>?_;subst he;refine⟨lim.keeps x.toInCall.keep,codeAny_func ?_⟩;obtain⟨t,ht,hq⟩:=l A outer s H vs Q E (hr.deeper _) m;have I:Inv (cxOf C P w K mg base N c a f d A outer s H E) [] (start N vs) H s1:=qd6 S hr.hd z hl r x;refine Qh (ht [] s1 (start N vs) H _ I hq) (λfl s' hs=>?_) λe s' hs=>hs;have p:∀{h:St}{H':Hp}{v:V}{u:Y8},Inv (cxOf C P w K mg base N c a f d A outer s H E) [] h H' s'->RelV v u->Q v H'->CE outer P w H s Q u s':=
  λ{h H' v u} i D q=>⟨v,H',i.os,i.bare,i.base,i.hok,D,q⟩
 cases fl with
 |ret u=>
  obtain⟨v,h,H',i,D,q⟩:=hs;exact p i D q
 |next=>
  obtain⟨h,H',i,q⟩:=hs;exact p (v:=V.non) i rfl q
 |brk=>
  obtain⟨_,_,_,q⟩:=hs;exact False.elim q
 |cont=>
  obtain⟨_,_,_,q⟩:=hs;exact False.elim q
section
variable {X:Cx}{x:Y4}{p pos:Pos}{e:Expr}{es:L Expr}{t:TA}{id:String}{r:L V->Hp->VK->Prop}
noncomputable def tCB(r:L V->Hp->VK->Prop)(t:TA):TE:=λσ H Q=>t σ H λvs H1=>r vs H1 Q
def qqf(hc:qqh X (.builtin id) r)(k:Gl X x)(j:X.mg x=B)(hv:Qc x=Y (.builtin id))(m:PA X (e::es) t)(i:x ≠ "__name__":=by decide)(b:(x==("__debug__" : Y4))=false:=by decide)
  (l:starEach (e::es) X.env=(Y5,Qw e X.env)::starEach es X.env:=by rfl) (a:(backTo pos (starEach es X.env)).any (·.1)=false:=by rfl):PE X (.Call (.Name x p) (e::es) [] pos) (tCB r t):=by
 intro pins s σ H Q I h;refine Zc (qxs I k j hv ?_ i b);exact PyProof.Rows.callWith_builtin1 (thn (m pos pins s σ H _ I h) λc d ⟨vs,H1,n,f,g⟩=>hc pins d σ H1 vs c Q n f g) l a
def qq9(hc:qqh X (.type T) r)(k:Gl X x)(j:X.mg x=B)(hv:Qc x=Y (.type T))(m:PA X (e::es) t)(i:x ≠ "__name__":=by decide)(b:(x==("__debug__" : Y4))=false:=by decide)
  (l:starEach (e::es) X.env=(Y5,Qw e X.env)::starEach es X.env:=by rfl) (a:(backTo pos (starEach es X.env)).any (·.1)=false:=by rfl):PE X (.Call (.Name x p) (e::es) [] pos) (tCB r t):=by
 intro pins s σ H Q I h;refine Zc (qxs I k j hv ?_ i b);exact PyProof.Rows.callWith_type1 (thn (m pos pins s σ H _ I h) λc d ⟨vs,H1,n,f,g⟩=>hc pins d σ H1 vs c Q n f g) l a
end
end L2
namespace HT
open PySem PyProof.Rows
section
open PySem.SeqAt
open PySem.AutoSeq1 (wpAny_loadPart')
open PySem.MeetsSeq PySem.MeetsSeq2 PySem.MeetsSeq3
end
section
def cat_tup(o:IsTup s.heap t vs.toArray)(hb:IsTup s.heap b ws.toArray)(hv:vs≠[])(q:ws=[]->Q (.ref t) s)(p:ws≠[]->Q (.ref s.heap.objs.size) { s with heap:=s.heap.push { cls:=.type "tuple",data:=.seq (vs++ws).toArray } })(hsz:vs.length+ws.length<=sizeLine):wpAny ?q A (Q4 .Add (.ref t) (.ref b)) Q E s:=by
 obtain⟨⟨cls,l,data,sl⟩,i,hc,n,hd⟩:=id o;obtain⟨⟨m,g,j,c⟩,a,f,k,d⟩:=id hb;simp only at hc hd f d;subst hc hd f d;have e:vs.toArray++ws.toArray=(vs++ws).toArray:=by simp
 by_cases h:ws=[]
 ·exact concat_meets ⟨_,i,rfl⟩ ⟨_,a,rfl⟩ noFill_tuple_add seq_tuple_add PySem.F.slot_tuple_add PySem.F.entry_tuple_add (PySem.F.args_tuple_add_2 _ _)
   (tuple_addW1 t b vs.toArray ws.toArray n k l g sl c (by simpa using hv) (by simp[h])) ⟨i,a,q h⟩
 ·refine concat_meets ⟨_,i,rfl⟩ ⟨_,a,rfl⟩ noFill_tuple_add seq_tuple_add PySem.F.slot_tuple_add PySem.F.entry_tuple_add (PySem.F.args_tuple_add_2 _ _)
   (tuple_addW2 t b vs.toArray ws.toArray n k l g sl c (by simpa using hv) (by simpa using h) (by rw[Qqa,Qqa]; exact hsz)) ⟨i,a,?_⟩
  rw[e];exact p h
noncomputable def sIx(n d:Y0):Y2 J->Y0
 |none=>d
 |some v=>if v<0 then(v+(n:J)).toNat else min v.toNat n
def sIx_le(n d)(hd:d<=n)(o):sIx n d o<=n:=by
 cases o with
 |none=>exact hd
 |some v=>
  show(if v<0 then(v+(n:J)).toNat else min v.toNat n)<=n
  by_cases hv:v<0
  ·rw[Z8 hv]; omega
  ·rw[Z7 hv]; exact Nat.min_le_right _ _
def qet(v)(n d:Y0):(if v<0 then max (v+(n:J)) 0 else min v (n:J))=((sIx n d (Y v):Y0):J):=by
 show(if v<0 then max (v+(n:J)) 0 else min v (n:J))=(((if v<0 then(v+(n:J)).toNat else min v.toNat n):Y0):J)
 by_cases hv:v<0
 ·simp only[Z8 hv]; omega
 ·simp only[Z7 hv]; omega
def qb2(lo hi)(n:Y0):Builtin.Slice.sliceAdjust lo hi 1 (n:J)=(((sIx n 0 lo:Y0):J),((sIx n n hi:Y0):J)):=by
 have h1:¬ ((1:J)<0):=by omega
 unfold Builtin.Slice.sliceAdjust;simp only[h1,if_false];refine Prod.ext ?_ ?_
 ·cases lo with
  |none=>rfl
  |some v=>exact qet v n 0
 ·cases hi with
  |none=>rfl
  |some v=>exact qet v n n
def qbw(i j:Y0):Builtin.Slice.slicePlaces (i:J) (j:J) 1=j - i:=by
 unfold Builtin.Slice.slicePlaces;have h1:(1:J) > 0:=by omega
 simp only[h1,if_true,Int.ediv_one]
 split<;>omega
def qkg(p:IsPart v o)(h:Q o s):wpAny ?q A (Builtin.Slice.slicePartIndex v) Q E s:=by
 cases p with
 |none=>exact slicePart_none h
 |int i t=>exact slicePart_int h
def sliceApplied_gen{lo:Y2 J}{Q:J×J×Y0->Qz->Prop}(hs:s.heap.IsSliceOf sl vl c .none)(pl:IsPart vl lo)(d:IsPart c hi)(h:Q (((sIx n 0 lo:Y0):J),1,sIx n n hi - sIx n 0 lo) s):wpAny ?q A (Builtin.Slice.sliceApplied (.ref sl) (pure (n:J))) Q E s:=by
 obtain⟨os,a,e,b⟩:=id hs;unfold Builtin.Slice.sliceApplied Builtin.Slice.sliceFields;refine Qq (Qq (Qv a b rfl (Qq (Qv a b rfl (Qq (Qv a b rfl (Qx ?_)))))));refine Qq (slicePart_none ?_);rw[Z7 (by decide)];refine Qq (qkg pl (Qq (qkg d (Qq (Qx ?_)))));show wpAny _ _ (match Builtin.Slice.sliceAdjust lo hi 1 (n:J) with|(lo,hi)=>pure (lo,(1:J),Builtin.Slice.slicePlaces lo hi 1)) _ _ s;rw[qb2 lo hi n];show wpAny _ _ (pure (((sIx n 0 lo:Y0):J),(1:J),Builtin.Slice.slicePlaces ((sIx n 0 lo:Y0):J) ((sIx n n hi:Y0):J) 1)) _ _ s;rw[qbw];exact Qx h
def qge(xs:Array Y8)(i k:Y0):((List.range k).filterMap λ(m:Y0)=>xs[((i:J)+(m:J)*1).toNat]?).toArray=((xs.toList.drop i).take k).toArray:=by
 have e:(λ(m:Y0)=>xs[((i:J)+(m:J)*1).toNat]?)=λm=>xs[i+m]?:=by
  funext m
  have:((i:J)+(m:J)*1).toNat=i+m:=by omega
  rw[this]
 rw[e];have:=pick_run xs i k;rw[Qxo]at this;have a:((λx=>xs[x]?)∘λx=>i+x)=λm=>xs[i+m]?:=rfl;rw[a]at this;rw[this]
def getItem_tuple_cut{lo:Y2 J}(c:IsTup s.heap t a)(hs:s.heap.IsSliceOf sl vl i .none)(pl:IsPart vl lo)(j:IsPart i hi)(k:¬ (sIx a.size 0 lo=0/\sIx a.size a.size hi=a.size))(h:Q (.ref s.heap.objs.size) { s with heap:=s.heap.push { cls:=.type "tuple",data:=.seq ((a.toList.drop (sIx a.size 0 lo)).take (sIx a.size a.size hi - sIx a.size 0 lo)).toArray } })(hsz:a.size<=sizeLine):wpAny ?q A (Zk (.ref t) (.ref sl)) Q E s:=by
 have b:sizeOk (.seq ((a.toList.drop (sIx a.size 0 lo)).take (sIx a.size a.size hi - sIx a.size 0 lo)).toArray):=by
  show((a.toList.drop (sIx a.size 0 lo)).take (sIx a.size a.size hi - sIx a.size 0 lo)).toArray.size<=sizeLine;rw[Qqa,Qzv,Qjw,Qzu];omega
 have hj:sIx a.size a.size hi<=a.size:=sIx_le _ _ (Qqv _) hi;obtain⟨os,d,f,l⟩:=id hs;have g:s.TypeIs (.ref sl) "slice":=⟨os,d,f⟩
 unfold Zk
 try with_reducible refine Qo ?_
 first|refine Qq (Qx ?_)|skip
 refine Qq (wpAny_sequenceKey c.typeIs (by decide) ?_)
 refine Qq (Qb c.typeIs PyProof.Rows.slot_tuple_getitem
  (Qd PyProof.Rows.slot_tuple_getitem c.typeIs entry_tuple_getitem ?_ (args_tuple_getitem _ _)))
 show wpAny _ _ (Builtin.Tuple.tupleItemsOf (.ref t) >>= _) _ _ s;refine Qq (tupleItemsOf_ c ?_);refine Qq (wpAny_typeOf g ?_);rw[Z8 (by decide)];refine Qq (sliceApplied_gen hs pl j ?_);have e:¬ ((((sIx a.size 0 lo:Y0):J)==0&&(1:J)==1&&(sIx a.size a.size hi - sIx a.size 0 lo)==a.size)=O):=by
  intro q;rw[Qqs,Qqs]at q;have o:=eq_of_beq q.1.1;have n:=eq_of_beq q.2;exact k ⟨by omega,by omega⟩
 show wpAny _ _ (if (((sIx a.size 0 lo:Y0):J)==0&&(1:J)==1&&(sIx a.size a.size hi - sIx a.size 0 lo)==a.size)=O then _ else _) _ _ s;rw[Z7 e,qge]
 first
  |exact Qq (Qi (Qx ⟨_,rfl,Qx h⟩) b)
  |exact Qq (Qi (Qq (Qx (Qx ⟨_,rfl,Qx h⟩))) b)
  |exact Qq (Qq (Qi (Qx (Qx ⟨_,rfl,Qx h⟩)) b))
  |exact Qq (Qq (Qi (Qx ⟨_,rfl,Qx h⟩) b))
end
end HT
namespace L2
open PySem PySem.Spec PyProof.Rows
abbrev TO:=St->Hp->(Y2 J->Hp->Prop)->Prop
def PO(X:Cx)(e:Y2 Expr)(t:TO):Prop:=
 ∀(pins:L (Y7×Obj)) (s:Qz) (σ:St) (H:Hp) (Q:Y2 J->Hp->Prop),Inv X pins σ H s->t σ H Q->
  wpAny ?d X.A (evalPart e X.env) (λu s'=>∃o H',Inv X pins σ H' s'/\IsPart u o/\Q o H') X.xe s
noncomputable def qlk:TO:=λ_ H Q=>Q B H
noncomputable def tPart(t:TE):TO:=λσ H Q=>t σ H λx H1=>∃i,x=.int i/\Q (Y i) H1
def intsAre_of:∀{us},Vals (ns.map V.int) us->Zu us ns:=by
 induction ns with
 |nil=>intro us r; rw[Qxv]at r; cases r; exact .nil
 |cons n ns c=>
  intro us r;rw[Qqm]at r
  cases r with
  |cons b a=>
   obtain⟨t,e⟩:=b;subst e;exact .cons n t (c a)
section
variable {X:Cx}{e:Expr}{te:TE}{lo hi:Y2 Expr}{tl th:TO}{pos p2:Pos}
def ql5:PO X B qlk:=by
 intro pins s σ H Q I h;rw[evalPart_none];exact Qx ⟨B,H,I,.none,h⟩
def ql4(h:PE X e te):PO X (Y e) (tPart te):=by
 intro pins s σ H Q I c;rw[evalPart_some];refine thn (h pins s σ H _ I c) λu f ⟨x,H1,d,a,b⟩=>?_;obtain⟨i,rfl,q⟩:=b;obtain⟨t,rfl⟩:=a;exact⟨Y i,H1,d,.int i t,q⟩
def SlR(X:Cx)(r:V->Y2 J->Y2 J->Hp->VK->Prop):Prop:=
 ∀(pins:L (Y7×Obj)) (s:Qz) (σ:St) (H:Hp) (x:V) (v vl vu:Y8) (lo hi:Y2 J) (sl:Y7) (Q:VK),Inv X pins σ H s->RelV x v->s.heap.IsSliceOf sl vl vu .none->IsPart vl lo->IsPart vu hi->r x lo hi H Q->
  ∃T id,typeLookup (.type T) "__getitem__" = pure (Y (.builtin id))/\s.TypeIs v T/\wpAny ?d X.A (Zk v (.ref sl)) (EP X pins σ Q) X.xe s
noncomputable def tSl(r:V->Y2 J->Y2 J->Hp->VK->Prop)(te:TE)(tl th:TO):TE:=λσ H Q=>te σ H λx H1=>tl σ H1 λl H2=>th σ H2 λu H3=>r x l u H3 Q
def qgg(hr:SlR X r)(w:PE X e te)(t:PO X lo tl)(o:PO X hi th):PE X (.Subscript e (.Slice lo hi B p2) pos) (tSl r te tl th):=by
 intro pins s σ H Q I h;refine Subscript_ (thn (w pins s σ H _ I h) λv g ⟨x,H1,D,i,m⟩=>?_);refine wpAny_Slice (thn (t pins g σ H1 _ D m) λvl f ⟨l,H2,C,pl,k⟩=>thn (o pins f σ H2 _ C k) λc a ⟨u,d,A,n,j⟩=>?_);rw[evalPart_none];refine Qx ?_;have z:Inv X pins σ d { a with heap:=a.heap.push { cls:=.type "slice",data:=.fields #[vl,c,.none] } }:=A.kept λb ob q=>Qqx _ q;obtain⟨T,id,y,p,hg⟩:=hr pins { a with heap:=a.heap.push { cls:=.type "slice",data:=.fields #[vl,c,.none] } } σ d x v vl c l u a.heap.objs.size Q z i (Heap.IsSliceOf.new ..) pl n j;exact tail_any p y hg (by with_unfolding_all rfl)
noncomputable def cutV(xs:L V)(lo hi:Y2 J):L V:=(xs.drop (HT.sIx xs.length 0 lo)).take (HT.sIx xs.length xs.length hi - HT.sIx xs.length 0 lo)
def qj5(xs)(lo hi):(cutV xs lo hi).length<=xs.length:=by
 unfold cutV;rw[Qzv,Qjw];omega
def rSlT(K:Qqq):V->Y2 J->Y2 J->Hp->VK->Prop:=λx lo hi H Q=>∃a xs,x=.ref a/\SqT K H a xs/\
 ¬ (HT.sIx xs.length 0 lo=0/\HT.sIx xs.length xs.length hi=xs.length)/\∀p,H p=B->Q (.ref p) (upd H p (.tup (cutV xs lo hi)))
def sl_tup:SlR X (rSlT X.K):=by
 intro pins s σ H x v vl m lo hi sl Q I i hs pl j h;obtain⟨a,xs,rfl,k,l,q⟩:=h;cases i;obtain⟨d,r,g,f⟩:=I.tuple k;have c:d.toArray.size=xs.length:=by rw[Qqa]; exact r.length.symm
 refine⟨"tuple",_,PyProof.Rows.slot_tuple_getitem.lookup,g.typeIs,?_⟩;refine HT.getItem_tuple_cut g hs pl j (by rw[c]; exact l) ?_ (by rw[c]; exact f);rw[c];refine⟨.ref s.heap.objs.size,_,I.laid (λb ob q=>Qqx _ q) (Qqv _) ?_,rfl,q _ (I.hok.fresh (Qqv _))⟩;exact⟨Qz3 (qj5 xs lo hi) f,_,(r.drop (HT.sIx xs.length 0 lo)).take (HT.sIx xs.length xs.length hi - HT.sIx xs.length 0 lo),IsTup.new _ _⟩
noncomputable def rCatT(K:Qqq):R2:=λx y H Q=>∃a b xs ys,x=.ref a/\y=.ref b/\SqT K H a xs/\SqT K H b ys/\xs≠[]/\xs.length+ys.length<=sizeLine/\
 (ys=[]->Q (.ref a) H)/\(ys≠[]->∀p,H p=B->Q (.ref p) (upd H p (.tup (xs++ys))))
def Vals.nil_iff(r:Vals xs us):us=[]↔xs=[]:=by
 cases r with
 |nil=>simp
 |cons _ _=>simp
def qmh:OpR X (Q4 .Add) (rCatT X.K):=by
 intro pins s σ H x y v u Q I j i h;obtain⟨a,b,xs,ys,rfl,rfl,p,hb,n,g,l,k⟩:=h;cases j;cases i;obtain⟨m,d,p1,_⟩:=I.tuple p;obtain⟨f,c,p2,_⟩:=I.tuple hb;refine HT.cat_tup p1 p2 (λz=>n (d.nil_iff.mp z)) (λz=>⟨.ref a,H,I,rfl,l (c.nil_iff.mp z)⟩) (λz=>?_) (by rw[<- d.length,<- c.length]; exact g);refine⟨.ref s.heap.objs.size,_,I.laid (λb ob q=>Qqx _ q) (Qqv _) ?_,rfl,k (λw=>z (c.nil_iff.mpr w)) _ (I.hok.fresh (Qqv _))⟩;exact⟨by rw[Qqn]; exact g,_,d.append c,IsTup.new _ _⟩
end
noncomputable def ixN(n:Y0)(i:J):Y2 Nat:=if 0<=i then(if i<n then Y i.toNat else B) else if -(n:J)<=i then Y (i+n).toNat else B
noncomputable def atI{α:Type}(xs:L α)(i:J):Y2 α:=(ixN xs.length i).bind λj=>xs[j]?
def qd3(h:ixN n i=Y j):seqIndex? i n=Y j/\j<n/\-(n:J)<=i/\i<n:=by
 unfold ixN at h
 by_cases a:0<=i
 ·rw[Z8 a]at h
  by_cases h1:i<n
  ·rw[Z8 h1]at h;have e:=Option.some.inj h;exact⟨by rw[seqIndex_of a h1,e],by omega,by omega,h1⟩
  ·rw[Z7 h1]at h; cases h
 ·rw[Z7 a]at h
  by_cases h1:-(n:J)<=i
  ·rw[Z8 h1]at h;have e:=Option.some.inj h;exact⟨by rw[seqIndex_neg (by omega) h1,e],by omega,h1,by omega⟩
  ·rw[Z7 h1]at h; cases h
def qfb(h:atI xs i=Y v):∃j,seqIndex? i xs.length=Y j/\xs[j]?=Y v/\j<xs.length/\-(xs.length:J)<=i/\i<xs.length:=by
 unfold atI at h
 cases e:ixN xs.length i with
 |none=>rw[e]at h; cases h
 |some j=>
  rw[e]at h;obtain⟨h1,h2,b,a⟩:=qd3 e;exact⟨j,h1,h,h2,b,a⟩
def qn4(b:Expr):Prop:=∀o i,subscripted b Y5 o i=operate [o,i] (Zk o i)
def IxR(X:Cx)(r:R2):Prop:=
 ∀(value slice:Expr) (pins:L (Y7×Obj)) (s:Qz) (σ:St) (H:Hp) (x y:V) (v u:Y8) (Q:VK),Inv X pins σ H s->RelV x v->RelV y u->r x y H Q->
  subscripted slice Y5 v u=operate [v,u] (Zk v u)->wpAny ?d X.A (subscriptTail value slice v u) (EP X pins σ Q) X.xe s
def MtR(X:Cx)(id:String)(r:V->L V->Hp->VK->Prop):Prop:=
 ∀(pins:L (Y7×Obj)) (s:Qz) (σ:St) (H:Hp) (x:V) (xs:L V) (v:Y8) (us:L Y8) (Q:VK),Inv X pins σ H s->RelV x v->Vals xs us->r x xs H Q->
  wpAny ?d X.A (call (.builtin id) (v::us)) (EP X pins σ Q) X.xe s
section
variable {X:Cx}
def pe_ix(hr:IxR X r)(f:PE X a ta)(hb:PE X b tb)(hs:qn4 b):PE X (.Subscript a b pos) (tOp r ta tb):=by
 intro pins s σ H Q I h;exact Subscript_ (binT f hb I h λv u c x y H2 g e d q=>hr a b pins c σ H2 x y v u Q g e d q (hs _ _))
noncomputable def rIxL(K:Qqq):R2:=λx y H Q=>∃p xs i v,x=.ref p/\y=.int i/\SqL K H p xs/\atI xs i=Y v/\Q v H
noncomputable def rIxT(K:Qqq):R2:=λx y H Q=>∃p xs i v,x=.ref p/\y=.int i/\SqT K H p xs/\atI xs i=Y v/\Q v H
def qnj:IxR X (rIxL X.K):=by
 intro value d pins s σ H x y v u Q I m l h hs;obtain⟨p,xs,i,z,rfl,rfl,n,A,q⟩:=h;cases m;obtain⟨t,rfl⟩:=l;obtain⟨f,r,pl,E⟩:=I.list n;obtain⟨j,h1,h2,F,D,C⟩:=qfb A;obtain⟨w,k,e⟩:=r.get h2;have o:=r.length;have hn:=qww;have c:EP X pins σ Q w s:=⟨z,H,I,e,q⟩
 by_cases g:0<=i
 ·have hj:i.toNat=j:=by
   rw[seqIndex_of g C]at h1;exact Option.some.inj h1
  exact item_listR pl.isList g (by omega) (by rw[hj]; simpa using k) c hs
 ·have hj:(i+(f.toArray.size:J)).toNat=j:=by
   rw[seqIndex_neg (by omega) D]at h1;rw[Qqa,<- o];exact Option.some.inj h1
  exact subscriptTail_builtinR pl.isList.typeIs slot_list_getitem.lookup
   (wpAny_getItem_list_neg pl.isList (by omega) (by rw[Qqa]<;>omega) (by omega) (by rw[hj]; simpa using k) ⟨rfl,c⟩) hs
def ix_tup:IxR X (rIxT X.K):=by
 intro value c pins s σ H x y v u Q I g f h hs;obtain⟨p,xs,i,z,rfl,rfl,l,n,q⟩:=h;cases g;obtain⟨t,rfl⟩:=f;obtain⟨k,r,pl,A⟩:=I.tuple l;obtain⟨j,h1,h2,E,D,C⟩:=qfb n;obtain⟨w,o,d⟩:=r.get h2;have m:=r.length;have hn:=qww;have e:EP X pins σ Q w s:=⟨z,H,I,d,q⟩
 exact subscriptTail_builtinR pl.typeIs slot_tuple_getitem.lookup
  (getItem_tuple pl (by omega) (by omega) (by rw[Qqa,<- m]; exact h1) (by simpa using o) ⟨rfl,e⟩) hs
def qbg(c:L Y8)(n j)(u):Obj.mapSeq (·.setIfInBounds j u) { cls:=.type "list",data:=.seq c.toArray n }={ cls:=.type "list",data:=.seq (c.set j u).toArray n }:=by
 simp[Obj.mapSeq]
theorem Inv.lst(I:Inv X d f H s)(h:H p=Y (.lst xs)):
  ∃(c:L Y8) (n:Y0),Vals xs c/\s.heap.get? p=Y { cls:=.type "list",data:=.seq c.toArray n }/\xs.length<=sizeLine:=by
 obtain⟨z,c,n,r,e⟩:=I.hok p _ h;exact⟨c,n,r,e,z⟩
def Inv.lstUpd{d:L Y8}(I:Inv X c i H s)(h:H p=Y (.lst xs))(k:s.heap.get? p=Y { cls:=.type "list",data:=.seq d.toArray n })(hf:f { cls:=.type "list",data:=.seq d.toArray n }={ cls:=.type "list",data:=.seq its'.toArray g })(r:Vals ys its')(j:ys.length<=sizeLine)(t):
  Inv X c i (upd H p (.lst ys)) { s with heap:=s.heap.update p f,toks:=t }:=by
 have e:(s.heap.update p f).get? p=Y { cls:=.type "list",data:=.seq its'.toArray g }:=by
  rw[Qx0 f k (by rw[hf]<;>rfl),hf]
 refine I.write (by rw[h]; trivial) (.inl rfl) (λb u hb q=>(Qxs _ _ (Ne.symm hb)).trans q) ⟨_,e⟩ ?_;exact⟨j,its',g,r,e⟩
def rSetL:V->V->V->Hp->(Hp->Prop)->Prop:=λo i v H Q=>∃p xs k j,o=.ref p/\i=.int k/\H p=Y (.lst xs)/\ixN xs.length k=Y j/\Q (upd H p (.lst (xs.set j v)))
def set_list:PSet X rSetL:=by
 intro pins s σ H o i v A C u Q I ro y x h;obtain⟨p,xs,k,j,rfl,rfl,f,hj,q⟩:=h;cases ro;obtain⟨t,rfl⟩:=y;obtain⟨c,n,r,d,z⟩:=I.lst f;obtain⟨h1,h2,l,g⟩:=qd3 hj;have e:=r.length;have hn:=qww;have w:=
  I.lstUpd f d (qbg c n j u) (r.set x j) (by rw[Qzs]; exact z) s.toks
 by_cases m:0<=k
 ·have hk:k.toNat=j:=by
   rw[seqIndex_of m g]at h1;exact Option.some.inj h1
  exact PySem.W.ki_setAt d m (by omega) (by rw[Qqa,<- e]; exact g) (by rw[hk]; exact⟨_,w,q⟩)
 ·have hk:(k+(c.toArray.size:J)).toNat=j:=by
   rw[seqIndex_neg (by omega) l]at h1;rw[Qqa,<- e];exact Option.some.inj h1
  exact PySem.W.ki_setBack d (by omega) (by rw[Qqa,<- e]; exact l) (by omega) (by rw[hk]; exact⟨_,w,q⟩)
def qvt(lo hi)(n):(Zv lo hi B n).1=((HT.sIx n 0 lo:Y0):J)/\(Zv lo hi B n).2.1=((HT.sIx n n hi:Y0):J)/\(Zv lo hi B n).2.2=1:=by
 refine⟨?_,?_,rfl⟩
 ·cases lo with
  |none=>simp[Zv,HT.sIx]
  |some i=>
   simp only[Zv,HT.sIx,Option.getD_none,show(1:J) > 0 by decide,if_true]
   by_cases h:i<0
   ·simp only[h,if_true]<;>omega
   ·simp only[h,if_false]<;>omega
 ·cases hi with
  |none=>simp[Zv,HT.sIx]
  |some i=>
   simp only[Zv,HT.sIx,Option.getD_none,show(1:J) > 0 by decide,if_true]
   by_cases h:i<0
   ·simp only[h,if_true]<;>omega
   ·simp only[h,if_false]<;>omega
def qvq(c:L Y8)(lo hi):slicePick c.toArray lo hi B=((c.drop (HT.sIx c.length 0 lo)).take (HT.sIx c.length c.length hi - HT.sIx c.length 0 lo)).toArray:=by
 obtain⟨h1,h2,d⟩:=qvt lo hi c.toArray.size;unfold slicePick;rw[h1,h2,d];simp only[sliceRange_one,pick_run,Qqa]<;>rfl
def rSlL(K:Qqq):V->Y2 J->Y2 J->Hp->VK->Prop:=λx lo hi H Q=>∃a xs,x=.ref a/\SqL K H a xs/\∀p,H p=B->Q (.ref p) (upd H p (.lst (cutV xs lo hi)))
def qlc:SlR X (rSlL X.K):=by
 intro pins s σ H x v vl k lo hi sl Q I e hs pl f h;obtain⟨a,xs,rfl,j,q⟩:=h;cases e;obtain⟨g,r,d,i⟩:=I.list j;have c:=r.length;refine⟨"list",_,slot_list_getitem.lookup,d.isList.typeIs,?_⟩;refine wpAny_getItem_list_slice d.isList hs pl f .none (by simp) ?_ (by rw[Qqa]<;>omega);rw[qvq,<- c];refine⟨.ref s.heap.objs.size,_,I.laid (λb ob q=>Qqx _ q) (Qqv _) ?_,rfl,q _ (I.hok.fresh (Qqv _))⟩;exact⟨Qz3 (qj5 xs lo hi) i,_,0,(r.drop (HT.sIx xs.length 0 lo)).take (HT.sIx xs.length xs.length hi - HT.sIx xs.length 0 lo),Qql _ rfl⟩
def qx1:qqh X (.builtin "len") (λxs H Q=>∃p ys,xs=[.ref p]/\(SqL X.K H p ys\/SqT X.K H p ys)/\Q (.int ys.length) H):=by
 intro pins s σ H xs i Q I r h;obtain⟨p,ys,rfl,d,q⟩:=h;obtain⟨u,rfl,f⟩:=vals1 r;cases f;have hn:=qww;rcases d with d|d
 ·obtain⟨e,r',pl,g⟩:=I.list d;have c:=r'.length;exact Calls.call_len_list pl.isList (by simp only[Qqa]<;>omega) ⟨.int ys.length,H,I.tok _,⟨s.toks+1,by rw[Qqa,c]⟩,q⟩
 ·obtain⟨e,r',pl,g⟩:=I.tuple d;have c:=r'.length;exact len_tuple pl (by simp only[Qqa]<;>omega) ⟨.int ys.length,H,I.tok _,⟨s.toks+1,by rw[Qqa,c]⟩,q⟩
def qx0:qqh X (.type "list") (λxs H Q=>∃p ys,xs=[.ref p]/\(SqL X.K H p ys\/SqT X.K H p ys)/\∀l,H l=B->Q (.ref l) (upd H l (.lst ys))):=by
 intro pins s σ H xs t Q I r h;obtain⟨p,ys,rfl,g,q⟩:=h;obtain⟨u,rfl,m⟩:=vals1 r;cases m;have j:∀(c:L Y8),Vals ys c->ys.length<=sizeLine->∀(h':Heap) (d:Y0),(∀b o',s.heap.get? b=Y o'->h'.get? b=Y o')->
   h'.get? s.heap.objs.size=Y { cls:=.type "list",dict:=B,data:=.seq c.toArray d,slots:=#[] }->EP X pins σ Q (.ref s.heap.objs.size) { s with heap:=h' }:=λc r' f h' d kp e=>
  ⟨.ref s.heap.objs.size,_,I.laid kp (Qqv _) (show ObjOk X.prog X.w _ h' _ (.lst ys) from⟨f,c,d,r',e⟩),rfl,q _ (I.hok.fresh (Qqv _))⟩
 rcases g with g|g
 ·obtain⟨c,r',pl,f⟩:=I.list g;have i:=r'.length;obtain⟨o,k,hc,n,hd⟩:=pl.isList;exact call_list_seq p (.inl rfl) k hc hd (λh' d kp e=>j c r' f h' d kp e) (by simp only[Qqa]<;>omega)
 ·obtain⟨c,r',pl,f⟩:=I.tuple g;have i:=r'.length;obtain⟨o,k,hc,n,hd⟩:=pl;exact call_list_seq p (.inr rfl) k hc hd (λh' d kp e=>j c r' f h' d kp e) (by simp only[Qqa]<;>omega)
def qxa:qqh X (.type "tuple") (λxs H Q=>∃p ys,xs=[.ref p]/\((SqL X.K H p ys/\∀l,H l=B->Q (.ref l) (upd H l (.tup ys)))\/(SqT X.K H p ys/\Q (.ref p) H))):=by
 intro pins s σ H xs m Q I r h;obtain⟨p,ys,rfl,h⟩:=h;obtain⟨u,rfl,j⟩:=vals1 r;cases j;rcases h with⟨d,q⟩|⟨d,q⟩
 ·obtain⟨c,r',pl,f⟩:=I.list d;have g:=r'.length;refine call_tuple_list pl.isList (λh' kp=>?_) (by simp only[Qqa]<;>omega);have i:=I.kept (t':=s.toks) kp;have k:=
   i.laid (t':=s.toks) (λb o e=>Qqx _ e) (Qqv _) (show ObjOk X.prog X.w _ _ _ (.tup ys) from⟨f,c,r',IsTup.new _ _⟩)
  exact⟨.ref h'.objs.size,_,k,rfl,q _ (i.hok.fresh (Qqv _))⟩
 ·obtain⟨c,r',pl,f⟩:=I.tuple d;exact call_tuple_same pl ⟨.ref p,H,I,rfl,q⟩
def tyV(K:Qqq)(T:String)(x:V)(H:Hp):Prop:=match x with
 |.str _=>T = "str"
 |.int _=>T = "int"
 |.ref p=>(T = "list"/\∃xs,SqL K H p xs)\/(T = "tuple"/\∃o,K.lookup p=Y o/\o.cls=.type "tuple"/\o.dict=B)\/
   (T = "dict"/\((∃kvs,H p=Y (.dK kvs))\/∃kvs,H p=Y (.dT kvs)))\/(T = "set"/\∃S n,H p=Y (.set S n))
 |_=>False
def tyV_is(I:Inv X d g H s)(r:RelV x v)(ty:tyV X.K T x H):
  s.TypeIs v T/\∀a,v=.ref a->∃ob,s.heap.get? a=Y ob/\ob.dict=none:=by
 cases x with
 |str z=>
  obtain⟨t,rfl⟩:=r;cases (ty);exact⟨typeIs_str s z t,λ_ e=>nomatch e⟩
 |int i=>
  obtain⟨t,rfl⟩:=r;cases (ty);exact⟨typeIs_int s i t,λ_ e=>nomatch e⟩
 |ref p=>
  cases r;rcases ty with⟨rfl,xs,j⟩|⟨rfl,o,hk,hc,hd⟩|⟨rfl,hk⟩|⟨rfl,S,n,hk⟩
  ·obtain⟨h,_,pl,_⟩:=I.list j;refine⟨pl.isList.typeIs,λa e=>?_⟩;cases e;obtain⟨o,n,e,c,hd,_⟩:=pl;exact⟨o,e,hd⟩
  ·refine⟨⟨o,I.kIn p o hk,hc⟩,λa e=>?_⟩;cases e;exact⟨o,I.kIn _ o hk,hd⟩
  ·have z:∃o,s.heap.get? p=Y o/\o.ExactDict:=by
    rcases hk with⟨kvs,hk⟩|⟨kvs,hk⟩
    ·obtain⟨_,_,_,_,o,_,_,e,ex,_⟩:=I.hok p _ hk;exact⟨o,e,ex⟩
    ·obtain⟨_,_,_,_,o,_,_,e,ex,_⟩:=I.hok p _ hk;exact⟨o,e,ex⟩
   obtain⟨o,e,ex⟩:=z;refine⟨⟨o,e,ex.1⟩,λa f=>?_⟩;cases f;exact⟨o,e,ex.2.1⟩
  ·obtain⟨o,_,_,_,e,ex,_⟩:=I.hok p _ hk;refine⟨⟨o,e,ex.1⟩,λa f=>?_⟩;cases f;exact⟨o,e,ex.2.1⟩
 |_=>exact False.elim ty
noncomputable def tBM(K:Qqq)(T:String)(r:V->L V->Hp->VK->Prop)(to:TE)(t:TA):TE:=λσ H Q=>to σ H λx H1=>tyV K T x H1/\t σ H1 λxs H2=>r x xs H2 Q
variable {o e:Expr}{es:L Expr}{to:TE}{t:TA}{name:Y4}{apos cpos:Pos}{T id:String}{r:V->L V->Hp->VK->Prop}
def qgo(y:PlainAttrs T)(slot:Slot T name id)(i:typeOf (.builtin id)=pure (.type "method_descriptor"))(A:MtR X id r)(z:PE X o to)(C:PA X (e::es) t)
  (f:Zj o name X.env (Qw o X.env)=Qw o X.env:=by rfl)
  (g:((backTo cpos (starEach (e::es) X.env)).all (λx=>!x.1)&&(backToKw cpos (keywordEach [] X.env)).all (λx=>x.1.isSome)
   && decide ((e::es).length+([]:L Zs).length+(if ([]:L Zs).isEmpty then 0 else 1)<30))=true:=by rfl)
  (d:(apos.endLine==cpos.line)=true:=by rfl) (hs:starEach (e::es) X.env=(Y5,Qw e X.env)::starEach es X.env:=by rfl) (c:(backTo cpos (starEach es X.env)).any (·.1)=false:=by rfl) :
  PE X (.Call (.Attribute o name apos) (e::es) [] cpos) (tBM X.K T r to t):=by
 intro pins s σ H Q I h;refine wpAny_Call_method_late f g d rfl (thn (z pins s σ H _ I h) λv p ⟨x,H1,l,j,ty,w⟩=>?_);obtain⟨h1,h2⟩:=tyV_is l j ty;refine⟨T,id,y,slot,i,h1,h2,?_⟩;have k:=C cpos pins p σ H1 _ l w;rw[hs]at k ⊢;refine Calls.callWith_builtin (by show(Y5||(backTo cpos (starEach es X.env)).any (·.1))=Y5; rw[c]<;>rfl) (Calls.evalArgs_plain ?_);exact thn k λm n ⟨vs,H2,D,q,u⟩=>A pins n σ H2 x vs v m Q D j q u
end
def MtM(X:Cx)(id:String)(r:V->L V->Hp->VK->Prop):Prop:=
 ∀(pins:L (Y7×Obj)) (s:Qz) (σ:St) (H:Hp) (x:V) (xs:L V) (v:Y8) (us:L Y8) (Q:VK),Inv X pins σ H s->RelV x v->Vals xs us->r x xs H Q->
  wpAny ?d X.A (call (.builtin id) (v::us)) (EP X pins σ Q) X.xe s
def Vals.one(r:Vals [x] us):∃u,us=[u]/\RelV x u:=vals1 r
def Vals.two(r:Vals [x,y] us):∃u v,us=[u,v]/\RelV x u/\RelV y v:=vals2 r
theorem Vals.rep(h:Vals xs us):∀k:Y0,Vals (List.replicate k xs).flatten (List.replicate k us).flatten
 |0=>.nil
 |k+1=>by
  rw[Qz0,Qz0,Qxw,Qxw];exact Vals.append h (Vals.rep h k)
theorem foldl_rep(its):∀(k:Y0) (a:L Y8),
  List.foldl (λb x2=>b++x2) a.toArray (List.replicate k its.toArray)=(a++(List.replicate k its).flatten).toArray
 |0,a=>by simp
 |k+1,a=>by
  have e:a.toArray++its.toArray=(a++its).toArray:=by simp
  have c:(a++its)++(List.replicate k its).flatten=a++(List.replicate (k+1) its).flatten:=by
   rw[Qz0,Qxw,Qq7]
  rw[<- c,<- foldl_rep its k (a++its),<- e,Qz0,Qjf]
section
def Inv.lset{a:L Y8}(I:Inv X pins σ H s)(g:H l=Y (.lst xs))(e:s.heap.get? l=Y { cls:=.type "list",data:=.seq a.toArray n })(hf:f a.toArray=its'.toArray)(hv:Vals ys its')(c:ys.length<=sizeLine):
  Inv X pins σ (upd H l (.lst ys)) { s with heap:=s.heap.update l (Obj.mapSeq f),toks:=t' }:=by
 have q:=PySem.IsL.update e f;rw[hf]at q;refine I.write (by rw[g]; exact trivial) (.inl rfl) (λh u hb d=>(Qxs s.heap (Obj.mapSeq f) (Ne.symm hb)).trans d) ⟨_,q⟩ ?_;exact⟨c,its',_,hv,q⟩
def Inv.lnew(I:Inv X pins σ H s)(hv:Vals ys a)(c:ys.length<=sizeLine):
  Inv X pins σ (upd H s.heap.objs.size (.lst ys)) { s with heap:=s.heap.push { cls:=.type "list",data:=.seq a.toArray },toks:=t' }:=
 I.laid (λ_ _ q=>Qqx _ q) (Qqv _) ⟨c,a,0,hv,Qql _ rfl⟩
theorem Inv.fresh(I:Inv X pins σ H s):H s.heap.objs.size=none:=I.hok.fresh (Qqv _)
def Inv.lstM(I:Inv X pins σ H s)(c:H l=Y (.lst xs)):xs.length<=sizeLine/\∃(a:L Y8) (n:Y0),Vals xs a/\xs.length=a.length/\s.heap.get? l=Y { cls:=.type "list",data:=.seq a.toArray n }:=by
 obtain⟨z,a,n,r,e⟩:=I.hok l _ c;exact⟨z,a,n,r,r.length,e⟩
def qak(h:n<=sizeLine):Builtin.List.listTooLong n=false:=by
 unfold Builtin.List.listTooLong;exact Z6 (by omega)
end
section
def qlr:V->L V->Hp->VK->Prop:=λx vs H Q=>∃l xs y,x=.ref l/\vs=[y]/\H l=Y (.lst xs)/\xs.length<sizeLine/\Q .non (upd H l (.lst (xs++[y])))
def qdg:MtM X "list.append" qlr:=by
 intro pins s σ H x vs v g Q I c d h;obtain⟨l,xs,y,rfl,rfl,b,i,q⟩:=h;cases c;obtain⟨u,rfl,f⟩:=d.one;obtain⟨z,a,n,r,j,e⟩:=I.lstM b;refine Q0 F.slot_list_append ⟨_,e,rfl⟩ F.entry_list_append (F.args_list_append_2 _ _) (PySem.list_append l a.toArray n u (by rw[Qqa]; omega)) ⟨e,?_⟩;refine⟨.non,_,I.lset b e (by simp) (r.append (.cons f .nil)) ?_,rfl,q⟩;rw[Qqn,Qz1];omega
def len_rep{α:Type}(xs:L α)(k):(List.replicate k xs).flatten.length=k*xs.length:=by
 induction k with
 |zero=>simp
 |succ k a=>rw[Qz0,Qxw,Qqn,a,Nat.succ_mul,Nat.add_comm]
end
section
end
section
end
end L2
namespace Att
open PySem PySem.W PySem.Calls PyProof.Rows
def qj0:∀(ns:L J) (vs:L Y8),WellAll P h vs (ns.map WData.int)->Zu vs ns:=by
 intro ns
 induction ns with
 |nil=>
  intro vs w;rw[Qxv]at w;cases w;exact .nil
 |cons n ns c=>
  intro vs w;rw[Qqm]at w
  cases w with
  |cons a b=>
   cases a;exact .cons _ _ (c _ b)
def qcr{l:OpenLaw}(p:l.most=Y n)(c:l.row.toRowW.claim.pre args=O)(j:WellAll P h b args):
  ∃a vs ns,b=[Value.ref a]/\args=[WData.list (ns.map WData.int)]/\h.get? a=Y { cls:=.type "list",data:=.seq vs.toArray }/\Zu vs ns/\ns.length<=n:=by
 have k:=(pre_splitW c).1;have hc:l.pre.holds [] { args:=args }=true:=(pre_splitW c).2;obtain⟨d,r,rfl,h1,h2⟩:=hasAllW_cons k;obtain rfl:=hasAllW_nil h2;obtain⟨xs,rfl,s⟩:=hasW_list h1;obtain⟨ns,rfl⟩:=items_int s;have e:ns.length<=n:=by
  unfold OpenLaw.pre at hc;have i:(WTm.not (.lt (.lit (.int (n:J))) (.len (.arg 0)))).holds [] { args:=[.list (ns.map .int)] }=true:=by
   have i:=(holds_andW hc).1;rw[p]at i;exact i
  have g:=condW_of i (w_not (w_lt w_lit (w_len_list (w_arg rfl))));rw[Qqz]at g;refine Nat.le_of_not_lt λq=>?_;have m:(n:J)<((ns.length:Y0):J):=by omega
  first
   |(rw[Z5 m]at g; exact absurd g (by decide))
   |(simp at g; omega)
 cases j with
 |cons w1 w2=>
  cases w2
  cases w1 with
  |list o f=>exact⟨_,_,ns,rfl,rfl,o,qj0 ns _ f,e⟩
def qc5(l:OpenLaw)(args):l.row.toRowW.claim.post args (.bool O) args=true:=
 postW_of
  (by first|rfl|decide|simp[WShape.has,WShape.arms,WShape.armsAll])
  (show(WTm.eq .res (.lit (.bool O))).value [] { args:=args,res:=Y (.bool O),after:=args }=Y (.bool (O==O)) from w_eq_bool (w_res rfl) w_lit) rfl
def attach_call{l:OpenLaw}(E:l.most=Y n)(t:d.params.defaults=[])(call:∀(w:Qj) (s₀ b:Qz) (mg m:Y4->Y2 Y8) (i:Y7) (o:Obj) (k j doc:Y8) (a:Y7) (vs:L Y8) (ns:L J),
   Ground q loose [] XP w s₀ mg m b.heap->YP w b.heap->
   b.heap.get? i=Y o->o.data=.func (docDef d.name d.params d.body d.scope k j doc)->b.heap.CodeRec j d.name->mg d.name=Y (.ref i)->
   b.heap.get? a=Y { cls:=.type "list",data:=.seq vs.toArray }->Zu vs ns->ns.length<=n->b.gens=#[]->
   Zd (model l.prog w) Z1 (.call (.ref i) ⟨[.ref a],[]⟩) (λr s'=>r=.ok (.ret (.bool O))/\OldK b.heap s'.heap/\s'.os=b.os/\Zn s'.gens) b):
  WalkO q loose XP YP l.row.toRowW d [] (λf vs=>PySem.call f vs):=by
 intro w s₀ b mg m G P i o k j doc N kV D hd u y s hg z v Q e x A p H;obtain rfl:N=.none:=Dflts.none y t;obtain rfl:kV=.none:=Dflts.noKw y;obtain⟨a,vs,ns,rfl,rfl,g,c,h⟩:=qcr E e p;refine enter_call (Zq (call w s₀ b mg m i o k j doc a vs ns G P D (fd_plain hd) u s g c h hg) λr s' C=>?_);obtain⟨rfl,h2,K,I⟩:=C;exact⟨.inl ⟨.bool O,.bool O,[],rfl,λ_=>rfl,.bool O,qc5 l _,λ_=>⟨List.Pairwise.nil,λ_ F=>(nomatch F)⟩⟩,h2,K,I⟩
section
end
end Att
namespace L2
open PySem PySem.Spec PyProof.Rows
theorem qq8:∀{vs}{ns},Zu vs ns->Vals (ns.map V.int) vs
 |_,_,.nil=>.nil
 |_,_,.cons n t h=>.cons ⟨t,rfl⟩ (qq8 h)
def Only(H:Hp):Prop:=∀b,H b=B\/∃o xs,H b=Y (.frz o (.lst xs))
def qg6{K:Qqq}(KX:K.In s₁.heap)(t:s₁.heap.Ns mainGlobals mg)(hb:s₁.heap.Ns builtinsNs E)(I:∀x:Y4,x ≠ "__name__"->E x=Qc x)(y:s₁.heap.NoLimit)(hg:s₁.gens=#[])(C:s₁.heap.get? a=Y { cls:=.type "list",data:=.seq vs.toArray })(hi:Zu vs ns)(U:ns.length<=sizeLine)(hr:Room k Z1)(F:∀base:Heap,K.In base->base.Ns mainGlobals mg->FnOk P w K mg base CX k Q fd [x] S)(i:∀(s:Qz) (u:Y8),BindsTo s fd ⟨[u],[]⟩ [(x,u)])(G:∀H:Hp,Only H->SqL K H a (ns.map V.int)->S [.ref a] H (λv _=>v=.bl O) λ_ _ _=>False)(N:∀H e s',CX [] H s₁ (λ_ _ _=>False) e s'->False):
  Zd (model P w) Z1 (.call (.ref Q) ⟨[.ref a],[]⟩) (λr s'=>r=.ok (.ret (.bool O))/\OldK s₁.heap s'.heap/\s'.os=s₁.os/\Zn s'.gens) s₁:=by
 have T:=qq8 hi;have l:=hi.length;have g:∀H:Hp,Only H->SqL K H a (ns.map V.int)->HOk P w H s₁.heap->(∀b,H b≠B->b=a)->(H a≠B->K.lookup a=B)->
   Zd (model P w) Z1 (.call (.ref Q) ⟨[.ref a],[]⟩) (λr s'=>r=.ok (.ret (.bool O))/\OldK s₁.heap s'.heap/\s'.os=s₁.os/\Zn s'.gens) s₁:=by
  intro H W hS hok X hK;have c:∀{b:Y7}{o:Obj},s₁.heap.get? b=Y o->H b=B->(hidT s₁.heap H).get? b=Y o:=λe n=>qhq e n;have D:∀{b:Y7}{o:Obj}{es:Array Q3}{ep:Y0},s₁.heap.get? b=Y o->o.data=.dict es ep->H b=none:=λ{b o es ep} e d=>by
   cases q:H b with
   |none=>rfl
   |some u=>
    have R:=X b (by rw[q]; simp);subst R;rw[C]at e; cases e;have d':=d;cases d'
  have f:∀{b:Y7}{m:Y4->Y2 Y8},s₁.heap.Ns b m->(hidT s₁.heap H).Ns b m:=λ{b m} ⟨o,es,ep,e,d,r⟩=>⟨o,es,ep,c e (D e d),d,r⟩
  have A:=λb o e=>c (KX b o e) (by
   cases q:H b with
   |none=>rfl
   |some u=>
    have R:=X b (by rw[q]; simp);subst R
    rw[hK (by rw[q]; simp)]at e; cases e)
  have hM:Mod K mg (hidT s₁.heap H):=⟨A,f t,⟨E,f hb,I⟩,let ⟨mc,h1,h2⟩:=y; ⟨mc,f h1,h2⟩⟩
  have e0:Env0 P w K mg (hidT s₁.heap H) Z1 [] s₁ H:=⟨rfl,hM,λb o e=>qmn e,Nat.le_of_eq (qeq _ _),trivial,λb hb=>absurd (show b∈([]:L Y7) from hb) (by simp),hok,.of_eq hg⟩
  refine Zq ((F _ A (f t)).run Z1 [] s₁ H ⟨[.ref a],[]⟩ [.ref a] [.ref a] _ _ hr e0 (i s₁ (.ref a)) (.cons rfl .nil) (G H W hS)) λr s' h=>?_
  cases r with
  |error e=>exact(N H e s' h).elim
  |ok fl=>
   cases fl with
   |next=>exact False.elim h
   |brk=>exact False.elim h
   |cont=>exact False.elim h
   |ret u=>
    obtain⟨v,H',os,bare,un,p,r',q⟩:=h;have q':=q;subst q';obtain rfl:u=Value.bool true:=r';refine⟨rfl,OldK.of_keep λb o e=>?_,os,bare⟩
    cases q:H b with
    |none=>exact un.keep b o e q (by intro z; exact absurd (show b∈([]:L Y7) from z) (by simp)) (by simp)
    |some u=>
     rcases W b with z|⟨ob,xs,z⟩
     ·rw[q]at z; cases z
     ·have z2:=un.frzs b ob _ z;obtain⟨e1,_⟩:=hok b _ z;obtain⟨e2,_⟩:=p b _ z2;rw[e]at e1; cases e1;exact e2
 cases hk:K.lookup a with
 |some o=>
  have e:=KX a o hk;rw[C]at e;cases e;refine g (λ_=>B) (λ_=>.inl rfl) (.inr ⟨_,vs.toArray,_,hk,rfl,rfl,rfl,by rw[Qqa,l]; exact U,by simpa using T⟩) (λb u z=>by have j:=z; cases j) (λb z=>absurd rfl z) λz=>absurd rfl z
 |none=>
  refine g (λb=>if b=a then Y (.frz { cls:=.type "list",data:=.seq vs.toArray } (.lst (ns.map V.int))) else B) (λb=>?_) (.inl (.inr ⟨{ cls:=.type "list",data:=.seq vs.toArray },Z8 rfl⟩)) (λb u z=>?_) (λb z=>?_) λ_=>hk
  ·by_cases hb:b=a
   ·exact .inr ⟨_,_,Z8 hb⟩
   ·exact .inl (Z7 hb)
  ·by_cases hb:b=a
   ·have j:=(Z8 hb).symm.trans z;cases j;subst hb;exact⟨C,by rw[Qqz]; exact U,vs,_,T,C⟩
   ·have j:=(Z7 hb).symm.trans z;cases j
  ·by_cases hb:b=a
   ·exact hb
   ·exact absurd (Z7 hb) z
def walk_of{l:PySem.W.OpenLaw}{K:Qr->Qqq}{D:Qj->CXT}{A:Qj->Sp}(E:l.most=Y n)(r:n<=sizeLine)(y:d.params.defaults=[])(hr:Room k Z1)(N:∀(w:Qj) (h:Heap),YP w h->(K w.params).In h)(F:∀(w:Qj) (mg:Y4->Y2 Y8) (j:Y7) (h:Heap),(K w.params).In h->h.Ns mainGlobals mg->mg d.name=Y (.ref j)->
   ∃fd:Qp,(∀(s:Qz) (u:Y8),BindsTo s fd ⟨[u],[]⟩ [(x,u)])/\
    ∀base:Heap,(K w.params).In base->base.Ns mainGlobals mg->FnOk l.prog w (K w.params) mg base (D w) k j fd [x] (A w))(p:∀(w:Qj) (H:Hp) (a:Y7) (ns:L J),ns.length<=n->Only H->SqL (K w.params) H a (ns.map V.int)->A w [.ref a] H (λv _=>v=.bl O) λ_ _ _=>False)(z:∀(w:Qj) (H:Hp) (s:Qz) (e:Y8) (m:Qz),D w [] H s (λ_ _ _=>False) e m->False):
  PySem.W.WalkO q loose XP YP l.row.toRowW d [] (λf vs=>PySem.call f vs):=by
 refine Att.attach_call E y λw s₀ g mg U j o T X doc a vs ns G S W hd I t i c b hg=>?_;have C:=N w _ S;obtain⟨fd,hb,R⟩:=F w mg j _ C G.T.g t;exact qg6 C G.T.g G.T.b G.T.builtins G.T.nolimit hg i c (Qz3 b r) hr R hb (λH Q P=>p w H a ns b Q P) λH e m=>z w H g e m
noncomputable abbrev CX0:CXT:=λ_ _ _ _ _ _=>False
noncomputable abbrev E0:XK:=λ_ _ _=>False
def qgp:qkz CX0 X E0:=λ_ _ _ _ _ _ _ h=>h.elim
structure Fun (K:Qqq) (x qual:Y4) (st:Stmt) (f:Y7) (fd:Qp):Prop where
 ex:∃(oc:Y8) (od:Y2 Y7) (kV doc pm:Y8) (an:Y2 Y7) (cdv ct:Y8) (osl:Array (Y2 Y8)),
  fd=PySem.W.fnOf x qual (qqg st) (qz0 st) (qzd st) .none kV doc pm an cdv ct/\K.lookup f=Y ⟨oc,od,.func fd,osl⟩/\PySem.W.codeIn K cdv qual=O
 kp:Qzt K (.ref f)=O
section
variable {P:Program}{w:Qj}{K:Qqq}{mg:Y4->Y2 Y8}{base:Heap}
def Fun.ok{st:Stmt}(F:Fun K x a st f fd)(S:FnScope N ps (qzd st))(len:∀vs H Q E,sp vs H Q E->vs.length=ps.length)(c:∀(b:Y8) (A:Qk) (outer:L Env) (s:Qz) (H:Hp) (vs:L V) (Q:VK) (E:XK),Room k (A.deeper (envOfC a (qzd st) s.heap.objs.size f b))->sp vs H Q E->
   ∃t,PSs (cxOf CX0 P w K mg base N a (qzd st) f b A outer s H E).nox (qz0 st) t/\t { nx:=λ_ H'=>Q .non H',rt:=Q } (start N vs) H):FnOk P w K mg base CX0 (k+1) f fd ps sp:=by
 obtain⟨l,j,kV,doc,i,an,b,ct,g,rfl,lk,e⟩:=F.ex;refine fn_of lk e S len λA outer s H vs Q E hr d=>?_;obtain⟨t,h,q⟩:=c b A outer s H vs Q E hr d;exact⟨t,h.nox,q⟩
def Fun.binds{st:Stmt}(F:Fun K x a st f fd)(h:∀(kV doc c:Y8) (an:Y2 Y7) (b ct:Y8) (us:L Y8),us.length=ps.length->bindArgs (PySem.W.fnOf x a (qqg st) (qz0 st) (qzd st) .none kV doc c an b ct) ⟨us,[]⟩=pure (ps.zip us)):Binds K fd ps []:=by
 obtain⟨i,g,kV,doc,c,an,b,ct,d,rfl,lk,e⟩:=F.ex;exact .all (h kV doc c an b ct)
def qwg{st:Stmt}{kV:Y8}(l:K.lookup f=Y ⟨h,g,.func (PySem.W.fnOf x a (qqg st) (qz0 st) (qzd st) .none kV doc e an b ct),d⟩)(c:PySem.W.codeIn K b a=O)(k:Qzt K (.ref f)=O):Fun K x a st f (PySem.W.fnOf x a (qqg st) (qz0 st) (qzd st) .none kV doc e an b ct):=⟨⟨h,g,kV,doc,e,an,b,ct,d,rfl,l,c⟩,k⟩
end
section
end
def Same(H H':Hp):Prop:=∀b o,H b=Y o->H' b=Y o
end L2
end
section
namespace L2
open PySem PySem.Spec PyProof.Rows
section
variable [DecidableEq κ]
noncomputable def valV(kvs:L (κ×V))(k:κ):Y2 V:=(kvs.find? λkv=>decide (kv.1=k)).map (·.2)
noncomputable def putK(kvs:L (κ×V))(k:κ)(v:V):L (κ×V):=
 if (kvs.any λkv=>decide (kv.1=k))=O then kvs.map (λkv=>if kv.1=k then(kv.1,v) else kv) else kvs++[(k,v)]
def qx4{p:κ×V}(e:p.1=k):valV (p::r) k=Y p.2:=by simp[valV,Qzb,e]
def qx5{p:κ×V}(e:¬ p.1=k):valV (p::r) k=valV r k:=by simp[valV,Qzb,e]
theorem qyp(k):∀kvs:L (κ×V),(kvs.any λa=>decide (a.1=k))=(valV kvs k).isSome
 |[]=>rfl
 |p::r=>by
  rw[Qxf]
  by_cases e:p.1=k
  ·simp only[qx4 e,Z5 e,Bool.true_or,Option.isSome_some]
  ·rw[qx5 e,Z6 e,Bool.false_or]; exact qyp k r
def qq4(kvs:L (κ×V))(k)(v):(putK kvs k v).length<=kvs.length+1:=by
 unfold putK
 split
 ·rw[Qqz]; omega
 ·rw[Qqn,Qqg,Qxp]; omega
def RelO.isSome_eq(r:RelO o u):o.isSome=u.isSome:=by
 cases o with
 |none=>cases u with
  |none=>rfl
  |some _=>exact(r).elim
 |some _=>cases u with
  |none=>exact(r).elim
  |some _=>rfl
theorem RelO.getD(r:RelO o u)(rd:RelV d d'):RelV (o.getD d) (u.getD d'):=by
 cases o with
 |none=>cases u with
  |none=>exact rd
  |some _=>exact(r).elim
 |some _=>cases u with
  |none=>exact(r).elim
  |some _=>exact r
def KV.val(r:KV kvs vs)(k:κ):RelO (valV kvs k) (valueAt vs k):=by
 unfold KV at r
 induction r with
 |nil=>exact True.intro
 |@cons p q ps a h t d=>
  obtain⟨h1,h2⟩:=h
  by_cases e:p.1=k
  ·have c:=h1.symm.trans e;have b:valueAt (q::a) k=Y q.2:=by simp[valueAt,Qzb,c]
   rw[qx4 e,b]; exact h2
  ·have c:¬ q.1=k:=λz=>e (h1.trans z);have b:valueAt (q::a) k=valueAt a k:=by simp[valueAt,Qzb,c]
   rw[qx5 e,b]; exact d
theorem KV.any(r:KV kvs vs)(k:κ):(kvs.any λa=>decide (a.1=k))=vs.any λa=>decide (a.1=k):=by
 unfold KV at r
 induction r with
 |nil=>rfl
 |cons h t b=>rw[Qxf,Qxf,b,h.1]
def KV.repl(r:KV kvs vs)(k:κ)(b:RelV y u):
  KV (kvs.map λa=>if a.1=k then(a.1,y) else a) (vs.map λa=>if a.1=k then(a.1,u) else a):=by
 unfold KV at r ⊢
 induction r with
 |nil=>exact .nil
 |@cons p q ps d h t c=>
  rw[Qqm,Qqm];refine .cons ?_ c;obtain⟨h1,h2⟩:=h
  by_cases e:p.1=k
  ·rw[Z8 e,Z8 (h1.symm.trans e)]; exact⟨h1,b⟩
  ·rw[Z7 e,Z7 (λz=>e (h1.trans z))]; exact⟨h1,h2⟩
def KV.put(r:KV kvs vs)(k:κ)(a:RelV y u):KV (putK kvs k y) (stored vs k u):=by
 unfold putK stored;rw[r.any k]
 by_cases e:(vs.any λb=>decide (b.1=k))=O
 ·rw[Z8 e,Z8 e]; exact r.repl k a
 ·rw[Z7 e,Z7 e]; exact Paired.snoc r ⟨rfl,a⟩
def KV.keys{kvs:L (κ×V)}(r:KV kvs vs):kvs.map (·.1)=vs.map (·.1):=by
 unfold KV at r
 induction r with
 |nil=>rfl
 |cons h t a=>rw[Qqm,Qqm,a,h.1]
theorem KV.length{kvs:L (κ×V)}(r:KV kvs vs):kvs.length=vs.length:=Paired.length r
end
def qkv(r:RelV (kV k) u):(mixKind P w).is k u=true:=by
 cases k with
 |inl i=>obtain⟨t,e⟩:=(r); subst e; exact qyk P w i t
 |inr x=>obtain⟨t,e⟩:=(r); subst e; exact qq3 P w x t
theorem qwy:∀{ks}{us},Vals (ks.map kV) us->ItemsAre (mixKind P w) ks us
 |[],_,r=>by rw[Qxv]at r; cases r; exact .nil
 |k::ks,_,r=>by
  rw[Qqm]at r
  cases r with
  |cons h t=>exact .cons (qkv h) (qwy t)
abbrev KT(H:Hp):L (L Key×V)->L (L Key×Y7×Y8)->Prop:=Paired λp q=>p.1=q.1/\H q.2.1=Y (.tup (p.1.map kV))/\RelV p.2 q.2.2
def KT.val(r:KT H kvs xs)(k):RelO (valV kvs k) ((atKey xs k).map (·.2)):=by
 induction r with
 |nil=>exact True.intro
 |@cons p q ps a h t d=>
  obtain⟨h1,_,h2⟩:=h
  by_cases e:p.1=k
  ·have c:=h1.symm.trans e;have b:atKey (q::a) k=Y q.2:=by simp[atKey,Qzb,c]
   rw[qx4 e,b]; exact h2
  ·have c:¬ q.1=k:=λz=>e (h1.trans z);have b:atKey (q::a) k=atKey a k:=by simp[atKey,Qzb,c]
   rw[qx5 e,b]; exact d
def KT.repl(r:KT H kvs xs)(k)(b:RelV y u):
  KT H (kvs.map λa=>if a.1=k then(a.1,y) else a) (xs.map (putAt k u)):=by
 induction r with
 |nil=>exact .nil
 |@cons p q ps f h t c=>
  rw[Qqm,Qqm];refine .cons ?_ c;obtain⟨h1,h2,d⟩:=h;unfold putAt
  by_cases e:p.1=k
  ·rw[Z8 e,Z8 (h1.symm.trans e)]; exact⟨h1,h2,b⟩
  ·rw[Z7 e,Z7 (λz=>e (h1.trans z))]; exact⟨h1,h2,d⟩
def KT.put(r:KT H kvs xs)(k)(hb:H b=Y (.tup (k.map kV)))(a:RelV y u):
  KT H (putK kvs k y) (storedH xs k b u):=by
 have e:(kvs.any λc=>decide (c.1=k))=(atKey xs k).isSome:=by
  rw[qyp,(r.val k).isSome_eq,Qj1]
 unfold putK storedH;rw[e]
 by_cases q:(atKey xs k).isSome=O
 ·rw[Z8 q,Z8 q]; exact r.repl k a
 ·rw[Z7 q,Z7 q]; exact Paired.snoc r ⟨rfl,hb,a⟩
def KT.keeps(r:KT H kvs xs)(a:∀b ys,H b=Y (.tup ys)->H' b=Y (.tup ys)):KT H' kvs xs:=
 Paired.mapP r λ_ _ z=>⟨z.1,a _ _ z.2.1,z.2.2⟩
section
def rd_of(ok:HOk P w H h)(e:Rd H a u):ObjOk P w H h a u:=e.ok ok
def qwh(ok:HOk P w H h)(e:Rd H a (.dK kvs)):kvs.length<=sizeLine/\(a==Qm)=Y5/\∃vs,KV kvs vs/\h.DictOf (mixKind P w) a vs:=
 show ObjOk P w H h a (.dK kvs) from rd_of ok e
def dk_of(ok:HOk P w H h)(e:H a=Y (.dK kvs)):kvs.length<=sizeLine/\(a==Qm)=Y5/\∃vs,KV kvs vs/\h.DictOf (mixKind P w) a vs:=qwh ok (.inl e)
def qqu(ok:HOk P w H h)(e:H a=Y (.tup (ks.map kV))):(tupleKind (mixKind P w)).is h ks a:=by
 obtain⟨_,b,r,o,h1,h2,n,c⟩:=(ok a _ e)
 exact⟨o,b.toArray,n,h1,h2,c,by simpa using qwy r⟩
def qyg(ok:HOk P w H h)(e:Rd H a (.dT kvs)):kvs.length<=sizeLine/\(a==Qm)=Y5/\
  ∃xs,KT H kvs xs/\h.DictOfH (tupleKind (mixKind P w)) a xs:=by
 obtain⟨z,y,xs,r,o,es,j,h1,h2,i,g,f⟩:=(rd_of ok e)
 refine⟨z,y,xs,r,o,es,j,h1,h2,i,g,λx b=>?_,f⟩;have all:∀{l:L (L Key×V)}{m:L (L Key×Y7×Y8)},KT H l m->∀x∈m,(tupleKind (mixKind P w)).is h x.1 x.2.1:=by
  intro l m q
  induction q with
  |nil=>intro x b; exact nomatch b
  |@cons p q ps k c t d=>
   intro x b;rcases Qqy.mp b with e|b
   ·subst e;exact qqu ok (by rw[<- c.1]; exact c.2.1)
   ·exact d x b
 exact all r x b
def dt_of(ok:HOk P w H h)(e:H a=Y (.dT kvs)):kvs.length<=sizeLine/\(a==Qm)=Y5/\
  ∃xs,KT H kvs xs/\h.DictOfH (tupleKind (mixKind P w)) a xs:=qyg ok (.inl e)
end
def DGet(H:Hp)(a:Y7)(y:V)(r:Y2 V):Prop:=
 (∃kvs k,Rd H a (.dK kvs)/\y=kV k/\r=valV kvs k)\/∃kvs k b,Rd H a (.dT kvs)/\y=.ref b/\H b=Y (.tup (k.map kV))/\r=valV kvs k
def DPut(H:Hp)(a:Y7)(y v:V)(H':Hp):Prop:=
 (∃kvs k,H a=Y (.dK kvs)/\y=kV k/\kvs.length<sizeLine/\H'=upd H a (.dK (putK kvs k v)))\/
 ∃kvs k b,H a=Y (.dT kvs)/\y=.ref b/\H b=Y (.tup (k.map kV))/\kvs.length<sizeLine/\H'=upd H a (.dT (putK kvs k v))
theorem DPut.k{H:Hp}{a:Y7}{kvs:L (Key×V)}{k:Key}{v:V}(e:H a=Y (.dK kvs))(b:kvs.length<sizeLine):DPut H a (kV k) v (upd H a (.dK (putK kvs k v))):=.inl ⟨kvs,k,e,rfl,b,rfl⟩
section
def Inv.big(I:Inv X pins σ H s):Qm<s.heap.objs.size:=by
 have h:=(I.mod.glob.keeps I.bk).lt;exact Nat.lt_trans (by decide) h
def qer(t:A.units+1<cLine)(I:Inv X pins σ H s)(g:DGet H a y (Y v))(q:RelV y u)(h:∀f s',Inv X pins σ H s'->RelV v f->Q f s'):
  wpAny ?d A (Zk (.ref a) u) Q E s:=by
 rcases g with⟨kvs,k,e,m,l⟩|⟨kvs,k,b,e,m,x,l⟩
 ·subst m;obtain⟨z,hd,vs,d,n⟩:=qwh I.hok e;obtain⟨f,i,c⟩:=RelO.some_of (by rw[l]; exact d.val k);exact wpAny_getItem_of (qkv q) n.mapOf i (h f _ (I.tok _) c)
 ·subst m;cases (q);obtain⟨z,hd,xs,d,n⟩:=qyg I.hok e;obtain⟨f,i,c⟩:=RelO.some_of (by rw[l]; exact d.val k);obtain⟨p,w,j⟩:=Qqd.mp i;refine wpAny_getItem_heap (Q8 t) (qqu I.hok x) n w ?_;rw[j];exact h f _ (I.tok _) c
def d_in(j:A.units+1<cLine)(I:Inv X pins σ H s)(g:DGet H a y o)(i:RelV y u)(h:∀s',Inv X pins σ H s'->Q (.bool o.isSome) s'):
  wpAny ?d A (Qg .In u (.ref a)) Q E s:=by
 rcases g with⟨kvs,k,e,d,l⟩|⟨kvs,k,b,e,d,m,l⟩
 ·subst d;obtain⟨z,hd,vs,c,f⟩:=qwh I.hok e;refine wpAny_in_of (qkv i) hd f.mapOf ?_;rw[<- (c.val k).isSome_eq,<- l];exact h _ (I.tok _)
 ·subst d;cases (i);obtain⟨z,hd,xs,c,f⟩:=qyg I.hok e;refine wpAny_in_heap (Q8 j) (qqu I.hok m) hd f ?_;have q:=(c.val k).isSome_eq;rw[Qj1]at q;rw[<- q,<- l];exact h _ (I.tok _)
def qnr(j:A.units+1<cLine)(I:Inv X pins σ H s)(g:DGet H a y o)(i:RelV y u)(h:∀s',Inv X pins σ H s'->Q (.bool (!o.isSome)) s'):
  wpAny ?d A (Qg .NotIn u (.ref a)) Q E s:=by
 rcases g with⟨kvs,k,e,d,l⟩|⟨kvs,k,b,e,d,m,l⟩
 ·subst d;obtain⟨z,hd,vs,c,f⟩:=qwh I.hok e;refine wpAny_notIn_of (qkv i) hd f.mapOf ?_;rw[<- (c.val k).isSome_eq,<- l];exact h _ (I.tok _)
 ·subst d;cases (i);obtain⟨z,hd,xs,c,f⟩:=qyg I.hok e;refine wpAny_notIn_heap (Q8 j) (qqu I.hok m) hd f ?_;have q:=(c.val k).isSome_eq;rw[Qj1]at q;rw[<- q,<- l];exact h _ (I.tok _)
def qyl(I:Inv X pins σ H s)(c:Mut (H a))(hs:Heap.SameBut a s.heap h')(d:∃q,h'.get? a=Y q)(new:ObjOk X.prog X.w (upd H a ob) h' a ob):
  Inv X pins σ (upd H a ob) { s with heap:=h',toks:=t' }:=
 I.write c (.inl rfl) (λb q hb z=>(hs.2 b hb).trans z) d new
def dk_new(z:kvs.length<=sizeLine)(hd:(a==Qm)=Y5)(b:KV kvs vs)(c:h'.DictOf (mixKind P w) a vs):
  ObjOk P w H' h' a (.dK kvs):=⟨z,hd,vs,b,c⟩
def qep(F:A.units+1<cLine)(I:Inv X pins σ H s)(g:DPut H a y v H')(w:RelV y u)(x:RelV v r)(h:∀s',Inv X pins σ H' s'->Q () s'):
  wpAny ?d A (setItem (.ref a) u r) Q E s:=by
 rcases g with⟨kvs,k,e,n,l,p⟩|⟨kvs,k,b,e,n,D,l,p⟩
 ·subst n p;obtain⟨z,hd,vs,d,t⟩:=dk_of I.hok e;have j:vs.length<=sizeLine:=by rw[<- d.length]; exact z
  have m:(putK kvs k v).length<=sizeLine:=by have:=qq4 kvs k v; omega
  refine wpAny_setItem_pairs (qkv w) t λh' f hs=>h _ ?_;have G:∃q,h'.get? a=Y q:=let ⟨q,_,_,i,_⟩:=f; ⟨q,i⟩;exact qyl I (by rw[e]; exact True.intro) hs G (dk_new m hd (d.put k x) f)
 ·subst n p;cases (w);obtain⟨z,hd,xs,d,t⟩:=dt_of I.hok e;have j:xs.length<=sizeLine:=by rw[<- Paired.length d]; exact z
  have m:(putK kvs k v).length<=sizeLine:=by have:=qq4 kvs k v; omega
  refine wpAny_setItem_heap (Q8 F) (qqu I.hok D) t λh' f hs=>h _ ?_;obtain⟨q,es,R,i,h2,P,N,_,K⟩:=f;refine qyl I (by rw[e]; exact True.intro) hs ⟨q,i⟩ ⟨m,hd,_,(d.put k D x).keeps λc ys C=>?_,q,es,R,i,h2,P,N,K⟩;rw[qzx (qzt C e (λz=>nomatch z))];exact C
end
section
end
def NoSl(i:Expr):Prop:=∀ov iv,subscripted i Y5 ov iv=operate [ov,iv] (Zk ov iv)
def qcc(m:typeLookup (.type T) "__getitem__" = pure (Y (.builtin l)))(hs:NoSl a)(h:wpAny ?q A (Qw b env) (λo e=>wpAny ?q A (Qw a env) (λi s₂=>s₂.TypeIs o T/\wpAny ?q A (Zk o i) Q E s₂) E e) E s):
  wpAny ?q A (Qw (.Subscript b a pos) env) Q E s:=by
 refine Subscript_ (Qh h (λo e j=>Qh j (λi s₂ c=>?_) λ_ _ x=>x) λ_ _ x=>x);obtain⟨k,c⟩:=c;unfold subscriptTail;refine Qq ?_;rw[getitemInPython_of_ne k.not_modules];refine Qq (Za k m ?_);have f:wpAny ?q A (subscripted a Y5 o i) (λr d=>wpAny ?q A (letTemporaryGo b o r >>= λ_=>pure r) Q E d) E s₂:=by
  rw[hs o i];exact wpAny_operating (Qh c (λr d g=>Qq (wpAny_letTemporaryGo (Qx g))) λ_ _ x=>x)
 first
  |exact Qx (Qq f)
  |exact Qq (Qx (Qq f))
  |exact Qq f
def qyh(I:Inv X c f H s)(g:DGet H a y o):s.TypeIs (.ref a) "dict":=by
 rcases g with⟨kvs,k,e,_,_⟩|⟨kvs,k,b,e,_,_,_⟩
 ·obtain⟨_,_,vs,_,d⟩:=qwh I.hok e;exact d.typeIs
 ·obtain⟨_,_,xs,_,d⟩:=qyg I.hok e;exact d.typeIs
noncomputable def tDGet(td ty:TE):TE:=λσ H Q=>td σ H λx H1=>ty σ H1 λy H2=>∃a v,x=.ref a/\DGet H2 a y (Y v)/\Q v H2
noncomputable def tDIn(ty td:TE):TE:=λσ H Q=>ty σ H λy H1=>td σ H1 λx H2=>∃a o,x=.ref a/\DGet H2 a y o/\Q (.bl o.isSome) H2
noncomputable def qcb(ty td:TE):TE:=λσ H Q=>ty σ H λy H1=>td σ H1 λx H2=>∃a o,x=.ref a/\DGet H2 a y o/\Q (.bl (!o.isSome)) H2
noncomputable def sDPut(td ty tv:TE):TS:=λD σ H=>tv σ H λv H1=>td σ H1 λx H2=>ty σ H2 λy H3=>∃a H4,x=.ref a/\DPut H3 a y v H4/\D.nx σ H4
section
def qmv(m:X.A.units+1<cLine)(n:PE X o td)(hi:PE X i ty)(hs:NoSl i):PE X (.Subscript o i pos) (tDGet td ty):=by
 intro pins s σ H Q I h;refine qcc PySem.F.slot_dict_getitem.lookup hs (thn (n pins s σ H _ I h) λu d ⟨x,H1,q,j,l⟩=>thn (hi pins d σ H1 _ q l) λz w ⟨y,H2,c,f,a,v,ex,g,k⟩=>?_);subst ex;obtain rfl:u=Value.ref a:=j;exact⟨qyh c g,qer m c g f λr t p b=>⟨v,H2,p,b,k⟩⟩
def pc_din(l:X.A.units+1<cLine)(hi:PE X i ty)(m:PE X o td):PC X .In i o (tDIn ty td):=by
 intro pins s σ H Q I h;refine thn (hi pins s σ H _ I h) λv b ⟨y,H1,q,c,j⟩=>thn (m pins b σ H1 _ q j) λu t ⟨x,H2,p,d,a,k,ex,g,f⟩=>?_;subst ex;obtain rfl:u=Value.ref a:=d;exact d_in l p g c λr n=>⟨.bl k.isSome,H2,n,rfl,f⟩
def qdq(l:X.A.units+1<cLine)(hi:PE X i ty)(m:PE X o td):PC X .NotIn i o (qcb ty td):=by
 intro pins s σ H Q I h;refine thn (hi pins s σ H _ I h) λv b ⟨y,H1,q,c,j⟩=>thn (m pins b σ H1 _ q j) λu t ⟨x,H2,p,d,a,k,ex,g,f⟩=>?_;subst ex;obtain rfl:u=Value.ref a:=d;exact qnr l p g c λr n=>⟨.bl (!k.isSome),H2,n,rfl,f⟩
def ql2(n:X.A.units+1<cLine)(p:PE X o td)(hi:PE X i ty)(hv:PE X value tv)(hs:swapsWith value (Y (.Subscript o i pos')) pos.line X.env=pure Y5):
  PS X (.Assign [.Subscript o i pos'] value pos) (sDPut td ty tv):=by
 intro pins s σ H D I h;refine wpAny_Assign_Subscript (thn (hv pins s σ H _ I h) λr c ⟨v,H1,z,j,m⟩=>thn (p pins c σ H1 _ z m) λu b ⟨x,H2,w,f,l⟩=>thn (hi pins b σ H2 _ w l) λF E ⟨y,G,t,d,a,A,ex,g,k⟩=>?_) hs;subst ex;obtain rfl:u=Value.ref a:=f;exact qep n t g d j λC q=>⟨σ,A,q,k⟩
end
def qap(h:Heap)(hb:Qm<h.objs.size):ObjOk P w H (h.push { cls:=.type "dict",data:=.dict #[] }) h.objs.size (.dK []):=
 ⟨Qza _,beq_eq_false_iff_ne.mpr (Ne.symm (Qq4 hb)),[],.nil,Heap.DictOf.new h⟩
noncomputable def tDNewK:TE:=λ_ H Q=>∀p,H p=B->Q (.ref p) (upd H p (.dK []))
section
def pe_dnewK:PE X (.Dict [] [] pos) tDNewK:=λpins s σ H Q I h=>
 wpAny_Dict_empty ⟨.ref s.heap.objs.size,_,I.laid (λ_ _ q=>Qqx _ q) (Qqv _) (qap s.heap I.big),rfl,h _ (I.hok.fresh (Qqv _))⟩
end
noncomputable def qyt:L (TE×TE)->St->Hp->(L (V×V)->Hp->Prop)->Prop
 |[],_,H,Q=>Q [] H
 |(tk,tv)::r,σ,H,Q=>tk σ H λx H1=>tv σ H1 λy H2=>qyt r σ H2 λps H3=>Q ((x,y)::ps) H3
abbrev VV:L (V×V)->L (Y8×Y8)->Prop:=Paired λp q=>RelV p.1 q.1/\RelV p.2 q.2
def PPs(X:Cx)(pos:Pos)(keys:L (Y2 Expr))(values:L Expr)(trs:L (TE×TE)):Prop:=
 ∀(pins:L (Y7×Obj)) (s:Qz) (σ:St) (H:Hp) (Q:L (V×V)->Hp->Prop),Inv X pins σ H s->qyt trs σ H Q->
  wpAny ?d X.A (evalPairs (pairTrees keys values X.env pos)) (λvs s'=>∃ps H',Inv X pins σ H' s'/\VV ps vs/\Q ps H') X.xe s
def ql3:PPs X pos [] [] []:=λpins s σ H Q I h=>pairTrees_nil_walk ⟨[],H,I,.nil,h⟩
def qgc(hk:PE X k d)(hv:PE X v c)(hr:PPs X pos ks vs a):
  PPs X pos (Y k::ks) (v::vs) ((d,c)::a):=λpins s σ H Q I h=>
 pairTrees_cons_walk (thn (hk pins s σ H _ I h) λu f ⟨x,H1,p,i,m⟩=>thn (hv pins f σ H1 _ p m) λw2 e ⟨y,H2,o,g,l⟩=>
  thn (hr pins e σ H2 _ o l) λr t ⟨ps,q,n,b,j⟩=>⟨(x,y)::ps,q,n,.cons ⟨i,g⟩ b,j⟩)
noncomputable def qkn(kvs more:L (Key×V)):L (Key×V):=more.foldl (λacc kv=>putK acc kv.1 kv.2) kvs
def KV.merge:∀{more}{a}{kvs}{vs},KV more a->KV kvs vs->KV (qkn kvs more) (merged vs a):=by
 intro more a kvs vs r;unfold KV at r
 induction r generalizing kvs vs with
 |nil=>intro q; exact q
 |@cons p q ps d h t c=>
  intro b;have e:KV (putK kvs p.1 p.2) (stored vs q.1 q.2):=by
   have:=b.put p.1 h.2;rw[<- h.1]; exact this
  exact c e
theorem qxq:∀(more kvs:L (Key×V)),(qkn kvs more).length<=kvs.length+more.length
 |[],kvs=>by show kvs.length<=kvs.length+0; omega
 |p::r,kvs=>by
  have h1:=qxq r (putK kvs p.1 p.2);have h2:=qq4 kvs p.1 p.2;show(qkn (putK kvs p.1 p.2) r).length<=_;rw[Qqg]; omega
theorem qk2:∀{kvs}{e},VV (kvs.map λf=>(kV f.1,f.2)) e->∃d,Carries (mixKind P w) e d/\KV kvs d
 |[],_,r=>by rw[Qxv]at r; cases r; exact⟨[],True.intro,.nil⟩
 |p::kvs,_,r=>by
  rw[Qqm]at r
  cases r with
  |@cons a b g bs h t=>
   obtain⟨d,c,q⟩:=qk2 t;obtain⟨b1,b2⟩:=b;exact⟨(p.1,b2)::d,⟨qkv h.1,rfl,c⟩,.cons ⟨rfl,h.2⟩ q⟩
noncomputable def tDisp(trs:L (TE×TE)):TE:=λσ H Q=>∀p,H p=B->qyt trs σ (upd H p (.dK [])) λps H2=>H2 p=Y (.dK [])/\∃kvs:L (Key×V),ps=kvs.map (λkv=>(kV kv.1,kv.2))/\kvs.length<=15/\Q (.ref p) (upd H2 p (.dK (qkn [] kvs)))
def qmj(h:PPs X pos keys b d)(f:keys.all (·.isSome)=O)(v:keys.length=b.length)(y:keys≠[])(j:keys.length<=15):PE X (.Dict keys b pos) (tDisp d):=by
 intro pins s σ H Q I q;have hn:=I.hok.fresh (Qqv s.heap.objs.size);have D:=I.laid (t':=s.toks) (λ_ _ q=>Qqx _ q) (Qqv _) (qap s.heap I.big);refine wpAny_Dict_walk (knd:=mixKind X.prog X.w) f v y j (thn (h pins _ σ _ _ D (q _ hn)) λE F ⟨ps,H2,k,i,e,kvs,A,lk,r⟩=>?_);subst A;obtain⟨m,c,n⟩:=qk2 i;obtain⟨z,hd,l,p,C⟩:=dk_of k.hok e;cases p;refine⟨m,c,C,λh' g hs=>⟨.ref s.heap.objs.size,_,?_,rfl,r⟩⟩;have t:(qkn [] kvs).length<=sizeLine:=by
  have h1:=qxq kvs [];rw[Qxp]at h1;rw[Q2]; omega
 have x:∃q,h'.get? s.heap.objs.size=Y q:=let ⟨q,_,_,u,_⟩:=g; ⟨q,u⟩;exact qyl k (by rw[e]; exact True.intro) hs x (dk_new t hd (n.merge .nil) g)
structure M1 (X:Cx) (o:Expr) (m:Y4) (apos:Pos) (e:Expr) (cpos:Pos):Prop where
 base:Zj o m X.env (Qw o X.env)=Qw o X.env
 few:((backTo cpos (starEach [e] X.env)).all (λx=>!x.1)&&(backToKw cpos (keywordEach [] X.env)).all (λx=>x.1.isSome)
  && decide (([e]:L Expr).length+([]:L Zs).length+(if ([]:L Zs).isEmpty then 0 else 1)<30))=O
 line:(apos.endLine==cpos.line)=O
 trees:backTo cpos (starEach [e] X.env)=[(Y5,Qw e X.env)]
def IsD(H:Hp)(a:Y7):Prop:=(∃kvs,Rd H a (.dK kvs))\/∃kvs,Rd H a (.dT kvs)
def isD_at(I:Inv X c g H s)(d:IsD H a):
  s.TypeIs (.ref a) "dict"/\(∀b,Value.ref a=.ref b->∃ob,s.heap.get? b=Y ob/\ob.dict=B)/\(a==Qm)=false:=by
 rcases d with⟨kvs,e⟩|⟨kvs,e⟩
 ·obtain⟨_,hd,vs,_,f⟩:=qwh I.hok e;refine⟨f.typeIs,λb q=>?_,hd⟩;cases q;obtain⟨ob,_,_,h1,h2,_⟩:=f;exact⟨ob,h1,h2.2.1⟩
 ·obtain⟨_,hd,xs,_,f⟩:=qyg I.hok e;refine⟨f.typeIs,λb q=>?_,hd⟩;cases q;obtain⟨ob,_,_,h1,h2,_⟩:=f;exact⟨ob,h1,h2.2.1⟩
section
def d_get1(n:A.units+1<cLine)(I:Inv X pins σ H s)(g:DGet H a y o)(m:RelV y u)(h:∀j s',Inv X pins σ H s'->RelV (o.getD .non) j->Q j s'):
  wpAny ?d A (call (.builtin "dict.get") [.ref a,u]) Q E s:=by
 rcases g with⟨kvs,k,e,i,l⟩|⟨kvs,k,b,e,i,p,l⟩
 ·subst i;obtain⟨z,hd,vs,c,f⟩:=qwh I.hok e;refine call_meetsIn PySem.F.slot_dict_get f.typeIs PySem.F.entry_dict_get (PySem.F.args_dict_get_2 _ _) (meets_dict_get (mixKind X.prog X.w) a (qkv m) hd) ⟨_,f.mapOf,h _ _ (I.tok _) ?_⟩;rw[l];exact(c.val k).getD rfl
 ·subst i;cases (m);obtain⟨z,hd,xs,c,f⟩:=qyg I.hok e;refine call_meetsIn PySem.F.slot_dict_get f.typeIs PySem.F.entry_dict_get (PySem.F.args_dict_get_2 _ _) (meetsH_dict_get (tupleKind (mixKind X.prog X.w)) a b hd) ⟨Q8 n,k,xs,qqu I.hok p,f,h _ _ (I.tok _) ?_⟩;rw[l];exact(c.val k).getD rfl
end
noncomputable def tDGet1(td ty:TE):TE:=λσ H Q=>td σ H λx H1=>∃a,x=.ref a/\IsD H1 a/\ty σ H1 λy H2=>∃o,DGet H2 a y o/\Q (o.getD .non) H2
section
def qgm(r:X.A.units+1<cLine)(t:PE X o td)(v:PE X e ty)(m:M1 X o "get" apos e cpos):PE X (.Call (.Attribute o "get" apos) [e] [] cpos) (tDGet1 td ty):=by
 intro pins s σ H Q I h;refine wpAny_Call_method m.base m.few m.line PySem.F.plainAttrs_dict PySem.F.slot_dict_get PySem.F.type_dict_get (thn (t pins s σ H _ I h) λu k ⟨x,H1,c,n,a,ex,d,q⟩=>?_);subst ex;obtain rfl:u=Value.ref a:=n;obtain⟨j,i,_⟩:=isD_at c d;refine⟨j,i,?_⟩;rw[m.trees];refine Calls.callWith_builtin rfl (Calls.evalArgs_plain (Calls.spliced_cons (thn (v pins k σ H1 _ c q) λF D ⟨y,H2,z,l,E,g,p⟩=>Calls.spliced_nil ?_)));exact d_get1 r z g l λA C w b=>⟨_,H2,w,b,p⟩
end
section
end
section
end
end L2
end
section
namespace M
open PySem (Str Operator CmpOp)
inductive D where
 |non|bl (b:Ya)|int (i:J)|str (s:Y4)|tup (ds:L D)|lst (ds:L D)|loc (l:Y0)
 deriving Inhabited
inductive Yb where
 |lst (w:Ya) (ds:L D)
 |dic (w:Ya) (kvs:L (D×D))
 |obj (C:Y0) (fs:L (Y4×D))
 deriving Inhabited
abbrev Y3:=L Yb
abbrev Sl:=L (Y2 D)
noncomputable def lim:Nat:=16777216
inductive Ty where
 |non|bl|int|str|tup|lst
 deriving DecidableEq
noncomputable def Ty.name:Ty->String
 |.non=>"NoneType"
 |.bl=>"bool"
 |.int=>"int"
 |.str=>"str"
 |.tup=>"tuple"
 |.lst=>"list"
inductive Bq where
 |len|min|tuple|list|all|sorted|any|int
inductive Mt where
 |append|extend|index|insert
inductive T where
 |var (i:Y0)
 |tup (is:L Y0)
noncomputable def T.slots:T->L Y0
 |.var i=>[i]
 |.tup is=>is
inductive E where
 |var (i:Y0)
 |lit (d:D)
 |glo (x:Y4) (d:D)
 |bin (op:Zl) (a b:E)
 |neg (a:E)
 |not (a:E)
 |cmp (op:CmpOp) (a b:E)
 |cmp2 (op op':CmpOp) (a b c:E)
 |and (a b:E)
 |or (a b:E)
 |tup (es:L E)
 |lst (es:L E)
 |idx (a b:E)
 |sli (a:E) (lo hi:Y2 E)
 |call (f:Y0) (es:L E)
 |bcall (f:Bq) (es:L E)
 |isi (a:E) (ts:L Ty) (many:Ya)
 |meth (a:E) (m:Mt) (es:L E)
 |gc (a:E)
 |rng1 (a:E)
 |rng2 (a b:E)
 |zip (a b:E)
 |enu (a:E)
 |rev (a:E)
 |dic (es:L E)
 |didx (a b:E)
 |din (neg:Ya) (a b:E)
 |dgt (a b:E)
 |gidx (x:Y4) (ks:L Y4) (ds:L D) (b:E)
 |gin (neg:Ya) (x:Y4) (ks:L Y4) (b:E)
 |lenset (a:E)
 |comp (t:T) (it:E) (test:Y2 E) (elt:E) (src:L (Y2 Y0))
 |attr (C:Y0) (a:E) (f:Y4)
 |mcall (C f:Y0) (m:Y4) (a:E) (es:L E)
 |new (C f:Y0) (es:L E)
inductive S where
 |set (t:T) (e:E)
 |dset (a i e:E)
 |setA (C:Y0) (a:E) (f:Y4) (e:E)
 |ford (t:T) (a:E) (body:L S)
 |bad
 |whil (c:E) (body:L S)
 |six (a i e:E)
 |expr (e:E)
 |ret (e:E)
 |ite (c:E) (a b:L S)
 |forr (t:T) (it:E) (body:L S)
structure Fn where
 np:Y0
 nl:Y0
 body:L S
mutual
noncomputable def eqT:D->D->Ya
 |.non,.non=>O
 |.bl a,.bl b=>a==b
 |.bl a,.int j=>(if a then 1 else 0)==j
 |.int i,.bl b=>i==(if b then 1 else 0)
 |.int i,.int j=>i==j
 |.str a,.str b=>a==b
 |.tup a,.tup b=>eqTs a b
 |_,_=>Y5
noncomputable def eqTs:L D->L D->Ya
 |[],[]=>O
 |a::as,b::bs=>eqT a b&&eqTs as bs
 |_,_=>Y5
end
noncomputable def isI:D->Ya
 |.int _=>O
 |.str _=>O
 |_=>Y5
noncomputable def flat(_:Y0):D->Ya
 |.int _=>O
 |.str _=>O
 |.tup ds=>ds.all isI
 |_=>Y5
noncomputable abbrev flats(n:Y0)(ds:L D):Bool:=ds.all (flat n)
noncomputable def mulOk(i j:J):Bool:=(decide (-(2 ^ 64)<i)&&decide (i<2 ^ 64))||(decide (-(2 ^ 64)<j)&&decide (j<2 ^ 64))
noncomputable def listAt(st:Y3)(l:Y0):Y2 (L D):=match st[l]? with|some (.lst _ ds)=>Y ds|_=>B
noncomputable def wlistAt(st:Y3)(l:Y0):Y2 (L D):=match st[l]? with|some (.lst O ds)=>Y ds|_=>B
noncomputable def seqAt(st:Y3):D->Y2 (L D)
 |.loc l=>listAt st l
 |.lst ds=>Y ds
 |_=>B
mutual
/-- no place of the store within -/
noncomputable def noLoc:D->Ya
 |.loc _=>Y5
 |.tup ds=>noLocs ds
 |.lst ds=>noLocs ds
 |_=>O
noncomputable def noLocs:L D->Ya
 |[]=>O
 |d::ds=>noLoc d&&noLocs ds
end
mutual
/-- every place of the store within is one of the first n -/
noncomputable def lt(n:Y0):D->Ya
 |.loc l=>Nat.blt l n
 |.tup ds=>lts n ds
 |.lst ds=>lts n ds
 |_=>O
noncomputable def lts(n:Y0):L D->Ya
 |[]=>O
 |d::ds=>lt n d&&lts n ds
end
noncomputable def ltC(n:Y0):Yb->Ya
 |.lst _ ds=>lts n ds
 |.dic _ kvs=>kvs.all λp=>lt n p.2
 |.obj _ fs=>fs.all λp=>lt n p.2
noncomputable def gcX(n:Y0)(p:D×Y3):D×Y3:=
 if noLoc p.1 then(p.1,p.2.take n) else match p.1 with
  |.loc l=>if n<=l then(match p.2[l]? with
   |some (.lst O ds)=>if noLocs ds then(.lst ds,p.2.take n) else p
   |_=>p) else p
  |_=>p
open Classical in
noncomputable def gcD(st:Y3)(p:D×Y3):D×Y3:=
 if (p.2.take st.length).all (ltC st.length)=O then gcX st.length p else if p.2.take st.length=st then gcX st.length p else p
noncomputable def dicAt(st:Y3)(l:Y0):Y2 (L (D×D)):=match st[l]? with|some (.dic _ kvs)=>Y kvs|_=>B
noncomputable def wdicAt(st:Y3)(l:Y0):Y2 (L (D×D)):=match st[l]? with|some (.dic O kvs)=>Y kvs|_=>B
noncomputable def objAt(st:Y3)(C:Y0):D->Y2 (L (Y4×D))
 |.loc l=>match st[l]? with|some (.obj C' fs)=>if C'=C then Y fs else B|_=>B
 |_=>B
noncomputable def putA(f:Y4)(v:D):L (Y4×D)->L (Y4×D)
 |[]=>[(f,v)]
 |(g,x)::r=>if g=f then(g,v)::r else(g,x)::putA f v r
noncomputable def keysOf(kvs:L (D×D)):L D:=kvs.map (·.1)
noncomputable def dkeys(st:Y3):D->Y2 (L D)
 |.loc l=>(dicAt st l).map keysOf
 |_=>B
noncomputable def isKey:D->Ya
 |.int _=>O
 |.str _=>O
 |_=>Y5
noncomputable def dget(kvs:L (D×D))(k:D):Y2 D:=(kvs.find? λp=>eqT p.1 k).map (·.2)
noncomputable def dput(kvs:L (D×D))(k v:D):L (D×D):=if kvs.any λp=>eqT p.1 k then kvs.map (λp=>if eqT p.1 k then(p.1,v) else p) else kvs++[(k,v)]
noncomputable def pairUp:L D->Y2 (L (D×D))
 |[]=>Y []
 |k::v::r=>if isKey k then(pairUp r).map ((k,v)::·) else B
 |_=>B
noncomputable def dall(kvs:L (D×D)):L (D×D):=kvs.foldl (λacc p=>dput acc p.1 p.2) []
noncomputable def alloc(st:Y3)(c:Yb):D×Y3:=(.loc st.length,st++[c])
noncomputable def binop(st:Y3):Zl->D->D->Y2 (D×Y3)
 |.Add,.int i,.int j=>Y (.int (i+j),st)
 |.Add,.tup a,.tup b=>if a.isEmpty||decide (lim<a.length+b.length) then B else Y (.tup (a++b),st)
 |.Add,a,b=>(seqAt st a).bind λx=>(seqAt st b).bind λy=>if lim<x.length+y.length then B else Y (alloc st (.lst O (x++y)))
 |.Sub,.int i,.int j=>Y (.int (i - j),st)
 |.Mult,.int i,.int j=>if mulOk i j then Y (.int (i*j),st) else B
 |.Mult,.tup a,.int k=>if decide (k < -(2 ^ 62))||decide (2 ^ 62<=k)||decide (lim<a.length*k.toNat) then B else Y (.tup (List.replicate k.toNat a).flatten,st)
 |.FloorDiv,.int i,.int j=>if 0<j/\j<2 ^ 64 then Y (.int (i / j),st) else B
 |.Mod,.int i,.int j=>if 0<j then Y (.int (i % j),st) else B
 |.Pow,.int i,.int j=>if 0<=j/\j<=1000/\i.natAbs<2 ^ 64 then Y (.int (i ^ j.toNat),st) else B
 |_,_,_=>B
noncomputable def addK(S:L (L J))(k:L J):L (L J):=if k∈S then S else S++[k]
noncomputable def distinct(ks:L (L J)):L (L J):=ks.foldl addK []
noncomputable def keyD:D->Y2 (L J)
 |.tup ds=>ds.mapM λd=>match d with|.int i=>Y i|_=>B
 |_=>B
noncomputable def qva:D->Y2 D
 |.tup ds=>(ds.mapM keyD).bind λks=>if ds.length<=16 then Y (.int (distinct ks).length) else B
 |_=>B
noncomputable def ixN(n:Y0)(i:J):Y2 Nat:=if 0<=i then(if i<n then Y i.toNat else B) else if -(n:J)<=i then Y (i+n).toNat else B
noncomputable def atI{α:Type}(xs:L α)(i:J):Y2 α:=(ixN xs.length i).bind λj=>xs[j]?
noncomputable def idxD(st:Y3):D->D->Y2 D
 |.tup ds,.int i=>atI ds i
 |d,.int i=>(seqAt st d).bind λds=>atI ds i
 |_,_=>B
noncomputable def cutIx(n d:Y0):Y2 J->Y0
 |none=>d
 |some v=>if v<0 then(v+(n:J)).toNat else min v.toNat n
noncomputable def cut{α:Type}(xs:L α)(lo hi:Y2 J):L α:=(xs.drop (cutIx xs.length 0 lo)).take (cutIx xs.length xs.length hi - cutIx xs.length 0 lo)
noncomputable def sliD(st:Y3):D->Y2 J->Y2 J->Y2 (D×Y3)
 |.tup ds,lo,hi=>Y (.tup (cut ds lo hi),st)
 |d,lo,hi=>(seqAt st d).map λds=>alloc st (.lst O (cut ds lo hi))
noncomputable def inD(st:Y3)(x:D):D->Y2 Ya
 |.tup ds=>if flat 9 x&&flats 9 ds then Y (ds.any λy=>eqT y x) else B
 |d=>(seqAt st d).bind λds=>if flat 9 x&&flats 9 ds then Y (ds.any λy=>eqT y x) else B
noncomputable def isNon:D->Ya
 |.non=>O
 |_=>Y5
noncomputable def eqL(st:Y3)(x y:D):Y2 Bool:=(seqAt st x).bind λa=>(seqAt st y).bind λb=>if a.all isI&&b.all isI then Y (eqTs a b) else B
noncomputable def eqD(st:Y3)(x y:D):Y2 Bool:=match x,y with
 |.lst a,y=>eqL st (.lst a) y
 |.loc a,y=>eqL st (.loc a) y
 |.bl a,.bl b=>Y (a==b)
 |.non,.non=>Y O
 |x,y=>if flat 9 x&&(flat 9 y||isNon y) then Y (eqT x y) else B
noncomputable def neD(st:Y3):D->D->Y2 Ya
 |.int i,.int j=>Y (!(i==j))
 |.str i,.str j=>Y (!(i==j))
 |x,y=>(eqL st x y).map (!·)
noncomputable def cmpD(st:Y3):CmpOp->D->D->Y2 Ya
 |.Lt,.int i,.int j=>Y (decide (i<j))
 |.LtE,.int i,.int j=>Y (decide (i<=j))
 |.Gt,.int i,.int j=>Y (decide (j<i))
 |.GtE,.int i,.int j=>Y (decide (j<=i))
 |.Eq,x,y=>eqD st x y
 |.NotEq,x,y=>neD st x y
 |.Is,x,.non=>Y (isNon x)
 |.IsNot,x,.non=>Y (!isNon x)
 |.In,x,y=>inD st x y
 |.NotIn,x,y=>(inD st x y).map (!·)
 |_,_,_=>B
noncomputable def tyName(st:Y3):D->Y2 Ty
 |.non=>Y .non
 |.bl _=>Y .bl
 |.int _=>Y .int
 |.str _=>Y .str
 |.tup _=>Y .tup
 |d=>(seqAt st d).map λ_=>.lst
noncomputable def tyIs(t n:Ty):Bool:=t==n||(t==.int&&n==.bl)
noncomputable def truth(st:Y3):D->Y2 Ya
 |.non=>Y Y5
 |.bl b=>Y b
 |.int i=>Y (i != 0)
 |.tup ds=>Y (!ds.isEmpty)
 |d=>(seqAt st d).map λds=>!ds.isEmpty
noncomputable def insInt(x:J):L J->L J
 |[]=>[x]
 |y::r=>if x<=y then x::y::r else y::insInt x r
noncomputable def sortInt:L J->L J
 |[]=>[]
 |x::r=>insInt x (sortInt r)
noncomputable def asInts:L D->Y2 (L J)
 |[]=>Y []
 |.int i::r=>(asInts r).map (i::·)
 |_=>B
noncomputable def asBools:L D->Y2 (L Ya)
 |[]=>Y []
 |.bl i::r=>(asBools r).map (i::·)
 |_=>B
noncomputable def bLen(st:Y3):L D->Y2 (D×Y3)
 |[.tup ds]=>Y (.int ds.length,st)
 |[d]=>(seqAt st d).map λds=>(.int ds.length,st)
 |_=>B
noncomputable def bMin(st:Y3):L D->Y2 (D×Y3)
 |[.int i,.int j]=>Y (.int (if j<i then j else i),st)
 |_=>B
noncomputable def bTuple(st:Y3):L D->Y2 (D×Y3)
 |[.tup ds]=>Y (.tup ds,st)
 |[d]=>(seqAt st d).map λds=>(.tup ds,st)
 |_=>B
noncomputable def bList(st:Y3):L D->Y2 (D×Y3)
 |[.tup ds]=>Y (alloc st (.lst O ds))
 |[d]=>((seqAt st d).or (dkeys st d)).map λds=>alloc st (.lst O ds)
 |_=>B
noncomputable def bAll(st:Y3):L D->Y2 (D×Y3)
 |[d]=>(seqAt st d).bind λds=>(asBools ds).map λbs=>(.bl (bs.all id),st)
 |_=>B
noncomputable def bAny(st:Y3):L D->Y2 (D×Y3)
 |[d]=>(seqAt st d).bind λds=>(asBools ds).map λbs=>(.bl (bs.any id),st)
 |_=>B
noncomputable def asStrs:L D->Y2 (L Y4)
 |[]=>Y []
 |.str i::r=>(asStrs r).map (i::·)
 |_=>B
noncomputable def upS(ss:L Y4):Bool:=match ss with
 |a::b::r=>!PySem.Spec.ltCps b.cps.toList a.cps.toList&&upS (b::r)
 |_=>O
noncomputable def bSorted(st:Y3):L D->Y2 (D×Y3)
 |[.lst (.str a::r)]=>if 64<=r.length+1 then B else(asStrs (.str a::r)).bind λss=>if upS ss then Y (alloc st (.lst O (.str a::r))) else B
 |[d]=>((seqAt st d).or (dkeys st d)).bind λds=>(if 64<=ds.length then B else asInts ds).map λns=>alloc st (.lst O ((sortInt ns).map .int))
 |_=>B
noncomputable def bInt(st:Y3):L D->Y2 (D×Y3)
 |[.int i]=>Y (.int i,st)
 |[.bl b]=>Y (.int (if b then 1 else 0),st)
 |_=>B
noncomputable def bfun(st:Y3):Bq->L D->Y2 (D×Y3)
 |.len=>bLen st
 |.min=>bMin st
 |.tuple=>bTuple st
 |.list=>bList st
 |.all=>bAll st
 |.sorted=>bSorted st
 |.any=>bAny st
 |.int=>bInt st
noncomputable def mAppend(st:Y3):D->L D->Y2 (D×Y3)
 |.loc l,[d]=>(wlistAt st l).bind λds=>if ds.length<lim then Y (.non,st.set l (.lst O (ds++[d]))) else B
 |_,_=>B
noncomputable def mExtend(st:Y3):D->L D->Y2 (D×Y3)
 |.loc l,[d]=>(wlistAt st l).bind λds=>(match d with|.tup es=>Y es|d=>seqAt st d).bind λes=>if ds.length+es.length<=lim then Y (.non,st.set l (.lst O (ds++es))) else B
 |_,_=>B
noncomputable def mIndex(st:Y3):D->L D->Y2 (D×Y3)
 |d,[x]=>(seqAt st d).bind λds=>if flat 9 x&&flats 9 ds then(ds.findIdx? λy=>eqT y x).map λ(j:Y0)=>(.int (j:J),st) else B
 |_,_=>B
noncomputable def mInsert(st:Y3):D->L D->Y2 (D×Y3)
 |.loc l,[.int i,d]=>(wlistAt st l).bind λds=>if 0<=i/\i<=ds.length/\ds.length<lim then Y (.non,st.set l (.lst O (ds.take i.toNat++d::ds.drop i.toNat))) else B
 |_,_=>B
noncomputable def mfun(st:Y3):Mt->D->L D->Y2 (D×Y3)
 |.append=>mAppend st
 |.extend=>mExtend st
 |.index=>mIndex st
 |.insert=>mInsert st
noncomputable def Mt.ofList(_:Mt):Bool:=O
noncomputable def mty(st:Y3)(m:Mt):D->Ya
 |.str _=>!m.ofList
 |d=>m.ofList&&(seqAt st d).isSome
noncomputable def sixD(st:Y3):D->D->D->Y2 Y3
 |.loc l,.int i,d=>(wlistAt st l).bind λds=>(ixN ds.length i).map λj=>st.set l (.lst O (ds.set j d))
 |_,_,_=>B
inductive Out where
 |nx (τ:Sl)
 |rt (d:D)
structure R where
 ev:Sl->Y3->E->Y2 (D×Y3)
 tst:Sl->Y3->E->Y2 (Ya×Y3)
 ex:Sl->Y3->L S->Y2 (Out×Y3)
 call:Y0->L D->Y3->Y2 (D×Y3)
noncomputable def evs(f:Y3->E->Y2 (D×Y3)):L E->Y3->Y2 (L D×Y3)
 |[],st=>Y ([],st)
 |e::es,st=>(f st e).bind λp=>(evs f es p.2).bind λq=>Y (p.1::q.1,q.2)
noncomputable def setIs:L Y0->L D->Sl->Y2 Sl
 |[],[],τ=>Y τ
 |i::is,d::ds,τ=>if i<τ.length then setIs is ds (τ.set i (Y d)) else B
 |_,_,_=>B
noncomputable def setT:T->D->Sl->Y2 Sl
 |.var i,d,τ=>if i<τ.length then Y (τ.set i (Y d)) else B
 |.tup is,.tup ds,τ=>setIs is ds τ
 |_,_,_=>B
inductive Src where
 |tup (ds:L D)
 |lst (d:D)
 |rng (lo:J) (n:Y0)
 |zip (a b:D)
 |enu (a:D)
 |rev (ds:L D)
noncomputable def rowAt(st:Y3):D->Y2 (L D)
 |.tup ds=>Y ds
 |d=>seqAt st d
noncomputable def pairAt(xs ys:L D)(i:Y0):Y2 D:=match xs[i]?,ys[i]? with
 |some x,Y y=>Y (.tup [x,y])
 |_,_=>B
noncomputable def Src.at(st:Y3)(i:Y0):Src->Y2 (Y2 D)
 |.tup ds=>Y ds[i]?
 |.lst d=>(seqAt st d).map λds=>ds[i]?
 |.rng lo n=>Y (if i<n then Y (.int (lo+i)) else B)
 |.zip a b=>(rowAt st a).bind λxs=>(rowAt st b).map λys=>pairAt xs ys i
 |.enu a=>(rowAt st a).map λxs=>xs[i]?.map λx=>.tup [.int i,x]
 |.rev ds=>Y (if i<ds.length then ds[ds.length - 1 - i]? else B)
noncomputable def Src.size(st:Y3):Src->Y0
 |.tup ds=>ds.length
 |.lst d=>((seqAt st d).getD []).length
 |.rng _ n=>n
 |.zip a b=>min ((rowAt st a).getD []).length ((rowAt st b).getD []).length
 |.enu a=>((rowAt st a).getD []).length
 |.rev ds=>ds.length
noncomputable def big(i:J):Bool:=decide (i < -(2 ^ 62))||decide (2 ^ 62<=i)
noncomputable def src(r:R)(τ:Sl)(st:Y3):E->Y2 (Src×Y3)
 |.rng1 a=>(?o).bind λp=>match p.1 with
  |.int n=>if big n then B else Y (.rng 0 n.toNat,p.2)
  |_=>B
 |.rng2 a b=>(?o).bind λp=>(?K).bind λq=>match p.1,q.1 with
  |.int i,.int j=>if big i||big j then B else Y (.rng i (j - i).toNat,q.2)
  |_,_=>B
 |.zip a b=>(?o).bind λp=>(?K).bind λq=>(rowAt q.2 p.1).bind λ_=>(rowAt q.2 q.1).map λ_=>(.zip p.1 q.1,q.2)
 |.enu a=>(?o).bind λp=>(rowAt p.2 p.1).map λ_=>(.enu p.1,p.2)
 |.rev a=>(?o).bind λp=>match p.1 with
  |.tup ds=>Y (.rev ds,p.2)
  |_=>B
 |e=>(r.ev τ st e).bind λp=>match p.1 with
  |.tup ds=>Y (.tup ds,p.2)
  |d=>(seqAt p.2 d).map λ_=>(.lst d,p.2)
noncomputable def loop(it:Src)(f:Sl->Y3->D->Y2 (Out×Y3)):Y0->Y0->Sl->Y3->Y2 (Out×Y3)
 |0,_,_,_=>B
 |k+1,i,τ,st=>(it.at st i).bind λo=>match o with
  |none=>Y (.nx τ,st)
  |some d=>(f τ st d).bind λp=>match p.1 with
   |.nx τ'=>loop it f k (i+1) τ' p.2
   |.rt v=>Y (.rt v,p.2)
noncomputable def turnC(r:R)(t:T)(test:Y2 E)(elt:E)(τ:Sl)(st:Y3)(d:D):Y2 (Y2 D×Sl×Y3):=
 (setT t d τ).bind λτ'=>match test with
  |none=>(r.ev τ' st elt).map λp=>(Y p.1,τ',p.2)
  |some c=>(r.tst τ' st c).bind λb=>if b.1 then(r.ev τ' b.2 elt).map λp=>(Y p.1,τ',p.2) else Y (B,τ',b.2)
noncomputable def loopC(it:Src)(f:Sl->Y3->D->Y2 (Y2 D×Sl×Y3)):Y0->Y0->L D->Sl->Y3->Y2 (L D×Y3)
 |0,_,_,_,_=>B
 |k+1,i,acc,τ,st=>(it.at st i).bind λo=>match o with
  |none=>if lim<acc.length then B else Y (acc,st)
  |some d=>if lim<=acc.length then B else(f τ st d).bind λp=>loopC it f k (i+1) (match p.1 with|some x=>acc++[x]|none=>acc) p.2.1 p.2.2
noncomputable def loopW(f:Sl->Y3->Y2 (Ya×Y3))(g:Sl->Y3->Y2 (Out×Y3)):Y0->Sl->Y3->Y2 (Out×Y3)
 |0,_,_=>B
 |k+1,τ,st=>(f τ st).bind λb=>if b.1 then(g τ b.2).bind λp=>match p.1 with
   |.nx τ'=>loopW f g k τ' p.2
   |.rt v=>Y (.rt v,p.2)
  else Y (.nx τ,b.2)
noncomputable def inner(src:L (Y2 Y0))(τ:Sl):Sl:=src.map λo=>o.bind λi=>(τ[i]?).bind id
noncomputable def part(r:R)(τ:Sl)(st:Y3):Y2 E->Y2 (Y2 J×Y3)
 |none=>Y (B,st)
 |some e=>(r.ev τ st e).bind λp=>match p.1 with
  |.int i=>Y (Y i,p.2)
  |_=>B
noncomputable def dinR(r:R)(τ:Sl)(st:Y3)(neg:Ya)(a b:E):Y2 (D×Y3):=
 (?o).bind λp=>(?K).bind λq=>match q.1 with
  |.loc l=>(dicAt q.2 l).bind λkvs=>if isKey p.1 then Y (.bl ((dget kvs p.1).isSome != neg),q.2) else B
  |_=>B
noncomputable def ginR(r:R)(τ:Sl)(st:Y3)(neg:Ya)(ks:L Y4)(b:E):Y2 (D×Y3):=
 (r.ev τ st b).bind λp=>match p.1 with
  |.str z=>Y (.bl (ks.contains z != neg),p.2)
  |_=>B
noncomputable def stepEv(r:R)(τ:Sl)(st:Y3):E->Y2 (D×Y3)
 |.var i=>match τ[i]? with
  |some (Y d)=>Y (d,st)
  |_=>B
 |.lit d=>Y (d,st)
 |.glo _ d=>Y (d,st)
 |.bin op a b=>(?o).bind λp=>(?K).bind λq=>binop q.2 op p.1 q.1
 |.neg a=>(?o).bind λp=>match p.1 with
  |.int i=>Y (.int (-i),p.2)
  |_=>B
 |.not a=>(?o).bind λp=>match p.1 with
  |.bl b=>Y (.bl (!b),p.2)
  |_=>B
 |.cmp op a b=>(?o).bind λp=>(?K).bind λq=>(cmpD q.2 op p.1 q.1).map λk=>(.bl k,q.2)
 |.cmp2 op op' a b c=>(?o).bind λp=>(?K).bind λq=>(cmpD q.2 op p.1 q.1).bind λk=>
   if k then(r.ev τ q.2 c).bind λu=>(cmpD u.2 op' q.1 u.1).map λk'=>(.bl k',u.2) else Y (.bl Y5,q.2)
 |.and a b=>(?o).bind λp=>match p.1 with
  |.bl O=>r.ev τ p.2 b
  |.bl Y5=>Y (.bl Y5,p.2)
  |_=>B
 |.or a b=>(?o).bind λp=>match p.1 with
  |.bl Y5=>r.ev τ p.2 b
  |.bl O=>Y (.bl O,p.2)
  |_=>B
 |.tup es=>(evs (r.ev τ) es st).bind λp=>if lim<p.1.length then B else Y (.tup p.1,p.2)
 |.lst es=>(evs (r.ev τ) es st).bind λp=>if lim<p.1.length then B else Y (alloc p.2 (.lst O p.1))
 |.idx a b=>(?o).bind λp=>(?K).bind λq=>(idxD q.2 p.1 q.1).map λd=>(d,q.2)
 |.sli a lo hi=>(?o).bind λp=>(part r τ p.2 lo).bind λl=>(part r τ l.2 hi).bind λh=>sliD h.2 p.1 l.1 h.1
 |.call f es=>(evs (r.ev τ) es st).bind λp=>r.call f p.1 p.2
 |.bcall f es=>(evs (r.ev τ) es st).bind λp=>bfun p.2 f p.1
 |.isi a ts _=>(?o).bind λp=>(tyName p.2 p.1).map λn=>(.bl (ts.any λt=>tyIs t n),p.2)
 |.meth a m es=>(?o).bind λp=>if mty p.2 m p.1 then(evs (r.ev τ) es p.2).bind λq=>mfun q.2 m p.1 q.1 else B
 |.gc a=>(?o).map λp=>gcD st p
 |.rng1 _=>B
 |.rng2 _ _=>B
 |.zip _ _=>B
 |.enu _=>B
 |.rev _=>B
 |.dic es=>(evs (r.ev τ) es (st++[.dic O []])).bind λp=>match wdicAt p.2 st.length with
  |some []=>(pairUp p.1).bind λkvs=>if kvs.length<=15 then Y (.loc st.length,p.2.set st.length (.dic O (dall kvs))) else B
  |_=>B
 |.didx a b=>(?o).bind λp=>(?K).bind λq=>match p.1 with
  |.loc l=>(dicAt q.2 l).bind λkvs=>if isKey q.1 then(dget kvs q.1).map λd=>(d,q.2) else B
  |_=>B
 |.din neg a b=>dinR r τ st neg a b
 |.dgt a b=>(?o).bind λp=>match p.1 with
  |.loc l=>(dicAt p.2 l).bind λ_=>(?K).bind λq=>(dicAt q.2 l).bind λkvs=>if isKey q.1 then Y ((dget kvs q.1).getD .non,q.2) else B
  |_=>B
 |.gidx _ ks ds b=>(r.ev τ st b).bind λp=>match p.1 with
  |.str z=>((ks.zip ds).find? λq=>q.1==z).map λq=>(q.2,p.2)
  |_=>B
 |.gin neg _ ks b=>ginR r τ st neg ks b
 |.lenset a=>(?o).bind λp=>(qva p.1).map λd=>(d,p.2)
 |.comp t it test elt sr=>(src r τ st it).bind λp=>
   (loopC p.1 (turnC r t test elt) (p.1.size p.2+1) 0 [] (inner sr τ) p.2).map λq=>alloc q.2 (.lst O q.1)
 |.attr C a f=>(?o).bind λp=>(objAt p.2 C p.1).bind λfs=>(fs.lookup f).map λd=>(d,p.2)
 |.mcall C f m a es=>(?o).bind λp=>(objAt p.2 C p.1).bind λfs=>if (fs.lookup m).isSome then B else(evs (r.ev τ) es p.2).bind λq=>r.call f (p.1::q.1) q.2
 |.new C f es=>(evs (r.ev τ) es st).bind λp=>(r.call f (.loc p.2.length::p.1) (p.2++[.obj C []])).bind λq=>if isNon q.1 then Y (.loc p.2.length,q.2) else B
noncomputable def stepTst(r:R)(τ:Sl)(st:Y3):E->Y2 (Ya×Y3)
 |.not a=>(r.tst τ st a).map λp=>(!p.1,p.2)
 |.and a b=>(r.tst τ st a).bind λp=>if p.1 then r.tst τ p.2 b else Y (Y5,p.2)
 |.or a b=>(r.tst τ st a).bind λp=>if p.1 then Y (O,p.2) else r.tst τ p.2 b
 |.din neg a b=>(dinR r τ st neg a b).bind λp=>(truth p.2 p.1).map λk=>(k,p.2)
 |.gin neg _ ks b=>(ginR r τ st neg ks b).bind λp=>(truth p.2 p.1).map λk=>(k,p.2)
 |.cmp op a b=>(?o).bind λp=>(?K).bind λq=>(cmpD q.2 op p.1 q.1).map λk=>(k,q.2)
 |.cmp2 op op' a b c=>(?o).bind λp=>(?K).bind λq=>(cmpD q.2 op p.1 q.1).bind λk=>
   if k then(r.ev τ q.2 c).bind λu=>(cmpD u.2 op' q.1 u.1).map λk'=>(k',u.2) else Y (Y5,q.2)
 |e=>(r.ev τ st e).bind λp=>(truth p.2 p.1).map λk=>(k,p.2)
noncomputable def stepEx(r:R)(τ:Sl)(st:Y3):S->Y2 (Out×Y3)
 |.set t e=>(r.ev τ st e).bind λp=>(setT t p.1 τ).map λτ'=>(.nx τ',p.2)
 |.dset a i e=>(r.ev τ st e).bind λp=>(r.ev τ p.2 a).bind λq=>(r.ev τ q.2 i).bind λu=>match q.1 with
  |.loc l=>(wdicAt u.2 l).bind λkvs=>if isKey u.1&&decide (kvs.length<lim) then Y (.nx τ,u.2.set l (.dic O (dput kvs u.1 p.1))) else B
  |_=>B
 |.setA C a f e=>(r.ev τ st e).bind λp=>(r.ev τ p.2 a).bind λq=>(objAt q.2 C q.1).bind λfs=>match q.1 with
  |.loc l=>if fs.length<900 then Y (.nx τ,q.2.set l (.obj C (putA f p.1 fs))) else B
  |_=>B
 |.ford t a body=>(?o).bind λp=>match p.1 with
  |.loc l=>(wdicAt p.2 l).bind λkvs=>(loop (.tup (keysOf kvs)) (λτ st d=>(setT t d τ).bind λτ'=>r.ex τ' st body) (kvs.length+1) 0 τ (p.2.set l (.dic Y5 kvs))).bind λq=>
   match q.2[l]? with
   |some (.dic Y5 kvs')=>Y (q.1,q.2.set l (.dic O kvs'))
   |_=>B
  |_=>B
 |.bad=>B
 |.whil c body=>loopW (λτ st=>r.tst τ st c) (λτ st=>r.ex τ st body) lim τ st
 |.six a i e=>(r.ev τ st e).bind λp=>(r.ev τ p.2 a).bind λq=>(r.ev τ q.2 i).bind λu=>(sixD u.2 q.1 u.1 p.1).map λst'=>(.nx τ,st')
 |.expr e=>(r.ev τ st e).map λp=>(.nx τ,p.2)
 |.ret e=>(r.ev τ st e).map λp=>(.rt p.1,p.2)
 |.ite c a b=>(r.tst τ st c).bind λp=>if p.1 then r.ex τ p.2 a else r.ex τ p.2 b
 |.forr t it body=>(src r τ st it).bind λp=>
   loop p.1 (λτ st d=>(setT t d τ).bind λτ'=>r.ex τ' st body) (p.1.size p.2+1) 0 τ p.2
noncomputable def exs(f:Sl->Y3->S->Y2 (Out×Y3)):L S->Sl->Y3->Y2 (Out×Y3)
 |[],τ,st=>Y (.nx τ,st)
 |s::ss,τ,st=>(f τ st s).bind λp=>match p.1 with
  |.nx τ'=>exs f ss τ' p.2
  |o=>Y (o,p.2)
noncomputable def stepCall(fns:L Fn)(r:R)(f:Y0)(ds:L D)(st:Y3):Y2 (D×Y3):=
 match fns[f]? with
 |some F=>if ds.length=F.np then(r.ex (ds.map Y++List.replicate (F.nl - ds.length) B) st F.body).bind λp=>match p.1 with
   |.rt d=>Y (d,p.2)
   |.nx _=>Y (.non,p.2)
  else B
 |none=>B
noncomputable def step(c:Y0->L D->Y3->Y2 (D×Y3))(r:R):R:=⟨stepEv r,stepTst r,λτ st ss=>exs (stepEx r) ss τ st,c⟩
noncomputable def runK(c:Y0->L D->Y3->Y2 (D×Y3)):Y0->R
 |0=>⟨λ_ _ _=>B,λ_ _ _=>B,λ_ _ _=>B,c⟩
 |k+1=>step c (runK c k)
open Classical in
noncomputable def lim1{α:Type}(f:Y0->Y2 α):Y2 α:=if h:∃x,∃n,f n=Y x then Y h.choose else B
noncomputable def RL(c:Y0->L D->Y3->Y2 (D×Y3)):R:=⟨λτ st e=>lim1 λn=>(runK c n).ev τ st e,λτ st e=>lim1 λn=>(runK c n).tst τ st e,λτ st e=>lim1 λn=>(runK c n).ex τ st e,c⟩
noncomputable def callD(fns:L Fn):Y0->Y0->L D->Y3->Y2 (D×Y3)
 |0=>λ_ _ _=>B
 |d+1=>stepCall fns (RL (callD fns d))
noncomputable abbrev rn(fns:L Fn)(d n:Y0):R:=runK (callD fns d) n
noncomputable abbrev Lv(fns:L Fn)(d:Y0):R:=RL (callD fns d)
def lim1_is(h:lim1 f=Y x):∃n,f n=Y x:=by
 unfold lim1 at h
 split at h
 ·rename_i a;obtain⟨n,hn⟩:=a.choose_spec;exact⟨n,by rw[hn]; exact h⟩
 ·cases h
def runK_call(c:Y0->L D->Y3->Y2 (D×Y3)):∀n,(runK c n).call=c
 |0=>rfl
 |_+1=>rfl
end M
end
section
namespace M
open PySem (Str)
def Co{α:Type}(a:Y2 α)(b:Y0->Y2 α):Prop:=∀x,a=Y x->∃n,∀m,n<=m->b m=Y x
def Co.refl(a:Y2 α):Co a λ_=>a:=λ_ h=>⟨0,λ_ _=>h⟩
theorem Co.none(b:Y0->Y2 α):Co Option.none b:=λ_ h=>by cases h
theorem Co.bind{f:Y2 α}{c:Y0->Y2 α}{g:α->Y2 b}{g':Y0->α->Y2 b}(hf:Co f c)(d:∀a,Co (g a) λm=>g' m a):Co (f.bind g) λm=>(c m).bind (g' m):=λx h=>by
 cases e:f with
 |none=>rw[e]at h; cases h
 |some a=>
  rw[e]at h;obtain⟨n,hn⟩:=hf a e;obtain⟨k,hk⟩:=d a x h;refine⟨max n k,λm i=>?_⟩;simp only;rw[hn m (by lia)];exact hk m (by lia)
theorem Co.map{f:Y2 α}{b:Y0->Y2 α}(g:α->c)(hf:Co f b):Co (f.map g) λm=>(b m).map g:=λx h=>by
 cases e:f with
 |none=>rw[e]at h; cases h
 |some a=>
  rw[e]at h;obtain⟨n,hn⟩:=hf a e;refine⟨n,λm d=>?_⟩;simp only;rw[hn m d];exact h
def Co.ite[Decidable c]{a b:Y2 α}{d b':Y0->Y2 α}(e:Co a d)(hb:Co b b'):Co (if c then a else b) λm=>if c then d m else b' m:=by
 by_cases h:c
 ·simp only[Z8 h]; exact e
 ·simp only[Z7 h]; exact hb
structure Le (r:R) (r':Y0->R):Prop where
 ev:∀τ st e,Co (r.ev τ st e) λm=>(r' m).ev τ st e
 tst:∀τ st e,Co (r.tst τ st e) λm=>(r' m).tst τ st e
 ex:∀τ st e,Co (r.ex τ st e) λm=>(r' m).ex τ st e
 call:∀f ds st,Co (r.call f ds st) λm=>(r' m).call f ds st
theorem qz5{a:Y0->Y3->E->Y2 (D×Y3)}(h:∀st e,Co (f st e) λm=>a m st e):∀(es:L E) (st:Y3),Co (evs f es st) λm=>evs (a m) es st
 |[],st=>.refl _
 |e::es,st=>(h st e).bind λp=>(qz5 h es p.2).bind λq=>.refl _
theorem qjm{a:Y0->Sl->Y3->D->Y2 (Out×Y3)}(h:∀τ st d,Co (f τ st d) λm=>a m τ st d):∀(k i:Y0) (τ:Sl) (st:Y3),Co (loop it f k i τ st) λm=>loop it (a m) k i τ st
 |0,_,_,_=>.refl _
 |k+1,i,τ,st=>by
  unfold loop;refine(Co.refl _).bind λo=>?_
  cases o with
  |none=>exact .refl _
  |some d=>
   refine(h τ st d).bind λp=>?_
   cases c:p.1 with
   |nx b=>exact qjm h k _ _ _
   |rt v=>exact .refl _
theorem qkp{b:Y0->Sl->Y3->D->Y2 (Y2 D×Sl×Y3)}(h:∀τ st d,Co (f τ st d) λm=>b m τ st d):∀(k i:Y0) (a:L D) (τ:Sl) (st:Y3),Co (loopC it f k i a τ st) λm=>loopC it (b m) k i a τ st
 |0,_,_,_,_=>.refl _
 |k+1,i,a,τ,st=>by
  unfold loopC;refine(Co.refl _).bind λo=>?_
  cases o with
  |none=>exact .refl _
  |some d=>exact Co.ite (.refl _) ((h τ st d).bind λp=>qkp h k _ _ _ _)
theorem qko{a:Y0->Sl->Y3->Y2 (Ya×Y3)}{g':Y0->Sl->Y3->Y2 (Out×Y3)}(h:∀τ st,Co (f τ st) λm=>a m τ st)(h':∀τ st,Co (g τ st) λm=>g' m τ st):∀(k:Y0) (τ:Sl) (st:Y3),Co (loopW f g k τ st) λm=>loopW (a m) (g' m) k τ st
 |0,_,_=>.refl _
 |k+1,τ,st=>by
  unfold loopW;refine(h τ st).bind λb=>Co.ite ((h' τ _).bind λp=>?_) (.refl _)
  cases d:p.1 with
  |nx c=>exact qko h h' k _ _
  |rt v=>exact .refl _
theorem qve{b:Y0->Sl->Y3->S->Y2 (Out×Y3)}(h:∀τ st s,Co (f τ st s) λm=>b m τ st s):∀(a:L S) (τ:Sl) (st:Y3),Co (exs f a τ st) λm=>exs (b m) a τ st
 |[],_,_=>.refl _
 |s::a,τ,st=>by
  unfold exs;refine(h τ st s).bind λp=>?_
  cases d:p.1 with
  |nx c=>exact qve h a _ _
  |_=>exact .refl _
section
variable (h:Le r r')
include h
theorem qy2(τ)(st)(e):Co (src r τ st e) λm=>src (r' m) τ st e:=by
 cases e with
 |rng1 a=>exact (?r).bind λp=>.refl _
 |rng2 a b=>exact (?r).bind λp=>(h.ev τ _ b).bind λq=>.refl _
 |zip a b=>exact (?r).bind λp=>(h.ev τ _ b).bind λq=>.refl _
 |enu a=>exact (?r).bind λp=>.refl _
 |rev a=>exact (?r).bind λp=>.refl _
 |_=>exact(h.ev τ st _).bind λp=>.refl _
theorem qv4(τ)(st)(e):Co (part r τ st e) λm=>part (r' m) τ st e:=by
 cases e with
 |none=>exact .refl _
 |some e=>exact(h.ev τ st e).bind λp=>.refl _
theorem qa5(t)(test)(elt)(τ)(st)(d):Co (turnC r t test elt τ st d) λm=>turnC (r' m) t test elt τ st d:=by
 unfold turnC;refine(Co.refl _).bind λa=>?_
 cases test with
 |none=>exact(h.ev _ _ _).map _
 |some c=>exact(h.tst _ _ _).bind λb=>Co.ite ((h.ev _ _ _).map _) (.refl _)
theorem qwi(τ)(st)(neg)(a b):Co (dinR r τ st neg a b) λm=>dinR (r' m) τ st neg a b:=(?r).bind λp=>(h.ev τ _ b).bind λq=>.refl _
theorem qwf(τ)(st)(neg)(ks)(b):Co (ginR r τ st neg ks b) λm=>ginR (r' m) τ st neg ks b:=(h.ev τ st b).bind λp=>.refl _
theorem qjc(τ)(st)(e):Co (stepEv r τ st e) λm=>stepEv (r' m) τ st e:=by
 cases e with
 |var i=>exact .refl _
 |lit d=>exact .refl _
 |glo x d=>exact .refl _
 |bin j a b=>exact (?r).bind λp=>(h.ev τ _ b).bind λq=>.refl _
 |neg a=>exact (?r).bind λp=>.refl _
 |not a=>exact (?r).bind λp=>.refl _
 |cmp j a b=>exact (?r).bind λp=>(h.ev τ _ b).bind λq=>.refl _
 |cmp2 j n a b c=>exact (?r).bind λp=>(h.ev τ _ b).bind λq=>(Co.refl _).bind λk=>Co.ite ((h.ev τ _ c).bind λu=>.refl _) (.refl _)
 |and a b=>
  refine (?r).bind λp=>?_;obtain⟨d,s⟩:=p
  cases d with
  |bl k=>cases k with
   |true=>exact h.ev τ _ b
   |false=>exact .refl _
  |_=>exact .refl _
 |or a b=>
  refine (?r).bind λp=>?_;obtain⟨d,s⟩:=p
  cases d with
  |bl k=>cases k with
   |false=>exact h.ev τ _ b
   |true=>exact .refl _
  |_=>exact .refl _
 |tup es=>exact(qz5 (h.ev τ) es st).bind λp=>.refl _
 |lst es=>exact(qz5 (h.ev τ) es st).bind λp=>.refl _
 |idx a b=>exact (?r).bind λp=>(h.ev τ _ b).bind λq=>.refl _
 |sli a lo hi=>exact (?r).bind λp=>(qv4 h τ _ lo).bind λl=>(qv4 h τ _ hi).bind λu=>.refl _
 |call f es=>exact(qz5 (h.ev τ) es st).bind λp=>h.call f _ _
 |bcall f es=>exact(qz5 (h.ev τ) es st).bind λp=>.refl _
 |isi a o m=>exact (?r).bind λp=>.refl _
 |lenset a=>exact (?r).bind λp=>.refl _
 |gc a=>exact (?r).map _
 |meth a m es=>exact (?r).bind λp=>Co.ite ((qz5 (h.ev τ) es _).bind λq=>.refl _) (.refl _)
 |rng1 a=>exact .refl _
 |rng2 a b=>exact .refl _
 |zip a b=>exact .refl _
 |enu a=>exact .refl _
 |rev a=>exact .refl _
 |dic es=>exact(qz5 (h.ev τ) es _).bind λp=>.refl _
 |didx a b=>exact (?r).bind λp=>(h.ev τ _ b).bind λq=>.refl _
 |din neg a b=>exact qwi h τ st neg a b
 |dgt a b=>
  refine (?r).bind λp=>?_;obtain⟨d,s⟩:=p
  cases d with
  |loc l=>exact(Co.refl _).bind λ_=>(h.ev τ _ b).bind λq=>.refl _
  |_=>exact .refl _
 |gidx x ks ds b=>exact(h.ev τ st b).bind λp=>.refl _
 |gin neg x ks b=>exact qwf h τ st neg ks b
 |comp t it g elt sr=>exact(qy2 h τ st it).bind λp=>(qkp (qa5 h t g elt) _ _ _ _ _).map _
 |attr C a f=>exact (?r).bind λp=>.refl _
 |mcall C f m a es=>exact (?r).bind λp=>(Co.refl _).bind λfs=>Co.ite (.refl _) ((qz5 (h.ev τ) es _).bind λq=>h.call f _ _)
 |new C f es=>exact(qz5 (h.ev τ) es st).bind λp=>(h.call f _ _).bind λq=>.refl _
theorem qxm(τ)(st)(e):Co (stepTst r τ st e) λm=>stepTst (r' m) τ st e:=by
 cases e with
 |not a=>exact(h.tst τ st a).map _
 |and a b=>exact(h.tst τ st a).bind λp=>Co.ite (h.tst τ _ b) (.refl _)
 |or a b=>exact(h.tst τ st a).bind λp=>Co.ite (.refl _) (h.tst τ _ b)
 |din neg a b=>exact(qwi h τ st neg a b).bind λp=>.refl _
 |gin neg x ks b=>exact(qwf h τ st neg ks b).bind λp=>.refl _
 |cmp f a b=>exact (?r).bind λp=>(h.ev τ _ b).bind λq=>.refl _
 |cmp2 f d a b c=>exact (?r).bind λp=>(h.ev τ _ b).bind λq=>(Co.refl _).bind λk=>Co.ite ((h.ev τ _ c).bind λu=>.refl _) (.refl _)
 |_=>exact(h.ev τ st _).bind λp=>.refl _
theorem qja(τ)(st)(s):Co (stepEx r τ st s) λm=>stepEx (r' m) τ st s:=by
 cases s with
 |set t e=>exact(h.ev τ st e).bind λp=>.refl _
 |dset a i e=>exact(h.ev τ st e).bind λp=>(h.ev τ _ a).bind λq=>(h.ev τ _ i).bind λu=>.refl _
 |bad=>exact .refl _
 |whil c body=>exact qko (λτ st=>h.tst τ st c) (λτ st=>h.ex τ st body) _ _ _
 |six a i e=>exact(h.ev τ st e).bind λp=>(h.ev τ _ a).bind λq=>(h.ev τ _ i).bind λu=>.refl _
 |setA C a f e=>exact(h.ev τ st e).bind λp=>(h.ev τ _ a).bind λq=>.refl _
 |ford t a body=>
  refine (?r).bind λp=>?_;obtain⟨d,s⟩:=p
  cases d with
  |loc l=>exact(Co.refl _).bind λkvs=>(qjm (λτ st d=>(Co.refl _).bind λg=>h.ex g st body) _ _ _ _).bind λq=>.refl _
  |_=>exact .refl _
 |expr e=>exact(h.ev τ st e).map _
 |ret e=>exact(h.ev τ st e).map _
 |ite c a b=>exact(h.tst τ st c).bind λp=>Co.ite (h.ex τ _ a) (h.ex τ _ b)
 |forr t it body=>exact(qy2 h τ st it).bind λp=>qjm (λτ st d=>(Co.refl _).bind λg=>h.ex g st body) _ _ _ _
theorem qce(c:Y0->L D->Y3->Y2 (D×Y3)):Le (step c r) λm=>step c (r' m):=
 ⟨qjc h,qxm h,λτ st a=>qve (qja h) a τ st,λf ds st=>.refl _⟩
end
theorem qx6(c:Y0->L D->Y3->Y2 (D×Y3)):∀n,Le (runK c n) λ_=>runK c (n+1)
 |0=>⟨λ_ _ _=>.none _,λ_ _ _=>.none _,λ_ _ _=>.none _,λ_ _ _=>.refl _⟩
 |n+1=>qce (qx6 c n) c
section
def ev_up(h:(runK c n).ev τ st e=Y x)(b:n<=N):(runK c N).ev τ st e=Y x:=by
 induction b with
 |refl=>exact h
 |step _ a=>obtain⟨k,hk⟩:=(qx6 c _).ev τ st e x a; exact hk k (Qqv _)
def qho(h:(runK c n).tst τ st e=Y x)(b:n<=N):(runK c N).tst τ st e=Y x:=by
 induction b with
 |refl=>exact h
 |step _ a=>obtain⟨k,hk⟩:=(qx6 c _).tst τ st e x a; exact hk k (Qqv _)
def ex_up(h:(runK c n).ex τ st e=Y x)(b:n<=N):(runK c N).ex τ st e=Y x:=by
 induction b with
 |refl=>exact h
 |step _ a=>obtain⟨k,hk⟩:=(qx6 c _).ex τ st e x a; exact hk k (Qqv _)
end
def qyw(up:∀n N x,f n=Y x->n<=N->f N=Y x)(h:f n=Y x):lim1 f=Y x:=by
 have a:∃x,∃n,f n=Y x:=⟨x,n,h⟩
 unfold lim1;rw[dif_pos a];obtain⟨k,hk⟩:=a.choose_spec;have c:=up _ (max n k) _ h (by lia);have b:=up _ (max n k) _ hk (by lia);rw[c]at b;exact b.symm
section
end
section
variable {r:R}{s:Src}{S:Y3}{rest:Sl}{elt:E}{ds:L D}
theorem qwq(a:∀i,s.at S i=Y ds[i]?)(c:es.length=ds.length)(b:ds.length<lim)(f:∀(i:Y0) (d e:D),ds[i]?=Y d->es[i]?=Y e->r.ev (Y d::rest) S elt=Y (e,S)):
  ∀(k i:Y0) (o:Y2 D),i+k=ds.length->loopC s (turnC r ?D B elt) (k+1) i (es.take i) (o::rest) S=Y (es,S)
 |0,i,o,h=>by
  have e:i=ds.length:=by lia
  subst e;have h1:es.take ds.length=es:=Qxt (by lia);rw[loopC,a,h1];simp only[oBs,Qzp (Qqv _)];rw[Z7 (by lia)]
 |k+1,i,o,h=>by
  have hi:i<ds.length:=by lia
  have h1:ds[i]?=Y ds[i]:=by simp
  have h2:es[i]?=Y (es[i]'(by lia)):=by simp
  have g:=f i _ _ h1 h2;rw[loopC,a,h1];simp only[oBs];rw[Z7 (by rw[Qzv]; lia)];have j:turnC r ?D B elt (o::rest) S ds[i]=Y (Y (es[i]'(by lia)),Y ds[i]::rest,S):=by
   unfold turnC;simp only[setT,Qqg,Qj6,if_true,Qjr,oBs,g,oMs]
  rw[j];simp only[oBs];rw[show es.take i++[es[i]'(by lia)]=es.take (i+1) by rw[Qzw (by lia)]];exact qwq a c b f k (i+1) _ (by lia)
theorem qxp(a:∀i,s.at S i=Y ds[i]?)(g:ds.length<lim)(hc:∀(i:Y0) (d:D),ds[i]?=Y d->r.tst (Y d::rest) S c=Y (p d,S))(f:D->D)(m:∀(i:Y0) (d:D),ds[i]?=Y d->p d=O->r.ev (Y d::rest) S elt=Y (f d,S)):
  ∀(k i:Y0) (o:Y2 D),i+k=ds.length->loopC s (turnC r ?D (Y c) elt) (k+1) i (((ds.take i).filter p).map f) (o::rest) S=Y ((ds.filter p).map f,S)
 |0,i,o,h=>by
  have e:i=ds.length:=by lia
  subst e;rw[loopC,a,Qxt (Qqv _)];simp only[oBs,Qzp (Qqv _)];have:=Qz2 p ds;rw[Z7 (by rw[Qqz]; lia)]
 |k+1,i,o,h=>by
  have hi:i<ds.length:=by lia
  have h1:ds[i]?=Y ds[i]:=by simp
  rw[loopC,a,h1];simp only[oBs];have t:=Qz2 p (ds.take i);have q:(ds.take i).length<=ds.length:=by rw[Qzv]; lia
  rw[Z7 (by rw[Qqz]; lia)];have n:=Qzw (by omega);have j:=qxp a g hc f m k (i+1) (Y ds[i]) (by lia)
  cases b:p ds[i] with
  |true=>
   have l:turnC r ?D (Y c) elt (o::rest) S ds[i]=Y (Y (f ds[i]),Y ds[i]::rest,S):=by
    unfold turnC;simp only[setT,Qqg,Qj6,if_true,Qjr,oBs,hc i _ h1,b,m i _ h1 b,oMs]
   rw[l];simp only[oBs];rw[n,Qxc,Qqc]at j;simpa[b] using j
  |false=>
   have l:turnC r ?D (Y c) elt (o::rest) S ds[i]=Y (B,Y ds[i]::rest,S):=by
    unfold turnC;simp only[setT,Qqg,Qj6,if_true,Qjr,oBs,hc i _ h1,b,Qzd,if_false]
   rw[l];simp only[oBs];rw[n,Qxc,Qqc]at j;simpa[b] using j
end
def qjj{S:Y3}{ds:L D}(b:src r τ S it=Y (s,a))(j:∀i,s.at a i=Y ds[i]?)(hsz:s.size a=ds.length)(g:inner sr τ=B::rest)(f:es.length=ds.length)(c:ds.length<lim)(k:∀(i:Y0) (d e:D),ds[i]?=Y d->es[i]?=Y e->r.ev (Y d::rest) a elt=Y (e,a)):stepEv r τ S (.comp ?D it B elt sr)=Y (.loc a.length,a++[.lst O es]):=by
 have h:=qwq j f c k ds.length 0 B (by lia);show((src r τ S it).bind λp=>(loopC p.1 (turnC r ?D B elt) (p.1.size p.2+1) 0 [] (inner sr τ) p.2).map λq=>alloc q.2 (.lst O q.1))=_;rw[b];simp only[oBs,hsz,g];rw[show([]:L D)=es.take 0 by simp,h]
 rfl
def qj6{S:Y3}{ds:L D}(f:D->D)(b:src r τ S it=Y (s,a))(j:∀i,s.at a i=Y ds[i]?)(hsz:s.size a=ds.length)(g:inner sr τ=B::rest)(e:ds.length<lim)(hc:∀(i:Y0) (d:D),ds[i]?=Y d->r.tst (Y d::rest) a c=Y (p d,a))(k:∀(i:Y0) (d:D),ds[i]?=Y d->p d=O->r.ev (Y d::rest) a elt=Y (f d,a)):stepEv r τ S (.comp ?D it (Y c) elt sr)=Y (.loc a.length,a++[.lst O ((ds.filter p).map f)]):=by
 have h:=qxp j e hc f k ds.length 0 B (by lia);show((src r τ S it).bind λp=>(loopC p.1 (turnC r ?D (Y c) elt) (p.1.size p.2+1) 0 [] (inner sr τ) p.2).map λq=>alloc q.2 (.lst O q.1))=_;rw[b];simp only[oBs,hsz,g];simp only[Qky,List.filter_nil,Qxv]at h;rw[h]
 rfl
def qqq{S:Y3}(h:seqAt S q=Y ds)(i):(Src.lst q).at S i=Y ds[i]?:=by simp[Src.at,h]
def qzn{S:Y3}(h:seqAt S q=Y ds):(Src.lst q).size S=ds.length:=by simp[Src.size,h]
def qj8{S:Y3}(lo)(n)(i):(Src.rng lo n).at S i=Y ((List.range n).map λ(j:Y0)=>D.int (lo+j))[i]?:=by
 simp only[Src.at,Qqw]
 by_cases h:i<n
 ·rw[Z8 h,Qx4 h]; rfl
 ·rw[Z7 h,Qzp (by simpa using h)]; rfl
theorem qv9{ds:L D}(P:Y0->Sl->Y3->Prop)(b:∀i τ st,P i τ st->s.at st i=Y ds[i]?)(hs:∀i τ st d,ds[i]?=Y d->P i τ st->∃a st',f τ st d=Y (.nx a,st')/\P (i+1) a st'):
  ∀(k i:Y0) (τ:Sl) (st:Y3),i+k=ds.length->P i τ st->∃a st',loop s f (k+1) i τ st=Y (.nx a,st')/\P ds.length a st'
 |0,i,τ,st,h,p=>by
  have e:i=ds.length:=h;subst e;refine⟨τ,st,?_,p⟩;rw[loop,b _ _ _ p,Qzp (Qqv _)]
  rfl
 |k+1,i,τ,st,h,p=>by
  have h1:=Qqh (l:=ds) (i:=i) (by lia);rw[loop,b _ _ _ p,h1];simp only[oBs];obtain⟨a,st',e,q⟩:=hs i τ st _ h1 p;rw[e];exact qv9 P b hs k (i+1) a st' (by lia) q
def qaa{ds:L D}(P:Y0->Sl->Y3->Prop)(c:P 0 τ st)(hsz:s.size st=ds.length)(b:∀i τ st,P i τ st->s.at st i=Y ds[i]?)(hs:∀i τ st d,ds[i]?=Y d->P i τ st->∃a st',f τ st d=Y (.nx a,st')/\P (i+1) a st'):
  ∃a st',loop s f (s.size st+1) 0 τ st=Y (.nx a,st')/\P ds.length a st':=by
 rw[hsz];exact qv9 P b hs ds.length 0 τ st (Qx1 _) c
section
def gc_x(h:p.2.take st.length=st):gcD st p=gcX st.length p:=by
 unfold gcD;rw[Z8 h,ite_self]
def qv8:noLoc (.tup ds)=noLocs ds:=by rw[noLoc]
def qdc:noLoc (.lst ds)=noLocs ds:=by rw[noLoc]
def qyj:noLocs (d::ds)=(noLoc d&&noLocs ds):=rfl
theorem qxd:∀{ds},noLocs ds=ds.all noLoc
 |[]=>rfl
 |d::ds=>by rw[qyj,Qz5,qxd]
def qv7(h:∀d∈ds,noLoc d=O):noLocs ds=true:=by rw[qxd,Qzx]; exact h
def qzg{α:Type}{xs:L α}{g:α->D}(h:∀x∈xs,noLoc (g x)=O):noLocs (xs.map g)=true:=qv7 λd hd=>by
 obtain⟨x,a,rfl⟩:=Qqj.mp hd;exact h x a
def qzb(h:noLocs ds=O):gcD st (.loc st.length,st++[.lst O ds])=(.lst ds,st):=by
 rw[gc_x (by simp)];unfold gcX;rw[Z7 (by simp[noLoc])];simp[h]
end
def qz7(d:-(2 ^ 64)<b)(c:b<2 ^ 64):mulOk a b=true:=by unfold mulOk; simp; lia
section
end
def bMo(S)(a)(h:0<b):binop S .Mod (.int a) (.int b)=Y (.int (a % b),S):=by
 simp only[binop];rw[Z8 h]
def bDi(S)(a)(h:0<b)(c:b<2 ^ 64):binop S .FloorDiv (.int a) (.int b)=Y (.int (a / b),S):=by
 simp only[binop];rw[Z8 ⟨h,c⟩]
abbrev CF:=Y0->L D->Y3->Y2 (D×Y3)
section
end
section
end
section
end
end M
end
section
namespace M
open PySem (Str CmpOp Operator)
inductive It where
 /-- a test comes out so -/
 |b (k:Ya)
 /-- a call answers so -/
 |c (a:D×Y3)
 /-- seen by the kernel -/
 |k
 /-- what lies in a cell -/
 |r (c:Yb)
 /-- what a dict has at a key -/
 |q (o:Y2 D)
 /-- what lies at an index -/
 |i (d:D)
 |n
 /-- a part leaves nothing behind -/
 |g
 /-- a part leaves a list -/
 |l (ds:L D)
 /-- a loop ends so -/
 |s (o:Out×Y3)
 /-- slots and store stand so -/
 |e (p:Sl×Y3)
 /-- an if ends so -/
 |t (o:Out×Y3)
abbrev Tp:=L It
noncomputable def TM(α:Type):=Tp->(α->Tp->Prop)->Prop
noncomputable def TM.bind{α β:Type}(x:TM α)(f:α->TM β):TM β:=λt K=>x t λa t'=>f a t' K
noncomputable def TM.map{α β:Type}(x:TM α)(f:α->β):TM β:=λt K=>x t λa t'=>K (f a) t'
noncomputable def no{α:Type}:TM α:=λ_ _=>False
noncomputable def lf{α:Type}:Y2 α->TM α
 |some a=>λt K=>K a t
 |none=>no
noncomputable def ys{α:Type}(a:α):TM α:=λt K=>K a t
noncomputable def askB(p:Ya):TM Bool:=λt K=>match t with
 |.b k::t'=>p=k/\K k t'
 |.k::t'=>K p t'
 |_=>False
noncomputable def askC(o:Y2 (D×Y3)):TM (D×Y3):=λt K=>match t with
 |.c a::t'=>o=Y a/\K a t'
 |_=>False
noncomputable def askD(o:Y2 (D×Y3)):TM (D×Y3):=λt K=>match t with
 |.c a::t'=>o=Y a/\K a t'
 |t=>lf o t K
noncomputable def askE(o:Y2 (D×Y3))(x:TM (D×Y3)):TM (D×Y3):=λt K=>match t with
 |.c a::t'=>o=Y a/\K a t'
 |t=>x t K
noncomputable def askS(o:Y2 (Out×Y3))(x:TM (Out×Y3)):TM (Out×Y3):=λt K=>match t with
 |.s a::t'=>o=Y a/\K a t'
 |t=>x t K
noncomputable def askT(o:Y2 (Out×Y3))(x:TM (Out×Y3)):TM (Out×Y3):=λt K=>match t with
 |.t a::t'=>o=Y a/\K a t'
 |t=>x t K
noncomputable def askQ(o:Y2 D):TM (Y2 D):=λt K=>match t with
 |.q a::t'=>o=a/\K a t'
 |.k::t'=>K o t'
 |_=>False
noncomputable def askI(o:Y2 D):TM D:=λt K=>match t with
 |.i a::t'=>o=Y a/\K a t'
 |.n::t'=>lf o t' K
 |t=>lf o t K
noncomputable def askR(o:Y2 Yb):TM Yb:=λt K=>match t with
 |.r c::t'=>o=Y c/\K c t'
 |_=>False
noncomputable def askN(p:Sl×Y3):TM (Sl×Y3):=λt K=>match t with
 |.e q::t'=>p=q/\K q t'
 |t=>K p t
noncomputable def rdT(n:Y0)(st:Y3)(l:Y0):TM Yb:=if Nat.blt l n then lf st[l]? else askR st[l]?
noncomputable def Yb.ls:Yb->Y2 (L D)
 |.lst _ ds=>Y ds
 |_=>B
noncomputable def Yb.wls:Yb->Y2 (L D)
 |.lst O ds=>Y ds
 |_=>B
noncomputable def Yb.dc:Yb->Y2 (L (D×D))
 |.dic _ ds=>Y ds
 |_=>B
noncomputable def Yb.wdc:Yb->Y2 (L (D×D))
 |.dic O ds=>Y ds
 |_=>B
noncomputable def Yb.ob(C:Y0):Yb->Y2 (L (Y4×D))
 |.obj C' fs=>if C'=C then Y fs else B
 |_=>B
noncomputable def seqT(n:Y0)(st:Y3):D->TM (L D)
 |.loc l=>(rdT n st l).bind λc=>lf c.ls
 |.lst ds=>ys ds
 |_=>no
noncomputable def rowT(n:Y0)(st:Y3):D->TM (L D)
 |.tup ds=>ys ds
 |d=>seqT n st d
noncomputable def wlT(n:Y0)(st:Y3)(l:Y0):TM (L D):=(rdT n st l).bind λc=>lf c.wls
noncomputable def dcT(n:Y0)(st:Y3)(l:Y0):TM (L (D×D)):=(rdT n st l).bind λc=>lf c.dc
noncomputable def wdT(n:Y0)(st:Y3)(l:Y0):TM (L (D×D)):=(rdT n st l).bind λc=>lf c.wdc
noncomputable def obT(n:Y0)(st:Y3)(C:Y0):D->TM (L (Y4×D))
 |.loc l=>(rdT n st l).bind λc=>lf (c.ob C)
 |_=>no
noncomputable def qnk:CmpOp->D->Ya
 |.Lt,_=>O
 |.LtE,_=>O
 |.Gt,_=>O
 |.GtE,_=>O
 |.Is,_=>O
 |.IsNot,_=>O
 |.Eq,.int _=>O
 |.NotEq,.int _=>O
 |_,_=>Y5
noncomputable def isLs:D->Ya
 |.loc _=>O
 |.lst _=>O
 |_=>Y5
noncomputable def isAsk:CmpOp->D->D->Ya
 |.In,_,y=>isLs y
 |.NotIn,_,y=>isLs y
 |.Eq,x,_=>isLs x
 |.NotEq,x,_=>isLs x
 |_,_,_=>Y5
noncomputable def askO(o:Y2 Ya):TM Bool:=λt K=>match t with
 |.b k::t'=>o=Y k/\K k t'
 |.k::t'=>lf o t' K
 |_=>False
noncomputable def cmpT(st:Y3)(op:CmpOp)(x y:D):TM Bool:=if isAsk op x y then askO (cmpD st op x y) else(lf (cmpD st op x y)).bind λp=>if qnk op x then askB p else ys p
noncomputable def qhr(n:Y0)(st:Y3)(d:D):TM Bool:=match d with
 |.loc l=>(seqT n st (.loc l)).bind λds=>askB (!ds.isEmpty)
 |.lst ds=>askB (!ds.isEmpty)
 |d=>lf (truth st d)
noncomputable def addT(n:Y0)(st:Y3)(a b:D):TM (D×Y3):=(seqT n st a).bind λx=>(seqT n st b).bind λy=>(askB (decide (lim<x.length+y.length))).bind λk=>if k then no else ys (alloc st (.lst O (x++y)))
noncomputable def binT(n:Y0)(st:Y3)(op:Zl)(a b:D):TM (D×Y3):=match op,a with
 |.Add,.loc l=>addT n st (.loc l) b
 |.Add,.lst l=>addT n st (.lst l) b
 |.Mult,.int i=>match b with
  |.int j=>(askB (mulOk i j)).bind λk=>if k then ys (.int (i*j),st) else no
  |b=>lf (binop st .Mult (.int i) b)
 |.Mult,.tup l=>askD (binop st .Mult (.tup l) b)
 |.Mod,.int i=>askD (binop st .Mod (.int i) b)
 |.FloorDiv,.int i=>askD (binop st .FloorDiv (.int i) b)
 |op,a=>lf (binop st op a b)
noncomputable def qbe(n:Y0)(st:Y3)(m:Mt)(d:D)(es:L D):TM (D×Y3):=match m with
 |.append=>match d,es with
  |.loc l,[d]=>(wlT n st l).bind λds=>(askB (decide (ds.length<lim))).bind λb=>if b then ys (.non,st.set l (.lst O (ds++[d]))) else no
  |_,_=>no
 |.extend=>match d,es with
  |.loc l,[d]=>(wlT n st l).bind λds=>(rowT n st d).bind λes=>(askB (decide (ds.length+es.length<=lim))).bind λb=>if b then ys (.non,st.set l (.lst O (ds++es))) else no
  |_,_=>no
 |.insert=>match d,es with
  |.loc l,[.int i,d]=>(wlT n st l).bind λds=>(askB (decide (0<=i/\i<=ds.length/\ds.length<lim))).bind λb=>if b then ys (.non,st.set l (.lst O (ds.take i.toNat++d::ds.drop i.toNat))) else no
  |_,_=>no
 |.index=>match es with
  |[x]=>(seqT n st d).bind λds=>askD (if flat 9 x&&flats 9 ds then(ds.findIdx? λy=>eqT y x).map λ(j:Y0)=>(.int (j:J),st) else B)
  |_=>no
noncomputable def sliT(n:Y0)(st:Y3):D->Y2 J->Y2 J->TM (D×Y3)
 |.tup ds,lo,hi=>ys (.tup (cut ds lo hi),st)
 |d,lo,hi=>(seqT n st d).map λds=>alloc st (.lst O (cut ds lo hi))
noncomputable def tyT(n:Y0)(st:Y3):D->TM Ty
 |.non=>ys .non
 |.bl _=>ys .bl
 |.int _=>ys .int
 |.str _=>ys .str
 |.tup _=>ys .tup
 |d=>(seqT n st d).map λ_=>.lst
noncomputable def mtyT(n:Y0)(st:Y3)(m:Mt)(d:D):TM Bool:=match d with
 |.str _=>ys (!m.ofList)
 |.lst _=>ys m.ofList
 |.loc l=>(seqT n st (.loc l)).bind λ_=>ys m.ofList
 |_=>no
noncomputable def qn0(n:Y0)(st:Y3)(f:Bq)(ds:L D):TM (D×Y3):=match f with
 |.len=>match ds with
  |[.loc l]=>(seqT n st (.loc l)).bind λxs=>ys (.int xs.length,st)
  |ds=>lf (bfun st .len ds)
 |.list=>match ds with
  |[.loc l]=>(rdT n st l).bind λc=>(lf (c.ls.or (c.dc.map keysOf))).bind λxs=>ys (alloc st (.lst O xs))
  |ds=>lf (bfun st .list ds)
 |.tuple=>match ds with
  |[.loc l]=>(seqT n st (.loc l)).bind λxs=>ys (.tup xs,st)
  |ds=>lf (bfun st .tuple ds)
 |.min=>match ds with
  |[.int i,.int j]=>(askB (decide (j<i))).bind λk=>ys (.int (if k then j else i),st)
  |_=>no
 |f=>askD (bfun st f ds)
structure RT where
 rl:R
 ev:Sl->Y3->E->TM (D×Y3)
 tst:Sl->Y3->E->TM (Ya×Y3)
 ex:Sl->Y3->L S->TM (Out×Y3)
 call:Y0->L D->Y3->TM (D×Y3)
noncomputable def gcT(st:Y3)(p:D×Y3):TM (D×Y3):=λt K=>match t with
 |.g::t'=>(noLoc p.1=O/\p.2.take st.length=st)/\K (p.1,st) t'
 |.l ds::t'=>gcD st p=(.lst ds,st)/\K (.lst ds,st) t'
 |.k::t'=>K (gcD st p) t'
 |_=>False
noncomputable def evsT(f:Y3->E->TM (D×Y3)):L E->Y3->TM (L D×Y3)
 |[],st=>ys ([],st)
 |e::es,st=>(f st e).bind λp=>(evsT f es p.2).bind λq=>ys (p.1::q.1,q.2)
noncomputable def srcT(n:Y0)(r:RT)(τ:Sl)(st:Y3):E->TM (Src×Y3)
 |.rng1 a=>(?o).bind λp=>match p.1 with
  |.int n=>if big n then no else ys (.rng 0 n.toNat,p.2)
  |_=>no
 |.zip a b=>(?o).bind λp=>(?K).bind λq=>lf ((rowAt q.2 p.1).bind λ_=>(rowAt q.2 q.1).map λ_=>(.zip p.1 q.1,q.2))
 |.enu a=>(?o).bind λp=>lf ((rowAt p.2 p.1).map λ_=>(.enu p.1,p.2))
 |.rev a=>(?o).bind λp=>lf (match p.1 with
  |.tup ds=>Y (.rev ds,p.2)
  |_=>B)
 |.rng2 _ _=>no
 |e=>(r.ev τ st e).bind λp=>match p.1 with
  |.tup ds=>ys (.tup ds,p.2)
  |.str z=>no
  |d=>(seqT n p.2 d).map λ_=>(.lst d,p.2)
noncomputable def qg5(it:Src)(f:Sl->Y3->D->TM (Out×Y3)):Y0->Y0->Sl->Y3->TM (Out×Y3)
 |0,_,_,_=>no
 |k+1,i,τ,st=>(lf (it.at st i)).bind λo=>match o with
  |none=>ys (.nx τ,st)
  |some d=>(f τ st d).bind λp=>match p.1 with
   |.nx τ'=>qg5 it f k (i+1) τ' p.2
   |.rt v=>ys (.rt v,p.2)
noncomputable def turnT(r:RT)(t:T)(test:Y2 E)(elt:E)(τ:Sl)(st:Y3)(d:D):TM (Y2 D×Sl×Y3):=
 (lf (setT t d τ)).bind λτ'=>match test with
  |none=>(r.ev τ' st elt).map λp=>(Y p.1,τ',p.2)
  |some c=>(r.tst τ' st c).bind λb=>if b.1 then(r.ev τ' b.2 elt).map λp=>(Y p.1,τ',p.2) else ys (B,τ',b.2)
noncomputable def qac(it:Src)(f:Sl->Y3->D->TM (Y2 D×Sl×Y3)):Y0->Y0->L D->Sl->Y3->TM (L D×Y3)
 |0,_,_,_,_=>no
 |k+1,i,acc,τ,st=>(lf (it.at st i)).bind λo=>match o with
  |none=>if lim<acc.length then no else ys (acc,st)
  |some d=>if lim<=acc.length then no else(f τ st d).bind λp=>qac it f k (i+1) (match p.1 with|some x=>acc++[x]|none=>acc) p.2.1 p.2.2
noncomputable def qmd(r:RT)(τ:Sl)(st:Y3):Y2 E->TM (Y2 J×Y3)
 |none=>ys (B,st)
 |some e=>(r.ev τ st e).bind λp=>match p.1 with
  |.int i=>ys (Y i,p.2)
  |_=>no
noncomputable def dgT(n:Y0)(p:D×Y3)(k:D)(st:Y3):TM (Y2 D):=match p.1 with
 |.loc l=>(dcT n st l).bind λkvs=>if isKey k then askQ (dget kvs k) else no
 |_=>no
noncomputable def qcg(n:Y0)(r:RT)(τ:Sl)(st:Y3):E->TM (D×Y3)
 |.var i=>lf (match τ[i]? with
  |some (Y d)=>Y (d,st)
  |_=>B)
 |.lit d=>ys (d,st)
 |.glo _ d=>ys (d,st)
 |.bin op a b=>(?o).bind λp=>(?K).bind λq=>binT n q.2 op p.1 q.1
 |.neg a=>(?o).bind λp=>lf (match p.1 with
  |.int i=>Y (.int (-i),p.2)
  |_=>B)
 |.not a=>(?o).bind λp=>lf (match p.1 with
  |.bl b=>Y (.bl (!b),p.2)
  |_=>B)
 |.cmp op a b=>(?o).bind λp=>(?K).bind λq=>(cmpT q.2 op p.1 q.1).map λk=>(.bl k,q.2)
 |.cmp2 op op' a b c=>(?o).bind λp=>(?K).bind λq=>(cmpT q.2 op p.1 q.1).bind λk=>
   if k then(r.ev τ q.2 c).bind λu=>(cmpT u.2 op' q.1 u.1).map λk'=>(.bl k',u.2) else ys (.bl Y5,q.2)
 |.and a b=>(?o).bind λp=>match p.1 with
  |.bl O=>r.ev τ p.2 b
  |.bl Y5=>ys (.bl Y5,p.2)
  |_=>no
 |.or a b=>(?o).bind λp=>match p.1 with
  |.bl Y5=>r.ev τ p.2 b
  |.bl O=>ys (.bl O,p.2)
  |_=>no
 |.tup es=>(evsT (r.ev τ) es st).bind λp=>if lim<p.1.length then no else ys (.tup p.1,p.2)
 |.lst es=>(evsT (r.ev τ) es st).bind λp=>if lim<p.1.length then no else ys (alloc p.2 (.lst O p.1))
 |.idx a b=>(?o).bind λp=>(?K).bind λq=>(askI (idxD q.2 p.1 q.1)).map λd=>(d,q.2)
 |.sli a lo hi=>(?o).bind λp=>(qmd r τ p.2 lo).bind λl=>(qmd r τ l.2 hi).bind λh=>sliT n h.2 p.1 l.1 h.1
 |.call f es=>(evsT (r.ev τ) es st).bind λp=>r.call f p.1 p.2
 |.bcall f es=>(evsT (r.ev τ) es st).bind λp=>qn0 n p.2 f p.1
 |.isi a ts _=>(?o).bind λp=>(tyT n p.2 p.1).map λn=>(.bl (ts.any λt=>tyIs t n),p.2)
 |.meth a m es=>(?o).bind λp=>(mtyT n p.2 m p.1).bind λk=>if k then(evsT (r.ev τ) es p.2).bind λq=>qbe n q.2 m p.1 q.1 else no
 |.gc a=>(?o).bind λp=>gcT st p
 |.dic es=>(evsT (r.ev τ) es (st++[.dic O []])).bind λp=>(wdT n p.2 st.length).bind λk0=>lf (match k0 with
  |[]=>(pairUp p.1).bind λkvs=>if kvs.length<=15 then Y (.loc st.length,p.2.set st.length (.dic O (dall kvs))) else B
  |_=>B)
 |.didx a b=>(?o).bind λp=>(?K).bind λq=>(dgT n p q.1 q.2).bind λo=>(lf o).map λd=>(d,q.2)
 |.din neg a b=>(?o).bind λp=>(?K).bind λq=>(dgT n q p.1 q.2).map λo=>(.bl (o.isSome != neg),q.2)
 |.dgt a b=>(?o).bind λp=>match p.1 with
  |.loc l=>(dcT n p.2 l).bind λ_=>(?K).bind λq=>(dgT n p q.1 q.2).bind λo=>ys (o.getD .non,q.2)
  |_=>no
 |.gidx _ ks ds b=>(r.ev τ st b).bind λp=>lf (match p.1 with
  |.str z=>((ks.zip ds).find? λq=>q.1==z).map λq=>(q.2,p.2)
  |_=>B)
 |.gin neg _ ks b=>(r.ev τ st b).bind λp=>lf (match p.1 with
  |.str z=>Y (.bl (ks.contains z != neg),p.2)
  |_=>B)
 |.lenset a=>(?o).bind λp=>(askI (qva p.1)).map λd=>(d,p.2)
 |.comp t it test elt sr=>askE (stepEv r.rl τ st (.comp t it test elt sr)) ((srcT n r τ st it).bind λp=>
   (qac p.1 (turnT r t test elt) (p.1.size p.2+1) 0 [] (inner sr τ) p.2).map λq=>alloc q.2 (.lst O q.1))
 |.attr C a f=>(?o).bind λp=>(obT n p.2 C p.1).bind λfs=>lf ((fs.lookup f).map λd=>(d,p.2))
 |.mcall C f m a es=>(?o).bind λp=>(obT n p.2 C p.1).bind λfs=>if (fs.lookup m).isSome then no else(evsT (r.ev τ) es p.2).bind λq=>r.call f (p.1::q.1) q.2
 |.new C f es=>(evsT (r.ev τ) es st).bind λp=>(r.call f (.loc p.2.length::p.1) (p.2++[.obj C []])).bind λq=>if isNon q.1 then ys (.loc p.2.length,q.2) else no
 |_=>no
noncomputable def qy0(n:Y0)(r:RT)(τ:Sl)(st:Y3):E->TM (Ya×Y3)
 |.not a=>(r.tst τ st a).map λp=>(!p.1,p.2)
 |.and a b=>(r.tst τ st a).bind λp=>if p.1 then r.tst τ p.2 b else ys (Y5,p.2)
 |.or a b=>(r.tst τ st a).bind λp=>if p.1 then ys (O,p.2) else r.tst τ p.2 b
 |.din neg a b=>(?o).bind λp=>(?K).bind λq=>(dgT n q p.1 q.2).map λo=>(o.isSome != neg,q.2)
 |.gin neg _ ks b=>(r.ev τ st b).bind λp=>lf (match p.1 with
  |.str z=>Y (ks.contains z != neg,p.2)
  |_=>B)
 |.cmp op a b=>(?o).bind λp=>(?K).bind λq=>(cmpT q.2 op p.1 q.1).map λk=>(k,q.2)
 |.cmp2 op op' a b c=>(?o).bind λp=>(?K).bind λq=>(cmpT q.2 op p.1 q.1).bind λk=>
   if k then(r.ev τ q.2 c).bind λu=>(cmpT u.2 op' q.1 u.1).map λk'=>(k',u.2) else ys (Y5,q.2)
 |e=>(r.ev τ st e).bind λp=>(qhr n p.2 p.1).map λk=>(k,p.2)
noncomputable def qh0(n:Y0)(r:RT)(τ:Sl)(st:Y3):S->TM (Out×Y3)
 |.set t e=>(r.ev τ st e).bind λp=>(lf (setT t p.1 τ)).map λτ'=>(.nx τ',p.2)
 |.dset a i e=>(r.ev τ st e).bind λp=>(r.ev τ p.2 a).bind λq=>(r.ev τ q.2 i).bind λu=>match q.1 with
  |.loc l=>(wdT n u.2 l).bind λkvs=>if isKey u.1 then(askB (decide (kvs.length<lim))).bind λb=>if b then ys (.nx τ,u.2.set l (.dic O (dput kvs u.1 p.1))) else no else no
  |_=>no
 |.setA C a f e=>(r.ev τ st e).bind λp=>(r.ev τ p.2 a).bind λq=>(obT n q.2 C q.1).bind λfs=>match q.1 with
  |.loc l=>if fs.length<900 then ys (.nx τ,q.2.set l (.obj C (putA f p.1 fs))) else no
  |_=>no
 |.expr e=>(r.ev τ st e).map λp=>(.nx τ,p.2)
 |.ret e=>(r.ev τ st e).map λp=>(.rt p.1,p.2)
 |.ite c a b=>askT (stepEx r.rl τ st (.ite c a b)) ((r.tst τ st c).bind λp=>if p.1 then r.ex τ p.2 a else r.ex τ p.2 b)
 |.forr t it body=>askS (stepEx r.rl τ st (.forr t it body)) ((srcT n r τ st it).bind λp=>
   qg5 p.1 (λτ st d=>(lf (setT t d τ)).bind λτ'=>r.ex τ' st body) (p.1.size p.2+1) 0 τ p.2)
 |.ford t a body=>askS (stepEx r.rl τ st (.ford t a body)) no
 |.whil c body=>askS (stepEx r.rl τ st (.whil c body)) no
 |.six a i e=>askT (stepEx r.rl τ st (.six a i e)) ((r.ev τ st e).bind λp=>(r.ev τ p.2 a).bind λq=>(r.ev τ q.2 i).bind λu=>match q.1,u.1 with
  |.loc l,.int i=>(wlT n u.2 l).bind λds=>(lf (ixN ds.length i)).map λj=>(.nx τ,u.2.set l (.lst O (ds.set j p.1)))
  |_,_=>no)
 |_=>no
noncomputable def qjb(n:Y0)(r:RT)(τ:Sl)(st:Y3)(s:S):TM (Out×Y3):=askT (stepEx r.rl τ st s) (qh0 n r τ st s)
noncomputable def exsT(f:Sl->Y3->S->TM (Out×Y3)):L S->Sl->Y3->TM (Out×Y3)
 |[],τ,st=>ys (.nx τ,st)
 |s::ss,τ,st=>(askN (τ,st)).bind λu=>(f u.1 u.2 s).bind λp=>match p.1 with
  |.nx τ'=>exsT f ss τ' p.2
  |o=>ys (o,p.2)
abbrev CT:=Y0->L D->Y3->TM (D×Y3)
noncomputable def runT(n:Y0)(R0:R)(c:CT):Y0->RT
 |0=>⟨R0,λ_ _ _=>no,λ_ _ _=>no,λ_ _ _=>no,c⟩
 |k+1=>⟨R0,qcg n (runT n R0 c k),qy0 n (runT n R0 c k),λτ st ss=>exsT (qjb n (runT n R0 c k)) ss τ st,c⟩
noncomputable def qka(fns:L Fn)(n:Y0)(Oq:L Y0)(k:Y0):Y0->CT
 |0=>λ_ _ _=>no
 |d+1=>λf ds st=>if Oq.contains f then askC (callD fns (k+(d+1)) f ds st) else match fns[f]? with
   |some F=>if ds.length=F.np then((runT n (RL (callD fns (k+d))) (qka fns n Oq k d) 40).ex (ds.map Y++List.replicate (F.nl - ds.length) B) st F.body).bind λp=>(match p.1 with
     |.rt d=>ys (d,p.2)
     |.nx _=>ys (.non,p.2))
    else no
   |none=>no
def Sn{α:Type}(x:TM α)(y:Y2 α):Prop:=∀t K,x t K->∃a t',y=Y a/\K a t'
theorem Sn.lf:∀(o:Y2 α),Sn (lf o) o
 |some a=>λt K h=>⟨a,t,rfl,h⟩
 |none=>λt K h=>h.elim
theorem Sn.ys(a:α):Sn (ys a) (Y a):=λt K h=>⟨a,t,rfl,h⟩
theorem Sn.no(o:Y2 α):Sn no o:=λt K h=>h.elim
theorem Sn.bind{x:TM α}{y:Y2 α}{f:α->TM b}{g:α->Y2 b}(h:Sn x y)(h':∀a,Sn (f a) (g a)):Sn (x.bind f) (y.bind g):=λt K e=>by
 obtain⟨a,d,rfl,c⟩:=h _ _ e;exact h' a _ _ c
theorem Sn.map{x:TM α}{y:Y2 α}(f:α->b)(h:Sn x y):Sn (x.map f) (y.map f):=λt K e=>by
 obtain⟨a,c,rfl,d⟩:=h _ _ e;exact⟨f a,c,rfl,d⟩
def Sn.ite[Decidable c]{a b:TM α}{d b':Y2 α}(e:Sn a d)(hb:Sn b b'):Sn (if c then a else b) (if c then d else b'):=by
 by_cases h:c
 ·rw[Z8 h,Z8 h]; exact e
 ·rw[Z7 h,Z7 h]; exact hb
def Sn.up{x:TM α}{y y':Y2 α}(h:∀a,y=Y a->y'=Y a)(e:Sn x y):Sn x y':=λt K h1=>by
 obtain⟨a,b,d,c⟩:=e t K h1;exact⟨a,b,h a d,c⟩
def Sn.eq{x:TM α}{y y':Y2 α}(h:y=y')(e:Sn x y):Sn x y':=h▸e
def bm{α a:Type}{o:Y2 α}{f:α->a}:(o.bind λx=>Y (f x))=o.map f:=by cases o<;>rfl
theorem Sn.askB(p):Sn (askB p) (Y p):=λt K h=>by
 cases t with
 |nil=>exact h.elim
 |cons i t=>
  cases i with
  |b k=>obtain⟨rfl,e⟩:=h; exact⟨_,_,rfl,e⟩
  |k=>exact⟨p,t,rfl,h⟩
  |_=>exact h.elim
theorem Sn.askC(o):Sn (askC o) o:=λt K h=>by
 cases t with
 |nil=>exact h.elim
 |cons i t=>
  cases i with
  |c a=>exact⟨a,t,h.1,h.2⟩
  |_=>exact h.elim
theorem Sn.askD(o):Sn (askD o) o:=λt K h=>by
 cases t with
 |nil=>exact Sn.lf o _ _ h
 |cons i t=>
  cases i with
  |c a=>exact⟨a,t,h.1,h.2⟩
  |_=>exact Sn.lf o _ _ h
theorem Sn.askE(h:Sn x o):Sn (askE o x) o:=λt K e=>by
 cases t with
 |nil=>exact h _ _ e
 |cons i t=>
  cases i with
  |c a=>exact⟨a,t,e.1,e.2⟩
  |_=>exact h _ _ e
theorem Sn.askS(h:Sn x o):Sn (askS o x) o:=λt K e=>by
 cases t with
 |nil=>exact h _ _ e
 |cons i t=>
  cases i with
  |s a=>exact⟨a,t,e.1,e.2⟩
  |_=>exact h _ _ e
theorem Sn.askT(h:Sn x o):Sn (askT o x) o:=λt K e=>by
 cases t with
 |nil=>exact h _ _ e
 |cons i t=>
  cases i with
  |t a=>exact⟨a,t,e.1,e.2⟩
  |_=>exact h _ _ e
theorem Sn.askQ(o):Sn (askQ o) (Y o):=λt K h=>by
 cases t with
 |nil=>exact h.elim
 |cons i t=>
  cases i with
  |q a=>exact⟨a,t,congrArg Y h.1,h.2⟩
  |k=>exact⟨o,t,rfl,h⟩
  |_=>exact h.elim
theorem Sn.askI(o):Sn (askI o) o:=λt K h=>by
 cases t with
 |nil=>exact Sn.lf o _ _ h
 |cons i t=>
  cases i with
  |i a=>exact⟨a,t,h.1,h.2⟩
  |n=>exact Sn.lf o _ _ h
  |_=>exact Sn.lf o _ _ h
theorem Sn.askR(o):Sn (askR o) o:=λt K h=>by
 cases t with
 |nil=>exact h.elim
 |cons i t=>
  cases i with
  |r c=>exact⟨c,t,h.1,h.2⟩
  |_=>exact h.elim
theorem Sn.askN(p):Sn (askN p) (Y p):=λt K h=>by
 cases t with
 |nil=>exact⟨p,[],rfl,h⟩
 |cons i t=>
  cases i with
  |e q=>exact⟨q,t,congrArg Y h.1,h.2⟩
  |_=>exact⟨p,_,rfl,h⟩
def Sn.rd(n)(st)(l):Sn (rdT n st l) st[l]?:=by
 unfold rdT
 by_cases hb:Nat.blt l n=O
 ·rw[Z8 hb]; exact .lf _
 ·rw[Z7 hb]; exact .askR _
def Sn.seq(n)(st)(d):Sn (seqT n st d) (seqAt st d):=by
 cases d with
 |loc l=>exact((Sn.rd n st l).bind λc=>.lf _).eq (by show _=listAt st l; unfold listAt; cases st[l]? with|none=>rfl|some c=>cases c<;>rfl)
 |lst ds=>exact .ys _
 |_=>exact .no _
def Sn.sli(n)(st)(d)(lo hi):Sn (sliT n st d lo hi) (sliD st d lo hi):=by
 cases d with
 |tup ds=>exact .ys _
 |_=>exact(Sn.seq n st _).map _
def Sn.ty(n)(st)(d):Sn (tyT n st d) (tyName st d):=by
 cases d with
 |non=>exact .ys _
 |bl _=>exact .ys _
 |int _=>exact .ys _
 |str _=>exact .ys _
 |tup _=>exact .ys _
 |_=>exact(Sn.seq n st _).map _
def Sn.row(n)(st)(d):Sn (rowT n st d) (rowAt st d):=by
 cases d with
 |tup ds=>exact .ys _
 |non=>exact Sn.seq n st .non
 |bl b=>exact Sn.seq n st (.bl b)
 |int b=>exact Sn.seq n st (.int b)
 |str b=>exact Sn.seq n st (.str b)
 |lst b=>exact Sn.seq n st (.lst b)
 |loc b=>exact Sn.seq n st (.loc b)
def Sn.wl(n)(st)(l):Sn (wlT n st l) (wlistAt st l):=((Sn.rd n st l).bind λc=>.lf _).eq (by
 unfold wlistAt
 cases st[l]? with
 |none=>rfl
 |some c=>cases c with
  |lst w ds=>cases w<;>rfl
  |_=>rfl)
def Sn.dc(n)(st)(l):Sn (dcT n st l) (dicAt st l):=((Sn.rd n st l).bind λc=>.lf _).eq (by unfold dicAt; cases st[l]? with|none=>rfl|some c=>cases c<;>rfl)
def Sn.wd(n)(st)(l):Sn (wdT n st l) (wdicAt st l):=((Sn.rd n st l).bind λc=>.lf _).eq (by
 unfold wdicAt
 cases st[l]? with
 |none=>rfl
 |some c=>cases c with
  |dic w ds=>cases w<;>rfl
  |_=>rfl)
def Sn.ob(n)(st)(C)(d):Sn (obT n st C d) (objAt st C d):=by
 cases d with
 |loc l=>exact((Sn.rd n st l).bind λc=>.lf _).eq (by unfold objAt; dsimp only; cases st[l]? with|none=>rfl|some c=>cases c<;>rfl)
 |_=>exact .no _
def Sn.gc(st)(p):Sn (gcT st p) (Y (gcD st p)):=λt K h=>by
 cases t with
 |nil=>exact h.elim
 |cons i t=>
  cases i with
  |g=>
   obtain⟨⟨h1,h2⟩,h⟩:=h;refine⟨_,t,?_,h⟩;unfold gcD gcX;rw[h2,Z8 h1,Z8 rfl,ite_self]
  |l ds=>exact⟨_,t,congrArg Y h.1,h.2⟩
  |k=>exact⟨_,t,rfl,h⟩
  |_=>exact h.elim
def Sn.cond(p)(a:α):Sn (TM.bind (M.askB p) λb=>if b=O then M.ys a else M.no) (if p=O then Y a else B):=
 (Sn.askB p).bind λb=>Sn.ite (Sn.ys a) (.no B)
def Sn.meth(n)(st)(m)(d)(es):Sn (qbe n st m d es) (mfun st m d es):=by
 cases m with
 |append=>
  unfold qbe;dsimp only
  split
  ·refine(Sn.wl n st _).bind λds=>(Sn.cond _ _).eq ?_;simp only[decide_eq_true_eq]
  ·exact .no _
 |extend=>
  unfold qbe;dsimp only
  split
  ·rename_i l d;refine(Sn.wl n st _).bind λds=>((Sn.row n st d).bind λes=>Sn.cond _ _).eq ?_;simp only[decide_eq_true_eq];cases d<;>rfl
  ·exact .no _
 |insert=>
  unfold qbe;dsimp only
  split
  ·refine(Sn.wl n st _).bind λds=>(Sn.cond _ _).eq ?_;simp only[decide_eq_true_eq]
  ·exact .no _
 |index=>
  unfold qbe;dsimp only
  split
  ·exact(Sn.seq n st _).bind λds=>.askD _
  ·exact .no _
def Sn.mt(n)(st)(m)(d){x:TM α}{y:Y2 α}(h:Sn x y):Sn (TM.bind (mtyT n st m d) λk=>if k=O then x else M.no) (if mty st m d then y else B):=by
 cases d with
 |str z=>exact λt K e=>Sn.ite h (.no B) t K e
 |lst z=>
  refine((Sn.ys m.ofList).bind λk=>Sn.ite h (.no B)).eq ?_
  show(if m.ofList=O then y else B)=if (m.ofList&&O)=O then y else B
  rw[Qxm]
 |loc l=>
  have e:=((Sn.seq n st (.loc l)).bind λ_=>Sn.ys m.ofList).bind λk=>Sn.ite (c:=k=O) h (.no B);refine e.up λa e=>?_;show(if (m.ofList&&(seqAt st (.loc l)).isSome)=O then y else B)=Y a
  cases hs:seqAt st (.loc l) with
  |none=>rw[hs]at e; cases e
  |some xs=>rw[hs]at e; rw[Option.isSome_some,Qxm]; exact e
 |_=>exact λt K e=>e.elim
theorem Sn.askO(o):Sn (askO o) o:=λt K h=>by
 cases t with
 |nil=>exact h.elim
 |cons i t=>
  cases i with
  |b k=>exact⟨k,t,h.1,h.2⟩
  |k=>exact Sn.lf o _ _ h
  |_=>exact h.elim
def Sn.cmp(st)(a)(x y):Sn (cmpT st a x y) (cmpD st a x y):=by
 unfold cmpT
 by_cases b:isAsk a x y=O
 ·rw[Z8 b]; exact .askO _
 ·rw[Z7 b];have h:Sn ((M.lf (cmpD st a x y)).bind λp=>if qnk a x=O then M.askB p else M.ys p) ((cmpD st a x y).bind λp=>if qnk a x=O then Y p else Y p):=(Sn.lf _).bind λp=>Sn.ite (Sn.askB p) (Sn.ys p);simpa using h
theorem Sn.truth(n)(st)(d):Sn (qhr n st d) (truth st d):=by
 cases d with
 |loc l=>exact((Sn.seq n st (.loc l)).bind λds=>Sn.askB _).eq (by show _=(seqAt st (.loc l)).map _; rw[Option.map_eq_bind]; rfl)
 |lst l=>exact .askB _
 |non=>exact .lf (M.truth st .non)
 |bl b=>exact .lf (M.truth st (.bl b))
 |int b=>exact .lf (M.truth st (.int b))
 |str b=>exact .lf (M.truth st (.str b))
 |tup b=>exact .lf (M.truth st (.tup b))
def Sn.add(n)(st)(a b):Sn (addT n st a b) ((seqAt st a).bind λx=>(seqAt st b).bind λy=>if lim<x.length+y.length then B else Y (alloc st (.lst O (x++y)))):=
 (Sn.seq n st a).bind λx=>(Sn.seq n st b).bind λy=>by
  have h:=(Sn.askB (decide (lim<x.length+y.length))).bind λk=>Sn.ite (c:=k=O) (.no B) (Sn.ys (alloc st (.lst O (x++y))));simpa only[oBs,decide_eq_true_eq] using h
def Sn.bin(n)(st)(c)(a b):Sn (binT n st c a b) (binop st c a b):=by
 unfold binT
 split
 ·exact(Sn.add n st _ b).eq (by cases b<;>rfl)
 ·exact(Sn.add n st _ b).eq (by cases b<;>rfl)
 ·split
  ·exact Sn.cond _ _
  ·exact .lf _
 ·exact .askD _
 ·exact .askD _
 ·exact .askD _
 ·exact .lf _
def Sn.bf(n)(st)(f)(ds):Sn (qn0 n st f ds) (bfun st f ds):=by
 unfold qn0
 split
 ·split
  ·exact((Sn.seq n st _).bind λxs=>.ys _).eq (bm)
  ·exact .lf _
 ·split
  ·rename_i l;refine((Sn.rd n st l).bind λc=>(Sn.lf _).bind λxs=>.ys _).eq ?_;show _=bList st [.loc l];unfold bList seqAt listAt dkeys dicAt;dsimp only
   cases st[l]? with
   |none=>rfl
   |some c=>cases c<;>rfl
  ·exact .lf _
 ·split
  ·exact((Sn.seq n st _).bind λxs=>.ys _).eq (bm)
  ·exact .lf _
 ·split
  ·rename_i i j;refine((Sn.askB _).bind λk=>.ys _).eq ?_;show Y _=Y _
   by_cases h:j<i<;>simp[h]
  ·exact .no _
 ·exact .askD _
structure SnR (r:RT) (r':R):Prop where
 rl:r.rl=r'
 ev:∀τ st e,Sn (r.ev τ st e) (r'.ev τ st e)
 tst:∀τ st e,Sn (r.tst τ st e) (r'.tst τ st e)
 ex:∀τ st e,Sn (r.ex τ st e) (r'.ex τ st e)
 call:∀f ds st,Sn (r.call f ds st) (r'.call f ds st)
theorem qxv(h:∀st e,Sn (f st e) (a st e)):∀(es:L E) (st:Y3),Sn (evsT f es st) (evs a es st)
 |[],st=>.ys _
 |e::es,st=>(h st e).bind λp=>(qxv h es p.2).bind λq=>.ys _
theorem qdo(h:∀τ st d,Sn (f τ st d) (a τ st d)):∀(k i:Y0) (τ:Sl) (st:Y3),Sn (qg5 it f k i τ st) (loop it a k i τ st)
 |0,_,_,_=>.no _
 |k+1,i,τ,st=>by
  unfold loop qg5;refine(Sn.lf _).bind λo=>?_
  cases o with
  |none=>exact .ys _
  |some d=>
   refine(h τ st d).bind λp=>?_;obtain⟨o,s⟩:=p
   cases o with
   |nx b=>exact qdo h k _ _ _
   |rt v=>exact .ys _
theorem qab(h:∀τ st d,Sn (f τ st d) (b τ st d)):∀(k i:Y0) (a:L D) (τ:Sl) (st:Y3),Sn (qac it f k i a τ st) (loopC it b k i a τ st)
 |0,_,_,_,_=>.no _
 |k+1,i,a,τ,st=>by
  unfold loopC qac;refine(Sn.lf _).bind λo=>?_
  cases o with
  |none=>exact Sn.ite (.no _) (.ys _)
  |some d=>exact Sn.ite (.no _) ((h τ st d).bind λp=>qab h k _ _ _ _)
theorem qee(h:∀τ st s,Sn (f τ st s) (b τ st s)):∀(a:L S) (τ:Sl) (st:Y3),Sn (exsT f a τ st) (exs b a τ st)
 |[],_,_=>.ys _
 |s::a,τ,st=>by
  unfold exs exsT;refine Sn.bind (y:=Y (τ,st)) (.askN _) λu=>(h u.1 u.2 s).bind λp=>?_;obtain⟨o,q⟩:=p
  cases o with
  |nx c=>exact qee h a _ _
  |rt _=>exact .ys _
section
variable (h:SnR r r')
include h
theorem qh2(τ)(st)(e):Sn (srcT n r τ st e) (src r' τ st e):=by
 cases e with
 |rng1 a=>
  refine (?r).bind λp=>?_;obtain⟨d,s⟩:=p
  cases d with
  |int n=>exact Sn.ite (.no _) (.ys _)
  |_=>exact .no _
 |rng2 a b=>exact .no _
 |zip a b=>exact (?r).bind λp=>(h.ev τ _ b).bind λq=>.lf _
 |enu a=>exact (?r).bind λp=>.lf _
 |rev a=>exact (?r).bind λp=>.lf _
 |_=>
  refine(h.ev τ st _).bind λp=>?_;obtain⟨d,s⟩:=p
  cases d with
  |tup n=>exact .ys _
  |str z=>exact .no _
  |_=>exact(Sn.seq n s _).map _
theorem qdv(τ)(st)(e):Sn (qmd r τ st e) (part r' τ st e):=by
 cases e with
 |none=>exact .ys _
 |some e=>
  refine(h.ev τ st e).bind λp=>?_;obtain⟨d,s⟩:=p
  cases d with
  |int n=>exact .ys _
  |_=>exact .no _
theorem qi7(t)(test)(elt)(τ)(st)(d):Sn (turnT r t test elt τ st d) (turnC r' t test elt τ st d):=(Sn.lf _).bind λa=>by
 cases test with
 |none=>exact(h.ev _ _ _).map _
 |some c=>exact(h.tst _ _ _).bind λb=>Sn.ite ((h.ev _ _ _).map _) (.ys _)
omit h in
theorem qhb(p)(k)(st){f:Y2 D->TM α}{g:Y2 D->Y2 α}(hf:∀o,Sn (f o) (g o)):Sn ((dgT n p k st).bind f) (match p.1 with
  |.loc l=>(dicAt st l).bind λkvs=>if isKey k then g (dget kvs k) else B
  |_=>B):=by
 obtain⟨d,s⟩:=p
 cases d with
 |loc l=>
  refine(((Sn.dc n st l).bind λkvs=>Sn.ite (Sn.askQ (dget kvs k)) (.no B)).bind hf).eq ?_;dsimp only
  cases dicAt st l with
  |none=>rfl
  |some kvs=>
   show Option.bind (if isKey k=O then Y (dget kvs k) else B) g=if isKey k=O then g (dget kvs k) else B
   by_cases e:isKey k=O
   ·rw[Z8 e,Z8 e]; rfl
   ·rw[Z7 e,Z7 e]; rfl
 |_=>exact λt K e=>e.elim
theorem qcf(τ)(st)(e):Sn (qcg n r τ st e) (stepEv r' τ st e):=by
 cases e with
 |var i=>exact .lf _
 |lit d=>exact .ys _
 |glo x d=>exact .ys _
 |bin j a b=>exact (?r).bind λp=>(h.ev τ _ b).bind λq=>.bin _ _ _ _ _
 |neg a=>exact (?r).bind λp=>.lf _
 |not a=>exact (?r).bind λp=>.lf _
 |cmp j a b=>exact (?r).bind λp=>(h.ev τ _ b).bind λq=>(Sn.cmp _ _ _ _).map _
 |cmp2 j w a b c=>exact (?r).bind λp=>(h.ev τ _ b).bind λq=>(Sn.cmp _ _ _ _).bind λk=>Sn.ite ((h.ev τ _ c).bind λu=>(Sn.cmp _ _ _ _).map _) (.ys _)
 |and a b=>
  refine (?r).bind λp=>?_;obtain⟨d,s⟩:=p
  cases d with
  |bl k=>cases k with
   |true=>exact h.ev τ _ b
   |false=>exact .ys _
  |_=>exact .no _
 |or a b=>
  refine (?r).bind λp=>?_;obtain⟨d,s⟩:=p
  cases d with
  |bl k=>cases k with
   |false=>exact h.ev τ _ b
   |true=>exact .ys _
  |_=>exact .no _
 |tup es=>exact(qxv (h.ev τ) es st).bind λp=>Sn.ite (.no _) (.ys _)
 |lst es=>exact(qxv (h.ev τ) es st).bind λp=>Sn.ite (.no _) (.ys _)
 |idx a b=>exact (?r).bind λp=>(h.ev τ _ b).bind λq=>(Sn.askI _).map _
 |sli a lo hi=>exact (?r).bind λp=>(qdv h τ _ lo).bind λl=>(qdv h τ _ hi).bind λu=>.sli _ _ _ _ _
 |call f es=>exact(qxv (h.ev τ) es st).bind λp=>h.call f _ _
 |bcall f es=>exact(qxv (h.ev τ) es st).bind λp=>.bf _ _ _ _
 |isi a y m=>exact (?r).bind λp=>(Sn.ty _ _ _).map _
 |lenset a=>exact (?r).bind λp=>(Sn.askI _).map _
 |gc a=>exact((?r).bind λp=>Sn.gc st p).eq (bm)
 |meth a m es=>exact (?r).bind λp=>Sn.mt _ _ _ _ ((qxv (h.ev τ) es _).bind λq=>.meth _ _ _ _ _)
 |dic es=>
  refine(qxv (h.ev τ) es _).bind λp=>((Sn.wd n p.2 st.length).bind λv=>Sn.lf _).eq ?_
  cases wdicAt p.2 st.length with
  |none=>rfl
  |some v=>cases v<;>rfl
 |didx a b=>exact (?r).bind λp=>(h.ev τ _ b).bind λq=>qhb p q.1 q.2 λo=>(Sn.lf o).map _
 |din neg a b=>exact (?r).bind λp=>(h.ev τ _ b).bind λq=>qhb q p.1 q.2 λo=>Sn.ys _
 |dgt a b=>
  refine (?r).bind λp=>?_;obtain⟨d,s⟩:=p
  cases d with
  |loc l=>exact(Sn.dc n s l).bind λ_=>(h.ev τ _ b).bind λq=>qhb (.loc l,s) q.1 q.2 λo=>Sn.ys _
  |_=>exact .no _
 |gidx x ks ds b=>exact(h.ev τ st b).bind λp=>.lf _
 |gin neg x ks b=>exact(h.ev τ st b).bind λp=>.lf _
 |comp t it g elt sr=>
  show Sn (askE (stepEv r.rl τ st (.comp t it g elt sr)) _) _;rw[h.rl];exact Sn.askE ((qh2 h τ st it).bind λp=>(qab (qi7 h t g elt) _ _ _ _ _).map _)
 |attr C a f=>exact (?r).bind λp=>(Sn.ob _ _ _ _).bind λfs=>.lf _
 |mcall C f m a es=>exact (?r).bind λp=>(Sn.ob _ _ _ _).bind λfs=>Sn.ite (.no _) ((qxv (h.ev τ) es _).bind λq=>h.call f _ _)
 |new C f es=>exact(qxv (h.ev τ) es st).bind λp=>(h.call f _ _).bind λq=>Sn.ite (.ys _) (.no _)
 |_=>exact .no _
theorem qa6(τ)(st)(e):Sn (qy0 n r τ st e) (stepTst r' τ st e):=by
 cases e with
 |not a=>exact(h.tst τ st a).map _
 |and a b=>exact(h.tst τ st a).bind λp=>Sn.ite (h.tst τ _ b) (.ys _)
 |or a b=>exact(h.tst τ st a).bind λp=>Sn.ite (.ys _) (h.tst τ _ b)
 |din neg a b=>
  refine((?r).bind λp=>(h.ev τ _ b).bind λq=>qhb q p.1 q.2 λo=>Sn.ys _).eq ?_;show _=(dinR r' τ st neg a b).bind _;unfold dinR;simp only[Option.bind_assoc];refine congrArg _ (funext λp=>congrArg _ (funext λq=>?_))
  cases q.1 with
  |loc l=>
   dsimp only
   cases dicAt q.2 l with
   |none=>rfl
   |some kvs=>
    simp only[oBs]
    by_cases e:isKey p.1=O
    ·rw[Z8 e,Z8 e]; rfl
    ·rw[Z7 e,Z7 e]; rfl
  |_=>rfl
 |gin neg x ks b=>
  refine((h.ev τ st b).bind λp=>Sn.lf _).eq ?_;show _=(ginR r' τ st neg ks b).bind _;unfold ginR;simp only[Option.bind_assoc];refine congrArg _ (funext λp=>?_);cases p.1<;>rfl
 |cmp f a b=>exact (?r).bind λp=>(h.ev τ _ b).bind λq=>(Sn.cmp _ _ _ _).map _
 |cmp2 f d a b c=>exact (?r).bind λp=>(h.ev τ _ b).bind λq=>(Sn.cmp _ _ _ _).bind λk=>Sn.ite ((h.ev τ _ c).bind λu=>(Sn.cmp _ _ _ _).map _) (.ys _)
 |_=>exact(h.ev τ st _).bind λp=>(Sn.truth _ _ _).map _
theorem qch(τ)(st)(s):Sn (qh0 n r τ st s) (stepEx r' τ st s):=by
 cases s with
 |set t e=>exact(h.ev τ st e).bind λp=>(Sn.lf _).map _
 |dset a i e=>
  refine(h.ev τ st e).bind λp=>(h.ev τ _ a).bind λq=>(h.ev τ _ i).bind λu=>?_;obtain⟨d,s⟩:=q
  cases d with
  |loc l=>
   refine((Sn.wd n u.2 l).bind λkvs=>Sn.ite (Sn.cond (decide (kvs.length<lim)) (Out.nx τ,u.2.set l (.dic O (dput kvs u.1 p.1)))) (.no B)).eq ?_;refine congrArg _ (funext λkvs=>?_)
   cases isKey u.1 with
   |true=>rfl
   |false=>rfl
  |_=>exact .no _
 |setA C a f e=>
  refine(h.ev τ st e).bind λp=>(h.ev τ _ a).bind λq=>(Sn.ob n _ _ _).bind λfs=>?_;obtain⟨d,s⟩:=q
  cases d with
  |loc l=>exact Sn.ite (.ys _) (.no _)
  |_=>exact .no _
 |expr e=>exact(h.ev τ st e).map _
 |ret e=>exact(h.ev τ st e).map _
 |ite c a b=>
  show Sn (askT (stepEx r.rl τ st (.ite c a b)) _) _;rw[h.rl];exact Sn.askT ((h.tst τ st c).bind λp=>Sn.ite (h.ex τ _ a) (h.ex τ _ b))
 |forr t it body=>
  show Sn (askS (stepEx r.rl τ st (.forr t it body)) _) _;rw[h.rl];exact Sn.askS ((qh2 h τ st it).bind λp=>qdo (λτ st d=>(Sn.lf _).bind λg=>h.ex g st body) _ _ _ _)
 |ford t a body=>
  show Sn (askS (stepEx r.rl τ st (.ford t a body)) _) _;rw[h.rl];exact Sn.askS (.no _)
 |whil c body=>
  show Sn (askS (stepEx r.rl τ st (.whil c body)) _) _;rw[h.rl];exact Sn.askS (.no _)
 |six a i e=>
  show Sn (askT (stepEx r.rl τ st (.six a i e)) _) _;rw[h.rl];refine Sn.askT ((h.ev τ st e).bind λp=>(h.ev τ _ a).bind λq=>(h.ev τ _ i).bind λu=>?_);obtain⟨d,s⟩:=q;obtain⟨k,s'⟩:=u
  cases d with
  |loc l=>
   cases k with
   |int i=>
    refine((Sn.wl n s' l).bind λds=>(Sn.lf (ixN ds.length i)).map λj=>(Out.nx τ,s'.set l (.lst O (ds.set j p.1)))).eq ?_;show _=((wlistAt s' l).bind λds=>(ixN ds.length i).map λj=>s'.set l (.lst O (ds.set j p.1))).map _
    cases wlistAt s' l with
    |none=>rfl
    |some ds=>show Option.map _ _=Option.map _ (Option.map _ _); rw[Option.map_map]; rfl
   |_=>exact .no _
  |_=>exact .no _
 |_=>exact .no _
theorem qjy(τ)(st)(s):Sn (qjb n r τ st s) (stepEx r' τ st s):=by
 show Sn (askT (stepEx r.rl τ st s) _) _;rw[h.rl];exact Sn.askT (qch h τ st s)
end
def qln(c):Le (RL c) λm=>runK c m:=
 ⟨λτ st e x h=>by obtain⟨n,e⟩:=lim1_is h; exact⟨n,λm a=>ev_up e a⟩,λτ st e x h=>by obtain⟨n,e⟩:=lim1_is h; exact⟨n,λm a=>qho e a⟩,λτ st e x h=>by obtain⟨n,e⟩:=lim1_is h; exact⟨n,λm a=>ex_up e a⟩,λf ds st x h=>⟨0,λm _=>by show(runK c m).call f ds st=_; rw[runK_call]; exact h⟩⟩
def qqo(c)(τ)(st)(e)(x)(h:stepEv (RL c) τ st e=Y x):(RL c).ev τ st e=Y x:=by
 obtain⟨n,hn⟩:=qjc (qln c) τ st e x h;exact qyw (n:=n+1) (λ_ _ _ h k=>ev_up h k) (hn n (Qqv _))
def qy8(c)(τ)(st)(e)(x)(h:stepTst (RL c) τ st e=Y x):(RL c).tst τ st e=Y x:=by
 obtain⟨n,hn⟩:=qxm (qln c) τ st e x h;exact qyw (n:=n+1) (λ_ _ _ h k=>qho h k) (hn n (Qqv _))
def qgx(c)(τ)(st)(e)(x)(h:exs (stepEx (RL c)) e τ st=Y x):(RL c).ex τ st e=Y x:=by
 obtain⟨n,hn⟩:=qve (qja (qln c)) e τ st x h;exact qyw (n:=n+1) (λ_ _ _ h k=>ex_up h k) (hn n (Qqv _))
theorem qxn(h:∀f ds st,Sn (c f ds st) (c' f ds st)):∀k,SnR (runT n (RL c') c k) (RL c')
 |0=>⟨rfl,λ_ _ _=>.no _,λ_ _ _=>.no _,λ_ _ _=>.no _,h⟩
 |k+1=>⟨rfl,λτ st e=>(qcf (qxn h k) τ st e).up (qqo c' τ st e),λτ st e=>(qa6 (qxn h k) τ st e).up (qy8 c' τ st e),λτ st a=>(qee (qjy (qxn h k)) a τ st).up (qgx c' τ st a),h⟩
theorem qq7:∀(d f:Y0) (ds:L D) (st:Y3),Sn (qka fns n b k d f ds st) (callD fns (k+d) f ds st)
 |0,f,ds,st=>.no _
 |d+1,f,ds,st=>by
  unfold qka
  by_cases a:b.contains f=O
  ·rw[Z8 a];exact .askC _
  ·rw[Z7 a];show Sn _ (stepCall fns (RL (callD fns (k+d))) f ds st);unfold stepCall
   cases hf:fns[f]? with
   |none=>exact .no _
   |some F=>
    refine Sn.ite (((qxn (λf ds st=>qq7 d f ds st) 40).ex _ _ _).bind λp=>?_) (.no _);obtain⟨o,s⟩:=p
    cases o with
    |rt _=>exact .ys _
    |nx _=>exact .ys _
def qhw(n)(g)(d)(P:Prop->Prop)(t)(c:P (r=r))(h:exsT (qjb n (runT n (RL (callD fns (k+d))) (qka fns n g k d) 40)) b τ st t (λa _=>a=r)=P (r=r):=by kernel_rfl):exs (stepEx (RL (callD fns (k+d)))) b τ st=Y r:=by
 rw[<- h]at c;obtain⟨a,i,e,rfl⟩:=qee (qjy (qxn (λf ds st=>qq7 d f ds st) 40)) b τ st t _ c;exact e
def qze(n)(c)(d)(P:Prop->Prop)(t)(e:P (r=r))(h:exsT (qjb n (runT n (RL (callD fns (k+d))) (qka fns n c k d) 40)) b τ st t (λa _=>a=r)=P (r=r):=by kernel_rfl):(RL (callD fns (k+d))).ex τ st b=Y r:=qgx _ _ _ _ _ (qhw n c d P t e h)
def qzw(n)(c)(d)(P:Prop->Prop)(t)(b:P (r=r))(h:(runT n (RL (callD fns (k+d))) (qka fns n c k d) 40).ev τ st e t (λa _=>a=r)=P (r=r):=by kernel_rfl):(RL (callD fns (k+d))).ev τ st e=Y r:=by
 rw[<- h]at b;obtain⟨a,g,e,rfl⟩:=(qxn (λf ds st=>qq7 d f ds st) 40).ev τ st e t _ b;exact e
def qzv(n)(c)(d)(P:Prop->Prop)(t)(b:P (r=r))(h:(runT n (RL (callD fns (k+d))) (qka fns n c k d) 40).tst τ st e t (λa _=>a=r)=P (r=r):=by kernel_rfl):(RL (callD fns (k+d))).tst τ st e=Y r:=by
 rw[<- h]at b;obtain⟨a,g,e,rfl⟩:=(qxn (λf ds st=>qq7 d f ds st) 40).tst τ st e t _ b;exact e
def qzz(n)(c)(d)(P:Prop->Prop)(t)(b:P (r=r))(h:qka fns n c k d f ds st t (λa _=>a=r)=P (r=r):=by kernel_rfl):callD fns (k+d) f ds st=Y r:=by
 rw[<- h]at b;obtain⟨a,g,e,rfl⟩:=qq7 d f ds st t _ b;exact e
def qvi(n)(g)(d)(c)(P:Prop->Prop)(t)(b:P (c=r))(h:qka fns n g k d f ds st t (λa _=>a=r)=P (c=r):=by kernel_rfl):callD fns (k+d) f ds st=Y r:=by
 rw[<- h]at b;obtain⟨a,i,e,rfl⟩:=qq7 d f ds st t _ b;exact e
end M
end
section
namespace MS
open PySem PySem.Spec PyProof.Rows L2
def qx3:fillsNumberSlot (.type "tuple") "mul" = pure false:=
 PySem.fillsNumberSlot_seq F.slot_tuple_mul.lookup (by decide +kernel) F.slot_tuple_rmul.lookup (by decide +kernel)
def qv1:seqRepeat? (.type "tuple")=pure (Y (.builtin "tuple.__mul__")):=by
 unfold seqRepeat?;rw[PySem.seqSlot_of (name:="__mul__") F.slot_tuple_mul.lookup (by decide +kernel),PySem.seqSlot_of (name:="__rmul__") F.slot_tuple_rmul.lookup (by decide +kernel)]
 rfl
def qkw(a)(t)(l)(b)(n)(c)(sl):
  Meets (Qt.«int.__rmul__» ⟨[.int a t,.ref l],[]⟩) (λ_ R s=>s.heap.get? l=Y { cls:=.type "tuple",dict:=c,data:=.seq b n,slots:=sl }/\R (.ok (.ret Value.notImplemented)) s):=
 .of_wp λprog w A R s h=>by obtain⟨e,g,d,tk,os⟩:=s; obtain⟨f,h⟩:=h; wp_walk; exact⟨_,rfl,h⟩
def qkq(l)(a)(n)(c)(sl)(x)(u)(b:¬ (decide (x < -(2 ^ 63))||decide (x >= 2 ^ 63))=O)(i:(a.isEmpty||x==1)=O):
  Meets (Qt.«tuple.__mul__» ⟨[.ref l,.int x u],[]⟩) (λ_ R s=>s.heap.get? l=Y { cls:=.type "tuple",dict:=c,data:=.seq a n,slots:=sl }/\R (.ok (.ret (Value.ref l))) s):=
 .of_wp λprog w A R s h=>by
  obtain⟨e,g,d,tk,os⟩:=s; obtain⟨f,h⟩:=h
  wp_walk
  simp only[Z7 b]
  wp_walk
  exact⟨_,rfl,h⟩
def qkx(l)(a)(n)(c)(sl)(x)(u)(b:¬ (decide (x < -(2 ^ 63))||decide (x >= 2 ^ 63))=O)(j:¬ (a.isEmpty||x==1)=O)(i:(decide (x<=0)||a.isEmpty)=O):
  Meets (Qt.«tuple.__mul__» ⟨[.ref l,.int x u],[]⟩) (λ_ R s=>s.heap.get? l=Y { cls:=.type "tuple",dict:=c,data:=.seq a n,slots:=sl }/\R (.ok (.ret (Value.ref s.heap.objs.size))) { s with heap:=s.heap.push { cls:=.type "tuple",data:=.seq #[] } }):=
 .of_wp λprog w A R s h=>by
  obtain⟨e,g,d,tk,os⟩:=s; obtain⟨f,h⟩:=h
  wp_walk
  simp only[Z7 b]
  wp_walk
  exact⟨_,rfl,h⟩
def qkj(l)(a)(n)(f)(sl)(x)(u)(e:¬ (decide (x < -(2 ^ 63))||decide (x >= 2 ^ 63))=O)(p:¬ (a.isEmpty||x==1)=O)(o:¬ (decide (x<=0)||a.isEmpty)=O)(c:¬ ((a.size:J)*x > (2 ^ 63 - 1) / 8))(m:¬ Builtin.Tuple.tupleTooMany ((a.size:J)*x)=O)(k:(List.foldl (λb x2=>b++x2) #[] (List.replicate x.toNat a)).size<=sizeLine):
  Meets (Qt.«tuple.__mul__» ⟨[.ref l,.int x u],[]⟩) (λ_ R s=>s.heap.get? l=Y { cls:=.type "tuple",dict:=f,data:=.seq a n,slots:=sl }/\R (.ok (.ret (Value.ref s.heap.objs.size))) { s with heap:=s.heap.push { cls:=.type "tuple",data:=.seq (List.foldl (λb x2=>b++x2) #[] (List.replicate x.toNat a)) } }):=
 .of_wp λprog w A R s h=>by
  obtain⟨i,g,d,tk,os⟩:=s; obtain⟨j,h⟩:=h
  wp_walk
  simp only[Z7 e]
  wp_walk
  simp only[Z7 c]
  wp_walk
  exact⟨_,rfl,h⟩
noncomputable def rRepT(K:Qqq):R2:=λx y H Q=>∃l k xs,x=.ref l/\y=.int k/\SqT K H l xs/\-(2 ^ 62)<=k/\k<2 ^ 62/\xs.length*k.toNat<=sizeLine/\
 (∀ys,ys=(List.replicate k.toNat xs).flatten->(ys=xs->Q (.ref l) H)/\∀p,H p=B->Q (.ref p) (upd H p (.tup ys)))
def qmf:OpR X (Q4 .Mult) (rRepT X.K):=by
 intro pins s σ H x y v u Q I E D h;obtain⟨l,k,xs,rfl,rfl,P,V,U,p,q⟩:=h;cases E;obtain⟨t,rfl⟩:=D;obtain⟨a,r,R,K⟩:=I.tuple P;obtain⟨⟨cls,d,C,sl⟩,b,hc,n,hd⟩:=id R;simp only at hc hd;subst hc hd;have w:=r.length;obtain⟨G,o⟩:=q _ rfl;have A:=λm=>by
  have:=foldl_rep a m [];rw[Qjg]at this;exact this
 have i:¬ (decide (k < -(2 ^ 63))||decide (k >= 2 ^ 63))=true:=by simp; omega
 refine wpAny_binaryOp_repeat_ref (by decide) ⟨_,b,rfl⟩ (λs'=>typeIs_int s' k t) qx3 F.fills_int_mul F.slot_int_rmul qv1 F.slot_int_index.lookup
  (Q0 F.slot_int_rmul (typeIs_int s k t) F.entry_int_rmul (F.args_int_rmul_2 _ _) (qkw k t l a.toArray n d sl) ⟨b,rfl,⟨_,b,rfl⟩,?_⟩)
 by_cases h1:(a.toArray.isEmpty||k==1)=O
 ·refine Q0 F.slot_tuple_mul ⟨_,b,rfl⟩ F.entry_tuple_mul (F.args_tuple_mul_2 _ _) (qkq l a.toArray n d sl k t i h1) ⟨b,⟨.ref l,H,I,rfl,G ?_⟩⟩;rw[Qxd]at h1;rcases h1 with z|z
  ·have j:a=[]:=by simpa using z
   have S:=Qz7.mp (by rw[w,j]; rfl);rw[S];simp
  ·have j:k=1:=by simpa using z
   rw[j];simp
 ·have g:a≠[]:=λz=>h1 (by rw[z]; rfl)
  by_cases h2:(decide (k<=0)||a.toArray.isEmpty)=O
  ·refine Q0 F.slot_tuple_mul ⟨_,b,rfl⟩ F.entry_tuple_mul (F.args_tuple_mul_2 _ _) (qkx l a.toArray n d sl k t i h1 h2) ⟨b,?_⟩;have hk:k<=0:=by
    rw[Qxd]at h2;rcases h2 with z|z
    ·simpa using z
    ·exact absurd (by simpa using z) g
   have T:k.toNat=0:=by omega
   refine⟨.ref _,_,I.laid (λ_ _ e=>Qqx _ e) (Qqv _) ?_,rfl,o _ I.fresh⟩;rw[T];exact⟨Qza _,[],.nil,IsTup.new s.heap _⟩
  ·have hk:0<k:=by
    simp at h2; omega
   have c:((a.toArray.size:Y0):J)*k=((a.length*k.toNat:Y0):J):=by
    rw[Qqa,Int.natCast_mul]
    congr 1
    omega
   have f:a.length*k.toNat<=sizeLine:=by rw[<- w]; exact p
   have N:(sizeLine:Y0)<2 ^ 60:=by rw[Q2]; decide
   refine Q0 F.slot_tuple_mul ⟨_,b,rfl⟩ F.entry_tuple_mul (F.args_tuple_mul_2 _ _) (qkj l a.toArray n d sl k t i h1 h2 ?_ ?_ ?_) ⟨b,?_⟩
   ·rw[c]; omega
   ·unfold Builtin.Tuple.tupleTooMany;rw[c,decide_eq_true_eq];omega
   ·rw[A,Qqa,len_rep,Nat.mul_comm]; exact f
   ·refine⟨.ref _,_,I.laid (λ_ _ e=>Qqx _ e) (Qqv _) ?_,rfl,o _ I.fresh⟩;rw[A];exact⟨by rw[len_rep,Nat.mul_comm]; exact p,_,r.rep k.toNat,IsTup.new s.heap _⟩
section
def qq6{lo:Y2 J}(c:IsTup s.heap t a)(hs:s.heap.IsSliceOf sl vl g .none)(pl:IsPart vl lo)(j:IsPart g hi)(i:HT.sIx a.size 0 lo=0/\HT.sIx a.size a.size hi=a.size)(h:Q (.ref t) s):wpAny ?q A (Zk (.ref t) (.ref sl)) Q E s:=by
 obtain⟨os,d,e,k⟩:=id hs;have f:s.TypeIs (.ref sl) "slice":=⟨os,d,e⟩
 unfold Zk
 try with_reducible refine Qo ?_
 first|refine Qq (Qx ?_)|skip
 refine Qq (wpAny_sequenceKey c.typeIs (by decide) ?_)
 refine Qq (Qb c.typeIs PyProof.Rows.slot_tuple_getitem
  (Qd PyProof.Rows.slot_tuple_getitem c.typeIs entry_tuple_getitem ?_ (args_tuple_getitem _ _)))
 show wpAny _ _ (Builtin.Tuple.tupleItemsOf (.ref t) >>= _) _ _ s;refine Qq (tupleItemsOf_ c ?_);refine Qq (wpAny_typeOf f ?_);rw[Z8 (by decide)];refine Qq (HT.sliceApplied_gen hs pl j ?_);have b:(((HT.sIx a.size 0 lo:Y0):J)==0&&(1:J)==1&&(HT.sIx a.size a.size hi - HT.sIx a.size 0 lo)==a.size)=true:=by
  rw[i.1,i.2];simp
 show wpAny _ _ (if (((HT.sIx a.size 0 lo:Y0):J)==0&&(1:J)==1&&(HT.sIx a.size a.size hi - HT.sIx a.size 0 lo)==a.size)=O then _ else _) _ _ s;rw[Z8 b];refine Qq ?_;unfold Builtin.Tuple.tupleIsExact;refine Qq (wpAny_typeOf c.typeIs (Qx ?_));rw[Z8 (by decide)]
 first
  |exact Qq (Zx (Qx ⟨_,rfl,Qx h⟩))
  |exact Qq (Zx (Qq (Qx (Qx ⟨_,rfl,Qx h⟩))))
  |exact Qq (Qq (Zx (Qx (Qx ⟨_,rfl,Qx h⟩))))
end
end MS
end
section
namespace MS
open PySem PySem.Spec PyProof.Rows L2
open M (D Yb Y3 Sl)
def nn{α:Type}{a:α}{P:Prop}(h:B=Y a):P:=by cases h
def SqF(K:Qqq)(H:Hp)(a:Y7)(xs:L V):Prop:=
 (∃o,H a=Y (.frz o (.lst xs)))\/∃(o:Obj) (its:Array Y8) (n:Y0),K.lookup a=Y o/\o.cls=.type "list"/\o.dict=B/\o.data=.seq its n/\its.size<=sizeLine/\Vals xs its.toList
mutual
noncomputable def IsD(K:Qqq)(m:L Y7)(H:Hp):D->V->Prop
 |.non,v=>v=.non
 |.bl b,v=>v=.bl b
 |.int i,v=>v=.int i
 |.str s,v=>v=.str s
 |.tup ds,v=>∃a xs,v=.ref a/\SqT K H a xs/\IsDs K m H ds xs
 |.lst ds,v=>∃a xs,v=.ref a/\SqF K H a xs/\IsDs K m H ds xs
 |.loc l,v=>∃a,m[l]?=Y a/\v=.ref a
noncomputable def IsDs(K:Qqq)(m:L Y7)(H:Hp):L D->L V->Prop
 |[],xs=>xs=[]
 |d::ds,xs=>∃x r,xs=x::r/\IsD K m H d x/\IsDs K m H ds r
end
def Sub(m m':L Y7):Prop:=∀(l:Y0) (a:Y7),m[l]?=Y a->m'[l]?=Y a
noncomputable def Sq:HO->Prop
 |.lst _=>True
 |.tup _=>True
 |_=>False
structure Tr (H H':Hp):Prop where
 tup:∀b xs,H b=Y (.tup xs)->H' b=Y (.tup xs)
 frz:∀b o u,H b=Y (.frz o u)->H' b=Y (.frz o u)
structure Tw (H H':Hp):Prop where
 tup:∀b xs,H b=Y (.tup xs)->H' b=Y (.tup xs)
 frz:∀b o u,Sq u->H b=Y (.frz o u)->H' b=Y (.frz o u)
def Tr.w(t:Tr H H'):Tw H H':=⟨t.tup,λb o u _=>t.frz b o u⟩
def Sub.refl(m):Sub m m:=λ_ _ h=>h
def Sub.trans(a:Sub m c)(b:Sub c m2):Sub m m2:=λl x h=>b l x (a l x h)
def Sub.app(m r):Sub m (m++r):=λl a h=>by
 rw[Qq2 (Qqk.mp h).1]; exact h
def Tr.refl(H):Tr H H:=⟨λ_ _ h=>h,λ_ _ _ h=>h⟩
def Tr.trans(a:Tr H d)(b:Tr d H2):Tr H H2:=⟨λc xs h=>b.tup c xs (a.tup c xs h),λc o u h=>b.frz c o u (a.frz c o u h)⟩
def Tr.of_same(h:Same H H'):Tr H H':=⟨λb xs e=>h b _ e,λb o u e=>h b _ e⟩
def qzc(a:H p=B):Same H (upd H p o):=λb u e=>by
 rw[qzx (qzl e a)]; exact e
def Tr.put(a:H p=Y (.lst xs)):Tr H (upd H p (.lst ys)):=
 ⟨λb zs e=>by rw[qzx (qzt e a (by intro z; cases z))]; exact e,λb o u e=>by rw[qzx (qzt e a (by intro z; cases z))]; exact e⟩
def Tw.sqT{K:Qqq}(t:Tw H H')(h:SqT K H a xs):SqT K H' a xs:=by
 rcases h with (h|⟨o,h⟩)|h
 ·exact .inl (.inl (t.tup _ _ h))
 ·exact .inl (.inr ⟨o,t.frz _ _ _ trivial h⟩)
 ·exact .inr h
def SqF.sq{K:Qqq}(h:SqF K H a xs):SqL K H a xs:=by
 rcases h with h|h
 ·exact .inl (.inr h)
 ·exact .inr h
def Tw.sqF{K:Qqq}(t:Tw H H')(h:SqF K H a xs):SqF K H' a xs:=by
 rcases h with⟨o,h⟩|h
 ·exact .inl ⟨o,t.frz _ _ _ trivial h⟩
 ·exact .inr h
theorem Tr.sqT{K:Qqq}(t:Tr H H')(h:SqT K H a xs):SqT K H' a xs:=t.w.sqT h
theorem Tr.sqF{K:Qqq}(t:Tr H H')(h:SqF K H a xs):SqF K H' a xs:=t.w.sqF h
section
variable {K:Qqq}{m m':L Y7}{H H':Hp}
mutual
theorem qqc(hs:Sub m m')(b:Tw H H'):∀(d:D) (v:V),IsD K m H d v->IsD K m' H' d v
 |.non,_,h=>h
 |.bl _,_,h=>h
 |.int _,_,h=>h
 |.str _,_,h=>h
 |.tup ds,_,h=>by
  unfold IsD at h ⊢;obtain⟨a,xs,e,q,r⟩:=h;exact⟨a,xs,e,b.sqT q,qz6 hs b ds xs r⟩
 |.lst ds,_,h=>by
  unfold IsD at h ⊢;obtain⟨a,xs,e,q,r⟩:=h;exact⟨a,xs,e,b.sqF q,qz6 hs b ds xs r⟩
 |.loc l,_,h=>by
  unfold IsD at h ⊢;obtain⟨a,e,q⟩:=h;exact⟨a,hs l a e,q⟩
theorem qz6(hs:Sub m m')(a:Tw H H'):∀(ds:L D) (xs:L V),IsDs K m H ds xs->IsDs K m' H' ds xs
 |[],_,h=>h
 |d::ds,_,h=>by
  unfold IsDs at h ⊢;obtain⟨x,r,e,q,t⟩:=h;exact⟨x,r,e,qqc hs a d x q,qz6 hs a ds r t⟩
end
def qza(hs:Sub m m')(a:Tr H H')(d)(v)(h:IsD K m H d v):IsD K m' H' d v:=qqc hs a.w d v h
def qzf(hs:Sub m m')(a:Tr H H')(ds)(xs)(h:IsDs K m H ds xs):IsDs K m' H' ds xs:=qz6 hs a.w ds xs h
theorem IsD.int(h:IsD K m H (.int i) v):v=.int i:=by unfold IsD at h; exact h
theorem IsD.bl(h:IsD K m H (.bl i) v):v=.bl i:=by unfold IsD at h; exact h
theorem IsD.str(h:IsD K m H (.str i) v):v=.str i:=by unfold IsD at h; exact h
theorem IsD.non(h:IsD K m H .non v):v=.non:=by unfold IsD at h; exact h
theorem IsD.tup(h:IsD K m H (.tup ds) v):∃a xs,v=.ref a/\SqT K H a xs/\IsDs K m H ds xs:=by unfold IsD at h; exact h
theorem IsD.lst(h:IsD K m H (.lst ds) v):∃a xs,v=.ref a/\SqF K H a xs/\IsDs K m H ds xs:=by unfold IsD at h; exact h
theorem IsD.loc(h:IsD K m H (.loc l) v):∃a,m[l]?=Y a/\v=.ref a:=by unfold IsD at h; exact h
def mkInt(i):IsD K m H (.int i) (.int i):=by unfold IsD; rfl
def mkBl(i):IsD K m H (.bl i) (.bl i):=by unfold IsD; rfl
def mkStr(i):IsD K m H (.str i) (.str i):=by unfold IsD; rfl
def qvw:IsD K m H .non .non:=by unfold IsD; rfl
def qq2(h:SqT K H a xs)(q:IsDs K m H ds xs):IsD K m H (.tup ds) (.ref a):=by unfold IsD; exact⟨a,xs,rfl,h,q⟩
def qbd(h:SqF K H a xs)(q:IsDs K m H ds xs):IsD K m H (.lst ds) (.ref a):=by unfold IsD; exact⟨a,xs,rfl,h,q⟩
def qg0(h:m[l]?=Y a):IsD K m H (.loc l) (.ref a):=by unfold IsD; exact⟨a,h,rfl⟩
def IsDs.nil(h:IsDs K m H [] xs):xs=[]:=by unfold IsDs at h; exact h
def IsDs.cons(h:IsDs K m H (d::ds) xs):∃x r,xs=x::r/\IsD K m H d x/\IsDs K m H ds r:=by unfold IsDs at h; exact h
def qz8:IsDs K m H [] []:=by unfold IsDs; rfl
def qzm(h:IsD K m H d x)(t:IsDs K m H ds r):IsDs K m H (d::ds) (x::r):=by unfold IsDs; exact⟨x,r,rfl,h,t⟩
def IsDs.one(h:IsDs K m H [d] xs):∃x,xs=[x]/\IsD K m H d x:=by
 obtain⟨x,r,rfl,q,t⟩:=h.cons;rw[t.nil];exact⟨x,rfl,q⟩
def IsDs.two(h:IsDs K m H [d,e] xs):∃x y,xs=[x,y]/\IsD K m H d x/\IsD K m H e y:=by
 obtain⟨x,r,rfl,q,t⟩:=h.cons;obtain⟨y,rfl,a⟩:=t.one;exact⟨x,y,rfl,q,a⟩
theorem IsDs.length:∀{ds}{xs},IsDs K m H ds xs->ds.length=xs.length
 |[],_,h=>by rw[h.nil]; rfl
 |_::_,_,h=>by
  obtain⟨x,r,rfl,_,t⟩:=h.cons;rw[Qqg,Qqg,t.length]
theorem IsDs.get:∀{ds:L D}{xs:L V}{i:Y0}{d:D},IsDs K m H ds xs->ds[i]?=Y d->∃x,xs[i]?=Y x/\IsD K m H d x
 |[],_,_,_,_,e=>by simp at e
 |d::ds,_,0,d',h,e=>by
  obtain⟨x,r,rfl,q,_⟩:=h.cons;have c:d=d':=by simpa using e
  subst c;exact⟨x,rfl,q⟩
 |d::ds,_,i+1,d',h,e=>by
  obtain⟨x,r,rfl,_,t⟩:=h.cons;obtain⟨y,b,a⟩:=t.get (by simpa using e);exact⟨y,by simpa using b,a⟩
theorem IsDs.append:∀{ds es}{xs ys},IsDs K m H ds xs->IsDs K m H es ys->IsDs K m H (ds++es) (xs++ys)
 |[],_,_,_,h,q=>by rw[h.nil]; exact q
 |_::_,_,_,_,h,q=>by
  obtain⟨x,r,rfl,a,t⟩:=h.cons;exact qzm a (t.append q)
theorem IsDs.set:∀{ds:L D}{xs:L V}(i:Y0){d:D}{x:V},IsDs K m H ds xs->IsD K m H d x->IsDs K m H (ds.set i d) (xs.set i x)
 |[],_,_,_,_,h,_=>by rw[h.nil]; exact qz8
 |_::_,_,0,_,_,h,q=>by
  obtain⟨x,r,rfl,a,t⟩:=h.cons;exact qzm q t
 |_::_,_,i+1,_,_,h,q=>by
  obtain⟨x,r,rfl,a,t⟩:=h.cons;exact qzm a (t.set i q)
end
noncomputable def keyOf:D->Y2 Key
 |.int i=>Y (.inl i)
 |.str z=>Y (.inr z)
 |_=>B
noncomputable def IsKV(K:Qqq)(m:L Y7)(H:Hp):L (D×D)->L (Key×V)->Prop
 |[],xs=>xs=[]
 |p::r,xs=>∃k v xr,xs=(k,v)::xr/\keyOf p.1=Y k/\IsD K m H p.2 v/\IsKV K m H r xr
theorem qqb{K:Qqq}(hs:Sub m b)(c:Tw H H'):∀(kvs:L (D×D)) (xs:L (Key×V)),IsKV K m H kvs xs->IsKV K b H' kvs xs
 |[],_,h=>h
 |p::r,_,⟨k,v,a,e,hk,hv,hr⟩=>⟨k,v,a,e,hk,qqc hs c _ _ hv,qqb hs c r a hr⟩
def qjs{K:Qqq}(hs:Sub m a)(b:Tr H H')(kvs)(xs)(h:IsKV K m H kvs xs):IsKV K a H' kvs xs:=qqb hs b.w kvs xs h
theorem IsKV.length{K:Qqq}:∀{kvs}{xs},IsKV K m H kvs xs->kvs.length=xs.length
 |[],_,h=>by rw[show _=[] from h]; rfl
 |p::r,_,⟨k,v,a,e,_,_,hr⟩=>by rw[e,Qqg,Qqg,hr.length]
def qef(c:keyOf a=Y k)(hb:keyOf b=Y j):M.eqT a b=decide (k=j):=by
 cases a with
 |int i=>
  cases c
  cases b with
  |int d=>cases hb; rw[M.eqT]; by_cases h:i=d<;>simp[h]
  |str z=>cases hb; simp[M.eqT]
  |_=>exact nn hb
 |str z=>
  cases c
  cases b with
  |int d=>cases hb; simp[M.eqT]
  |str e=>cases hb; rw[M.eqT]; by_cases h:z=e<;>simp[h]
  |_=>exact nn hb
 |_=>exact nn c
def qqu(h:M.isKey a=O):∃k,keyOf a=Y k:=by
 cases a with
 |int i=>exact⟨_,rfl⟩
 |str z=>exact⟨_,rfl⟩
 |_=>cases h
def qm9{K:Qqq}(h:keyOf a=Y k)(i:IsD K m H a v):v=kV k:=by
 cases a with
 |int b=>cases h; exact i.int
 |str z=>cases h; exact i.str
 |_=>exact nn h
theorem IsKV.get{K:Qqq}(c:keyOf a=Y j):∀{kvs}{xs},IsKV K m H kvs xs->(M.dget kvs a=B/\valV xs j=B)\/∃d v,M.dget kvs a=Y d/\valV xs j=Y v/\IsD K m H d v
 |[],_,h=>by rw[show _=[] from h]; exact .inl ⟨rfl,rfl⟩
 |p::r,_,⟨k,v,g,e,hk,hv,hr⟩=>by
  subst e;have eq:=qef hk c
  by_cases b:k=j
  ·refine .inr ⟨p.2,v,?_,qx4 b,hv⟩;rw[Z5 b]at eq;simp[M.dget,eq]
  ·rw[Z6 b]at eq;have f:M.dget (p::r) a=M.dget r a:=by simp[M.dget,eq]
   rw[f,qx5 b];exact hr.get c
theorem IsKV.any{K:Qqq}(b:keyOf a=Y j):∀{kvs}{xs},IsKV K m H kvs xs->(kvs.any λp=>M.eqT p.1 a)=(xs.any λp=>decide (p.1=j))
 |[],_,h=>by rw[show _=[] from h]; rfl
 |p::r,_,⟨k,v,c,e,hk,hv,hr⟩=>by
  subst e;rw[Qxf,Qxf,qef hk b,hr.any b]
theorem IsKV.repl{K:Qqq}(c:keyOf a=Y j)(hd:IsD K m H d w):∀{kvs}{xs},IsKV K m H kvs xs->IsKV K m H (kvs.map λp=>if M.eqT p.1 a then(p.1,d) else p) (xs.map λp=>if p.1=j then(p.1,w) else p)
 |[],_,h=>by rw[show _=[] from h]; rfl
 |p::r,_,⟨k,v,f,e,hk,hv,hr⟩=>by
  subst e;have eq:=qef hk c;rw[Qqm,Qqm]
  by_cases b:k=j
  ·rw[Z5 b]at eq;rw[Z8 eq,Z8 b];exact⟨k,w,_,rfl,hk,hd,hr.repl c hd⟩
  ·rw[Z6 b]at eq;rw[Z7 (by rw[eq]; nofun),Z7 b];exact⟨k,v,_,rfl,hk,hv,hr.repl c hd⟩
theorem IsKV.snoc{K:Qqq}(b:keyOf a=Y j)(hd:IsD K m H d w):∀{kvs}{xs},IsKV K m H kvs xs->IsKV K m H (kvs++[(a,d)]) (xs++[(j,w)])
 |[],_,h=>by rw[show _=[] from h]; exact⟨j,w,[],rfl,b,hd,rfl⟩
 |p::r,_,⟨k,v,c,e,hk,hv,hr⟩=>by
  subst e;exact⟨k,v,_,rfl,hk,hv,hr.snoc b hd⟩
def IsKV.put{K:Qqq}(h:IsKV K m H kvs xs)(b:keyOf a=Y j)(hd:IsD K m H d w):IsKV K m H (M.dput kvs a d) (putK xs j w):=by
 unfold M.dput putK;rw[h.any b]
 split
 ·exact h.repl b hd
 ·exact h.snoc b hd
theorem IsKV.merge{K:Qqq}:∀{more}{ms}{kvs}{xs},IsKV K m H more ms->IsKV K m H kvs xs->IsKV K m H (more.foldl (λa p=>M.dput a p.1 p.2) kvs) (qkn xs ms)
 |[],_,kvs,xs,h,q=>by rw[show _=[] from h]; exact q
 |p::r,_,kvs,xs,⟨k,v,b,e,hk,hv,hr⟩,q=>by
  subst e;exact hr.merge (q.put hk hv)
noncomputable def IsFs(K:Qqq)(m:L Y7)(H:Hp):L (Y4×D)->L (Y4×V)->Prop
 |[],ys=>ys=[]
 |p::r,ys=>∃v yr,ys=(p.1,v)::yr/\IsD K m H p.2 v/\IsFs K m H r yr
theorem qxe{K:Qqq}(hs:Sub m b)(c:Tw H H'):∀(fs:L (Y4×D)) (ys:L (Y4×V)),IsFs K m H fs ys->IsFs K b H' fs ys
 |[],_,h=>h
 |p::r,_,⟨v,a,e,hv,hr⟩=>⟨v,a,e,qqc hs c _ _ hv,qxe hs c r a hr⟩
def qd4{K:Qqq}(hs:Sub m a)(b:Tr H H')(fs)(ys)(h:IsFs K m H fs ys):IsFs K a H' fs ys:=qxe hs b.w fs ys h
theorem IsFs.length{K:Qqq}:∀{fs}{ys},IsFs K m H fs ys->fs.length=ys.length
 |[],_,h=>by rw[show _=[] from h]; rfl
 |p::r,_,⟨v,a,e,_,hr⟩=>by rw[e,Qqg,Qqg,hr.length]
theorem IsFs.get{K:Qqq}(f):∀{fs}{ys},IsFs K m H fs ys->(fs.lookup f=B/\ys.lookup f=B)\/∃d v,fs.lookup f=Y d/\ys.lookup f=Y v/\IsD K m H d v
 |[],_,h=>by rw[show _=[] from h]; exact .inl ⟨rfl,rfl⟩
 |(g,d)::r,_,⟨v,a,e,hv,hr⟩=>by
  subst e;rw[Qzy,Qzy]
  cases f==g with
  |true=>exact .inr ⟨d,v,rfl,rfl,hv⟩
  |false=>exact hr.get f
theorem IsFs.put{K:Qqq}(hd:IsD K m H d w):∀{fs}{ys},IsFs K m H fs ys->IsFs K m H (M.putA f d fs) (putF f w ys)
 |[],_,h=>by rw[show _=[] from h]; exact⟨w,[],rfl,hd,rfl⟩
 |(g,x)::r,_,⟨v,a,e,hv,hr⟩=>by
  subst e;unfold M.putA putF
  split
  ·exact⟨w,a,rfl,hd,hr⟩
  ·exact⟨v,_,rfl,hv,hr.put hd⟩
noncomputable def IsC(K:Qqq)(m:L Y7)(H:Hp):Yb->Y7->Prop
 |.lst O ds,a=>∃xs,H a=Y (.lst xs)/\IsDs K m H ds xs
 |.lst Y5 ds,a=>∃xs,SqF K H a xs/\IsDs K m H ds xs
 |.dic O kvs,a=>∃xs,H a=Y (.dK xs)/\IsKV K m H kvs xs
 |.dic Y5 kvs,a=>∃o xs,H a=Y (.frz o (.dK xs))/\IsKV K m H kvs xs
 |.obj C fs,a=>∃dx ys,H a=Y (.ins C dx ys)/\IsFs K m H fs ys
noncomputable def Wr:Yb->Ya
 |.lst w _=>w
 |_=>O
structure Rel (K:Qqq) (m:L Y7) (st:Y3) (H:Hp):Prop where
 len:m.length=st.length
 nd:∀(l l':Y0) (a:Y7) (c c':Yb),m[l]?=Y a->m[l']?=Y a->st[l]?=Y c->st[l']?=Y c'->Wr c=O->Wr c'=O->l=l'
 cell:∀(l:Y0) (c:Yb) (a:Y7),st[l]?=Y c->m[l]?=Y a->IsC K m H c a
section
variable {K:Qqq}{m:L Y7}{st:Y3}{H:Hp}
def Rel.addr(h:Rel K m st H){l:Y0}(e:st[l]?=Y c):∃a,m[l]?=Y a:=by
 have b:=(Qqk.mp e).1;have:=h.len;exact⟨m[l]'(by lia),by simp⟩
def IsC.wr(h:IsC K m H c a)(w:Wr c=O):∃o,H a=Y o:=by
 cases c with
 |lst b ds=>
  have e:=w;subst e;obtain⟨xs,e,_⟩:=h;exact⟨_,e⟩
 |dic b kvs=>
  cases b with
  |true=>obtain⟨xs,e,_⟩:=h; exact⟨_,e⟩
  |false=>obtain⟨o,xs,e,_⟩:=h; exact⟨_,e⟩
 |obj C fs=>
  obtain⟨dx,ys,e,_⟩:=h;exact⟨_,e⟩
def Rel.list(h:Rel K m st H)(e:M.listAt st l=Y ds)(hv:IsD K m H (.loc l) v):∃a xs,m[l]?=Y a/\v=.ref a/\SqL K H a xs/\IsDs K m H ds xs:=by
 obtain⟨a,b,rfl⟩:=hv.loc;unfold M.listAt at e
 split at e
 ·rename_i w g q;cases e;have c:=h.cell l _ a q b
  cases w with
  |true=>
   obtain⟨xs,f,d⟩:=c;exact⟨a,xs,b,rfl,SqL.of f,d⟩
  |false=>
   obtain⟨xs,f,d⟩:=c;exact⟨a,xs,b,rfl,f.sq,d⟩
 ·exact nn e
def Rel.seq(h:Rel K m st H)(e:M.seqAt st d=Y ds)(hv:IsD K m H d v):∃a xs,True/\v=.ref a/\SqL K H a xs/\IsDs K m H ds xs:=by
 cases d with
 |loc l=>
  obtain⟨a,xs,_,q⟩:=h.list e hv;exact⟨a,xs,trivial,q⟩
 |lst es=>
  cases e;obtain⟨a,xs,e,q,r⟩:=hv.lst;exact⟨a,xs,trivial,e,q.sq,r⟩
 |_=>exact nn e
def Rel.wlist(h:Rel K m st H)(e:M.wlistAt st l=Y ds)(hv:IsD K m H (.loc l) v):∃a xs,m[l]?=Y a/\v=.ref a/\H a=Y (.lst xs)/\IsDs K m H ds xs/\st[l]?=Y (.lst O ds):=by
 obtain⟨a,b,rfl⟩:=hv.loc;unfold M.wlistAt at e
 split at e
 ·rename_i f q;cases e;obtain⟨xs,d,c⟩:=h.cell l _ a q b;exact⟨a,xs,b,rfl,d,c,q⟩
 ·exact nn e
def qwd(hs:Sub m f)(b:Tw H H')(h:IsC K m H c a)(d:Wr c=O->H' a=H a):IsC K f H' c a:=by
 cases c with
 |lst w ds=>
  cases w with
  |true=>
   obtain⟨xs,e,q⟩:=h;exact⟨xs,(d rfl).trans e,qz6 hs b ds xs q⟩
  |false=>
   obtain⟨xs,e,q⟩:=h;exact⟨xs,b.sqF e,qz6 hs b ds xs q⟩
 |dic w kvs=>
  cases w with
  |true=>
   obtain⟨xs,e,q⟩:=h;exact⟨xs,(d rfl).trans e,qqb hs b kvs xs q⟩
  |false=>
   obtain⟨o,xs,e,q⟩:=h;exact⟨o,xs,(d rfl).trans e,qqb hs b kvs xs q⟩
 |obj C fs=>
  obtain⟨dx,ys,e,q⟩:=h;exact⟨dx,ys,(d rfl).trans e,qxe hs b fs ys q⟩
def qx9(hs:Sub m b)(e:Tr H H')(h:IsC K m H c a)(d:Wr c=O->H' a=H a):IsC K b H' c a:=qwd hs e.w h d
def Rel.dict(h:Rel K m st H)(e:M.dicAt st l=Y kvs)(hv:IsD K m H (.loc l) v):∃a xs,m[l]?=Y a/\v=.ref a/\Rd H a (.dK xs)/\IsKV K m H kvs xs:=by
 obtain⟨a,b,rfl⟩:=hv.loc;unfold M.dicAt at e
 split at e
 ·rename_i w g q;cases e;have c:=h.cell l _ a q b
  cases w with
  |true=>
   obtain⟨xs,f,d⟩:=c;exact⟨a,xs,b,rfl,.inl f,d⟩
  |false=>
   obtain⟨o,xs,f,d⟩:=c;exact⟨a,xs,b,rfl,.inr ⟨o,f⟩,d⟩
 ·exact nn e
def Rel.wdict(h:Rel K m st H)(e:M.wdicAt st l=Y kvs)(hv:IsD K m H (.loc l) v):∃a xs,m[l]?=Y a/\v=.ref a/\H a=Y (.dK xs)/\IsKV K m H kvs xs/\st[l]?=Y (.dic O kvs):=by
 obtain⟨a,c,rfl⟩:=hv.loc;unfold M.wdicAt at e
 split at e
 ·rename_i b q;cases e;obtain⟨xs,f,d⟩:=h.cell l _ a q c;exact⟨a,xs,c,rfl,f,d,q⟩
 ·exact nn e
def Rel.inst(h:Rel K m st H)(e:M.objAt st C d=Y fs)(hv:IsD K m H d v):∃l a dx ys,d=.loc l/\m[l]?=Y a/\v=.ref a/\H a=Y (.ins C dx ys)/\IsFs K m H fs ys/\st[l]?=Y (.obj C fs):=by
 cases d with
 |loc l=>
  obtain⟨a,b,rfl⟩:=hv.loc;have e:(match st[l]? with|some (.obj c fs)=>if c=C then Y fs else B|_=>B)=Y fs:=e
  split at e
  ·rename_i c fs' q
   split at e
   ·rename_i f;cases e;subst f;obtain⟨dx,ys,i,g⟩:=h.cell l _ a q b;exact⟨l,a,dx,ys,rfl,b,rfl,i,g,q⟩
   ·exact nn e
  ·exact nn e
 |_=>exact nn e
def Rel.same(h:Rel K m st H)(s:Same H H'):Rel K m st H':=
 ⟨h.len,h.nd,λl c a e b=>qx9 ?H (Tr.of_same s) (h.cell l c a e b) λw=>by
  obtain⟨xs,q⟩:=(h.cell l c a e b).wr w
  rw[q]; exact s _ _ q⟩
def Rel.newC(h:Rel K m st H)(k:H p=B)(hc:Wr c=O->True)(hd:IsC K (m++[p]) (upd H p o) c p):Rel K (m++[p]) (st++[c]) (upd H p o):=by
 have A:Tr H (upd H p o):=Tr.of_same (qzc k);have f:∀(l:Y0) (e:Yb) (a:Y7),(st++[c])[l]?=Y e->(m++[p])[l]?=Y a->(l<st.length/\st[l]?=Y e/\m[l]?=Y a)\/(l=st.length/\e=c/\a=p):=by
  intro l e a g i
  by_cases s:l<st.length
  ·rw[Qq2 s]at g;rw[Qq2 (by rw[h.len]; exact s)]at i;exact .inl ⟨s,g,i⟩
  ·have r:=(Qqk.mp g).1;rw[Qqn,Qz1]at r;have v:l=st.length:=by lia
   subst v;rw[Qzg (Qqv _)]at g;rw[Qzg (by rw[h.len]; exact Qqv _),h.len]at i;have u:c=e:=by simpa using g
   have t:p=a:=by simpa using i
   exact .inr ⟨rfl,u.symm,t.symm⟩
 refine⟨by simp[h.len],λl q a e x v u t C w y=>?_,λl e a g i=>?_⟩
 ·rcases f l e a t v with⟨h1,d,b⟩|⟨h1,d,b⟩<;>rcases f q x a C u with⟨h2,n,j⟩|⟨h2,n,j⟩
  ·exact h.nd l q a e x b j d n w y
  ·obtain⟨ys,z⟩:=(h.cell l e a d b).wr w;rw[j,k]at z; cases z
  ·obtain⟨ys,z⟩:=(h.cell q x a n j).wr y;rw[b,k]at z; cases z
  ·rw[h1,h2]
 ·rcases f l e a g i with⟨h1,d,b⟩|⟨h1,d,b⟩
  ·refine qx9 (Sub.app m [p]) A (h.cell l e a d b) λw=>?_;obtain⟨ys,z⟩:=(h.cell l e a d b).wr w;exact qzx (qzl z k)
  ·rw[d,b];exact hd
def Rel.new(h:Rel K m st H)(a:H p=B)(hd:IsDs K m H ds xs):Rel K (m++[p]) (st++[.lst O ds]) (upd H p (.lst xs)):=
 h.newC a (λ_=>trivial) ⟨xs,qzy,qzf (Sub.app m [p]) (Tr.of_same (qzc a)) ds xs hd⟩
def Rel.newD(h:Rel K m st H)(a:H p=B)(hd:IsKV K m H kvs xs):Rel K (m++[p]) (st++[.dic O kvs]) (upd H p (.dK xs)):=
 h.newC a (λ_=>trivial) ⟨xs,qzy,qjs (Sub.app m [p]) (Tr.of_same (qzc a)) kvs xs hd⟩
def Rel.newLoc(h:Rel K m st H):IsD K (m++[p]) H' (.loc st.length) (.ref p):=qg0 (by
 rw[Qzg (by rw[h.len]; exact Qqv _),h.len]; simp)
def Rel.putW(h:Rel K m st H)(e:st[l]?=Y c)(i:Wr c=O)(s:m[l]?=Y a)(u:Tw H (upd H a o))(hd:IsC K m (upd H a o) c' a):
  Rel K m (st.set l c') (upd H a o):=by
 have v:=(Qqk.mp e).1;have wr:∀(j:Y0) (d:Yb),(st.set l c')[j]?=Y d->(j=l/\d=c')\/(j≠l/\st[j]?=Y d):=by
  intro j d q
  by_cases hj:j=l
  ·subst hj;rw[Qq5 v]at q;exact .inl ⟨rfl,(Option.some.inj q).symm⟩
  ·rw[Qqr (Ne.symm hj)]at q;exact .inr ⟨hj,q⟩
 refine⟨by rw[Qzs]; exact h.len,λj t b d A n k y x w r=>?_,λj d b q g=>?_⟩
 ·rcases wr j d y with⟨f,b1⟩|⟨f,b1⟩<;>rcases wr t A x with⟨p,b2⟩|⟨p,b2⟩
  ·rw[f,p]
  ·subst f; exact h.nd _ _ b _ _ n k e b2 i r
  ·subst p; exact h.nd _ _ b _ _ n k b1 e w i
  ·exact h.nd _ _ b _ _ n k b1 b2 w r
 ·rcases wr j d q with⟨f,b1⟩|⟨f,b1⟩
  ·subst f b1;rw[s]at g; cases g;exact hd
  ·refine qwd ?H u (h.cell j d b b1 g) λw=>qzx λz=>?_;subst z;exact f (h.nd _ _ b _ _ g s b1 e w i)
def Rel.putC(h:Rel K m st H)(e:st[l]?=Y c)(b:Wr c=O)(f:m[l]?=Y a)(d:Tr H (upd H a o))(hd:IsC K m (upd H a o) c' a):
  Rel K m (st.set l c') (upd H a o):=h.putW e b f d.w hd
theorem Rel.put(h:Rel K m st H)(e:st[l]?=Y (.lst O ds))(d:m[l]?=Y a)(c:H a=Y (.lst xs))(hd:IsDs K m H b ys):
  Rel K m (st.set l (.lst O b)) (upd H a (.lst ys)):=
 h.putC e rfl d (Tr.put c) ⟨ys,qzy,qzf ?H (Tr.put c) b ys hd⟩
def Tr.putD(a:H p=Y (.dK xs)):Tr H (upd H p (.dK ys)):=
 ⟨λb zs e=>by rw[qzx (qzt e a (by intro z; cases z))]; exact e,λb o u e=>by rw[qzx (qzt e a (by intro z; cases z))]; exact e⟩
theorem Rel.putD(h:Rel K m st H)(e:st[l]?=Y (.dic O kvs))(d:m[l]?=Y a)(c:H a=Y (.dK xs))(hd:IsKV K m H b ys):
  Rel K m (st.set l (.dic O b)) (upd H a (.dK ys)):=
 h.putC e rfl d (Tr.putD c) ⟨ys,qzy,qjs ?H (Tr.putD c) b ys hd⟩
end
def Tr.putI(a:H p=Y (.ins C c xs)):Tr H (upd H p (.ins C c ys)):=
 ⟨λb zs e=>by rw[qzx (qzt e a (by intro z; cases z))]; exact e,λb o u e=>by rw[qzx (qzt e a (by intro z; cases z))]; exact e⟩
theorem Rel.putI{K:Qqq}{st:Y3}(h:Rel K m st H)(e:st[l]?=Y (.obj C fs))(d:m[l]?=Y a)(c:H a=Y (.ins C b xs))(hd:IsFs K m H gs ys):
  Rel K m (st.set l (.obj C gs)) (upd H a (.ins C b ys)):=
 h.putC e rfl d (Tr.putI c) ⟨b,ys,qzy,qd4 ?H (Tr.putI c) gs ys hd⟩
def Rel.newI{K:Qqq}{st:Y3}(h:Rel K m st H)(i:H x=B)(f:H a=B)(d:a≠x):Same H (upd (upd H a (.own x)) x (.ins C a []))/\Rel K (m++[x]) (st++[.obj C []]) (upd (upd H a (.own x)) x (.ins C a [])):=by
 have g:Same H (upd H a (.own x)):=qzc f;have c:(upd H a (.own x)) x=none:=by rw[qzx (Ne.symm d)]; exact i
 exact⟨λb u e=>qzc c b u (g b u e),(h.same g).newC c (λ_=>trivial) ⟨a,[],qzy,rfl⟩⟩
def Tr.ice(h:H a=Y (.dK xs)):Tr H (upd H a (.frz o (.dK xs))):=
 ⟨λb zs e=>by rw[qzx (qzt e h (by intro z; cases z))]; exact e,λb o u e=>by rw[qzx (qzt e h (by intro z; cases z))]; exact e⟩
def Tr.thaw(h:H a=Y (.dK xs))(t:Tr (upd H a (.frz o (.dK xs))) H'):Tr H (upd H' a (.dK ys)):=
 ⟨λb zs e=>by
  have hb:=qzt e h (by intro z; cases z);rw[qzx hb];exact t.tup b zs (by rw[qzx hb]; exact e),λb o u e=>by
  have hb:=qzt e h (by intro z; cases z);rw[qzx hb]
  exact t.frz b o u (by rw[qzx hb]; exact e)⟩
def Tw.thaw(h:H a=Y (.frz o (.dK xs))):Tw H (upd H a (.dK ys)):=
 ⟨λb zs e=>by rw[qzx (qzt e h (by intro z; cases z))]; exact e,λb o u hs e=>by rw[qzx (qzt e h (by intro z; cases z; exact hs))]; exact e⟩
theorem Rel.ice{K:Qqq}{st:Y3}(h:Rel K m st H)(e:st[l]?=Y (.dic O kvs))(c:m[l]?=Y a)(b:H a=Y (.dK xs))(hd:IsKV K m H kvs xs):
  Rel K m (st.set l (.dic Y5 kvs)) (upd H a (.frz o (.dK xs))):=
 h.putC e rfl c (Tr.ice b) ⟨o,xs,qzy,qjs ?H (Tr.ice b) kvs xs hd⟩
theorem Rel.thaw{K:Qqq}{st:Y3}(h:Rel K m st H)(e:st[l]?=Y (.dic Y5 kvs))(c:m[l]?=Y a)(b:H a=Y (.frz o (.dK xs))):
  Rel K m (st.set l (.dic O kvs)) (upd H a (.dK xs)):=by
 obtain⟨o',ys,d,q⟩:=h.cell l _ a e c;rw[b]at d;cases d;exact h.putW e rfl c (Tw.thaw b) ⟨xs,qzy,qqb ?H (Tw.thaw b) kvs xs q⟩
structure SlotOk (K:Qqq) (m:L Y7) (H:Hp) (τ:Sl) (σ:L2.St):Prop where
 len:τ.length=σ.length
 at_:∀(i:Y0) (d:D),τ[i]?=Y (Y d)->∃v,σ[i]?=Y (Y v)/\IsD K m H d v
def SlotOk.monoW{K:Qqq}(h:SlotOk K m H τ σ)(s:Sub m c)(t:Tw H H'):SlotOk K c H' τ σ:=
 ⟨h.len,λi d e=>let ⟨v,a,b⟩:=h.at_ i d e; ⟨v,a,qqc s t d v b⟩⟩
def SlotOk.mono{K:Qqq}(h:SlotOk K m H τ σ)(s:Sub m c)(t:Tr H H'):SlotOk K c H' τ σ:=
 ⟨h.len,λi d e=>let ⟨v,a,b⟩:=h.at_ i d e; ⟨v,a,qza s t d v b⟩⟩
def SlotOk.put{K:Qqq}(h:SlotOk K m H τ b)(q:IsD K m H d v):SlotOk K m H (τ.set i (Y d)) (b.set i (Y v)):=by
 refine⟨by rw[Qzs,Qzs]; exact h.len,λj e a=>?_⟩
 by_cases hj:i=j
 ·subst hj;have hi:i<τ.length:=by
   have:=(Qqk.mp a).1;rwa [Qzs]at this
  rw[Qq5 hi]at a;cases a;exact⟨v,Qq5 (by rw[<- h.len]; exact hi),q⟩
 ·rw[Qqr hj]at a ⊢;exact h.at_ j e a
def Post(K:Qqq)(m:L Y7)(H:Hp)(d:D)(st':Y3)(Q:VK):Prop:=∀v m' H',Sub m m'->Tr H H'->Rel K m' st' H'->IsD K m' H' d v->Q v H'
def PostB(K:Qqq)(m:L Y7)(H:Hp)(b:Ya)(st':Y3)(Q:Ya->Hp->Prop):Prop:=∀m' H',Sub m m'->Tr H H'->Rel K m' st' H'->Q b H'
def PostL(K:Qqq)(m:L Y7)(H:Hp)(ds:L D)(st':Y3)(Q:L V->Hp->Prop):Prop:=∀vs m' H',Sub m m'->Tr H H'->Rel K m' st' H'->IsDs K m' H' ds vs->Q vs H'
def Post.mono{K:Qqq}(p:Post K m H d st' Q)(s:Sub m a)(t:Tr H b):Post K a b d st' Q:=
 λv m' H' s' c r i=>p v m' H' (s.trans s') (t.trans c) r i
def Post.here{K:Qqq}(p:Post K m H d st' Q)(r:Rel K m st' H)(i:IsD K m H d v):Q v H:=p v m H ?H (Tr.refl H) r i
noncomputable def tD(K:Qqq)(f:Sl->Y3->Y2 (D×Y3)):TE:=λσ H Q=>∃m st τ d st',Rel K m st H/\SlotOk K m H τ σ/\f τ st=Y (d,st')/\Post K m H d st' Q
noncomputable def tTs(K:Qqq)(f:Sl->Y3->Y2 (Ya×Y3)):TT:=λσ H Q=>∃m st τ d st',Rel K m st H/\SlotOk K m H τ σ/\f τ st=Y (d,st')/\PostB K m H d st' Q
noncomputable def tL(K:Qqq)(f:Sl->Y3->Y2 (L D×Y3)):TA:=λσ H Q=>∃m st τ d st',Rel K m st H/\SlotOk K m H τ σ/\f τ st=Y (d,st')/\PostL K m H d st' Q
noncomputable def rD(K:Qqq)(g:Y3->D->D->Y2 (D×Y3)):R2:=λx y H Q=>∃m st a b d st',Rel K m st H/\IsD K m H a x/\IsD K m H b y/\g st a b=Y (d,st')/\Post K m H d st' Q
def rC(K:Qqq)(g:Y3->L D->Y2 (D×Y3)):L V->Hp->VK->Prop:=λxs H Q=>∃m st ds d st',Rel K m st H/\IsDs K m H ds xs/\g st ds=Y (d,st')/\Post K m H d st' Q
def rU1(K:Qqq)(g:Y3->D->Y2 (D×Y3)):V->Hp->VK->Prop:=λx H Q=>∃m st a d st',Rel K m st H/\IsD K m H a x/\g st a=Y (d,st')/\Post K m H d st' Q
def Post.of{K:Qqq}(q:Post K m H d s Q)(e:Y (d',a)=Y (d,s)):Post K m H d' a Q:=by cases e; exact q
def PostB.of{K:Qqq}(q:PostB K m H d s Q)(e:Y (d',a)=Y (d,s)):PostB K m H d' a Q:=by cases e; exact q
def PostL.of{K:Qqq}(q:PostL K m H d s Q)(e:Y (d',a)=Y (d,s)):PostL K m H d' a Q:=by cases e; exact q
def rsI{α:Type}{K:Qqq}{f:Sl->Y3->Y2 (α×Y3)}{W:L Y7->α->Y3->Prop}{st:Y3}{d:α}(R:Rel K m st H)(S:SlotOk K m H τ a)(e:f τ st=Y (d,st'))(w:W m d st'):∃m st τ d st',Rel K m st H/\SlotOk K m H τ a/\f τ st=Y (d,st')/\W m d st':=⟨m,st,τ,d,st',R,S,e,w⟩
def tD.el{K:Qqq}{P:Prop}(h:tD K f g H Q)(k:∀m st τ d st',Rel K m st H->SlotOk K m H τ g->f τ st=Y (d,st')->Post K m H d st' Q->P):P:=by
 rcases h with⟨m,st,τ,d,st',a,b,c,e⟩
 exact k m st τ d st' a b c e
def tTs.el{K:Qqq}{P:Prop}(h:tTs K f a H Q)(k:∀m st τ d st',Rel K m st H->SlotOk K m H τ a->f τ st=Y (d,st')->PostB K m H d st' Q->P):P:=by
 rcases h with⟨m,st,τ,d,st',p0,p1,p2,b⟩
 exact k m st τ d st' p0 p1 p2 b
def tL.el{K:Qqq}{P:Prop}(h:tL K f a H Q)(k:∀m st τ d st',Rel K m st H->SlotOk K m H τ a->f τ st=Y (d,st')->PostL K m H d st' Q->P):P:=by
 rcases h with⟨m,st,τ,d,st',p0,p1,p2,b⟩
 exact k m st τ d st' p0 p1 p2 b
def rD.el{K:Qqq}{P:Prop}(h:rD K f x y H Q)(k:∀m st a b d st',Rel K m st H->IsD K m H a x->IsD K m H b y->f st a b=Y (d,st')->Post K m H d st' Q->P):P:=by
 rcases h with⟨m,st,a,b,d,st',p0,p1,p2,e,c⟩
 exact k m st a b d st' p0 p1 p2 e c
def rC.el{K:Qqq}{P:Prop}(h:rC K f xs H Q)(k:∀m st ds d st',Rel K m st H->IsDs K m H ds xs->f st ds=Y (d,st')->Post K m H d st' Q->P):P:=by
 rcases h with⟨m,st,ds,d,st',p0,p1,p2,a⟩
 exact k m st ds d st' p0 p1 p2 a
def rU1.el{K:Qqq}{P:Prop}(h:rU1 K f x H Q)(k:∀m st a d st',Rel K m st H->IsD K m H a x->f st a=Y (d,st')->Post K m H d st' Q->P):P:=by
 rcases h with⟨m,st,a,d,st',p0,p1,p2,b⟩
 exact k m st a d st' p0 p1 p2 b
def _root_.L2.PE.imp(h:PE X e t)(f:∀σ H Q,t' σ H Q->t σ H Q):PE X e t':=λpins s σ H Q I q=>h pins s σ H Q I (f σ H Q q)
def _root_.L2.PT.imp(h:PT X e t)(f:∀σ H Q,t' σ H Q->t σ H Q):PT X e t':=λpins s σ H Q I q=>h pins s σ H Q I (f σ H Q q)
def _root_.L2.PW.imp(h:PW X e t)(f:∀σ H Q,t' σ H Q->t σ H Q):PW X e t':=λw pins s σ H Q I q=>h w pins s σ H Q I (f σ H Q q)
def _root_.L2.PA.imp(h:PA X e t)(f:∀σ H Q,t' σ H Q->t σ H Q):PA X e t':=λp pins s σ H Q I q=>h p pins s σ H Q I (f σ H Q q)
def _root_.L2.PS.imp(h:PS X e t)(f:∀σ H Q,t' σ H Q->t σ H Q):PS X e t':=λpins s σ H Q I q=>h pins s σ H Q I (f Q σ H q)
def _root_.L2.PSs.imp(h:PSs X e t)(f:∀D σ H,t' D σ H->t D σ H):PSs X e t':=λpins s σ H D I q=>h pins s σ H D I (f D σ H q)
def qzk{α:Type}{g:D×Y3->Y2 α}{r:α}{P:Prop}(e:f.bind g=Y r)(k:∀d st,f=Y (d,st)->g (d,st)=Y r->P):P:=by
 cases f with
 |none=>exact nn e
 |some p=>exact k p.1 p.2 rfl e
def qzh{α a:Type}{f:Y2 α}{g:α->a}{r:a}{P:Prop}(e:f.map g=Y r)(k:∀d,f=Y d->g d=r->P):P:=by
 cases f with
 |none=>exact nn e
 |some p=>exact k p rfl (Option.some.inj e)
def qzj{α a:Type}{f:Y2 α}{g:α->Y2 a}{r:a}{P:Prop}(e:f.bind g=Y r)(k:∀d,f=Y d->g d=Y r->P):P:=by
 cases f with
 |none=>exact nn e
 |some p=>exact k p rfl e
def orO{α:Type}{a b:Y2 α}{r:α}(h:a.or b=Y r):a=Y r\/b=Y r:=by
 cases a with
 |none=>exact .inr h
 |some x=>exact .inl h
def mapD{α a:Type}{f:Y2 α}{g:α->a}{r:a}(e:f.map g=Y r):∃d,f=Y d/\g d=r:=by
 cases f with
 |none=>exact nn e
 |some p=>exact⟨p,rfl,Option.some.inj e⟩
section
variable {K:Qqq}
def qca(h:tD K (λτ st=>(i τ st).bind λp=>(f τ p.2).bind λq=>g q.2 p.1 q.1) a H Q):tOp (rD K g) (tD K i) (tD K f) a H Q:=by
 exact h.el λm st τ d st' w j e q=>qzk e λu z s e=>qzk e λt k r e=>rsI w j s λx m1 H1 b1 c v o=>rsI v (j.mono b1 c) r λy l H2 b2 b R2 n=>
  ⟨l,k,u,t,d,st',R2,qza b2 b _ _ o,n,e,q.mono (b1.trans b2) (c.trans b)⟩
def tD_un(h:tD K (λτ st=>(b τ st).bind λp=>g p.2 p.1) a H Q):tUn (rU1 K g) (tD K b) a H Q:=by
 exact h.el λm st τ d st' o l e q=>qzk e λk f j e=>rsI o l j λx m1 H1 b1 c n i=>⟨m1,f,k,d,st',n,i,e,q.mono b1 c⟩
def qlw(h:tL K (λτ st=>(g τ st).bind λp=>(f τ p.2).bind λq=>Y (p.1::q.1,q.2)) a H Q):tCons (tD K g) (tL K f) a H Q:=by
 refine h.el λm st τ d st' s i e q=>qzk e λu t o e=>qzj e λp n e=>?_;have q:=q.of e;exact rsI s i o λx m1 H1 b1 c r l=>rsI r (i.mono b1 c) n λxs j H2 b2 b R2 k=>
  q _ j H2 (b1.trans b2) (c.trans b) R2 (qzm (qza b2 b _ _ l) k)
def tL_nil(h:tL K (λ_ st=>Y ([],st)) a H Q):tNil a H Q:=by
 refine h.el λm st τ d st' b c e q=>?_;have q:=q.of e;exact q [] m H ?H (Tr.refl H) b qz8
def qqn(h:tD K (λτ st=>(b τ st).bind λp=>g p.2 p.1) a H Q):tCB (rC K g) (tL K b) a H Q:=by
 exact h.el λm st τ d st' l j e q=>qzj e λp i e=>rsI l j i λxs m1 H1 b1 c k f=>⟨m1,p.2,p.1,d,st',k,f,e,q.mono b1 c⟩
end
end MS
end
section
namespace MS
open PySem PySem.Spec PyProof.Rows L2
open M (D Yb Y3 Sl)
section
variable {X:Cx}
def qqa:(sizeLine:Y0)=M.lim:=Q2
def qdy:OpR X (Q4 .FloorDiv) (rI (λ_ j=>0<j/\j<2 ^ 64) λi j=>.int (i / j)):=opI λi j _ _ _ _ _ hc q=>by
 refine floordiv_int (by omega) (by rw[Int.fdiv_eq_ediv_of_nonneg i (by omega)]; exact q) (.inl (PyProof.noPylong_of_log2 ?_));have b:j.natAbs<2 ^ 64:=by omega
 have a:j.natAbs≠0:=by omega
 have c:=(Nat.log2_lt a).mpr b;omega
theorem _root_.MS.IsDs.rep{K:Qqq}(h:IsDs K m H ds xs):∀k:Y0,IsDs K m H (List.replicate k ds).flatten (List.replicate k xs).flatten
 |0=>by simp only[List.replicate_zero]; exact qz8
 |k+1=>by
  rw[Qz0,Qz0,Qxw,Qxw];exact h.append (IsDs.rep h k)
def qmi(I:Inv X a m H s)(y:SqL X.K H l xs)(i:SqL X.K H b ys)(E:xs.length+ys.length<=sizeLine)(q:∀p,H p=B->Q (.ref p) (upd H p (.lst (xs++ys)))):
  wpAny ?d X.A (Q4 .Add (.ref l) (.ref b)) (EP X a m Q) X.xe s:=by
 obtain⟨vs,r,pl,_⟩:=I.list y;obtain⟨ws,o,h,_⟩:=I.list i;have D:=r.length;have C:=o.length;obtain⟨⟨cls,A,v,sl⟩,n,t,hc,z,hd⟩:=pl;obtain⟨⟨w,j,k,g⟩,x,c,f,u,d⟩:=h;simp only at hc hd f d;subst hc hd f d;have e:vs.toArray++ws.toArray=(vs++ws).toArray:=by simp
 refine concat_meets ⟨_,t,rfl⟩ ⟨_,c,rfl⟩ noFill_list_add seq_list_add PySem.F.slot_list_add PySem.F.entry_list_add (PySem.F.args_list_add_2 _ _) (list_addW l b vs.toArray ws.toArray n x A j sl g (by simp; omega)) ⟨t,c,?_⟩;rw[e];exact⟨.ref _,_,I.lnew (r.append o) (by rw[Qqn]; omega),rfl,q _ I.fresh⟩
def qml(G):OpR X (Q4 G) (rD X.K λst a b=>M.binop st G a b):=by
 intro pins s σ H x y v u Q I i g h;refine h.el λm st a b d st' c l j e q=>?_;have e:=e;unfold M.binop at e
 split at e
 ·have q:=q.of e;exact op_add pins s σ H x y v u Q I i g ⟨_,_,l.int,j.int,q.here c (mkInt _)⟩
 ·rename_i U bs
  split at e
  ·exact nn e
  ·rename_i hc;have q:=q.of e;rw[Qxd,decide_eq_true_eq,not_or,List.isEmpty_iff]at hc;obtain⟨D,xs,rfl,t,f⟩:=l.tup;obtain⟨F,ys,rfl,A,w⟩:=j.tup;have E:=f.length;have N:=w.length;have K:=qqa;refine qmh pins s σ H _ _ v u Q I i g ⟨D,F,xs,ys,rfl,rfl,t,A,?_,by omega,λz=>?_,λz p C=>?_⟩
   ·intro z;subst z;exact hc.1 (Qz7.mp E)
   ·have n:=f.append w;rw[z,Qzj]at n;exact q.here c (qq2 t n)
   ·have r:=qzc (o:=.tup (xs++ys)) C;exact q _ m _ ?H (Tr.of_same r) (c.same r) (qq2 (SqT.of qzy) (qzf ?H (Tr.of_same r) _ _ (f.append w)))
 ·rename_i la V _ _;refine qzj e λT R e=>qzj e λS P e=>?_
  split at e
  ·exact nn e
  ·rename_i hc;have q:=q.of e;obtain⟨D,xs,_,rfl,t,f⟩:=c.seq R l;obtain⟨F,ys,_,rfl,A,w⟩:=c.seq P j;have E:=f.length;have N:=w.length;have K:=qqa;cases i;cases g;refine qmi I t A (by omega) λp C=>?_;exact q _ (m++[p]) _ (Sub.app m [p]) (Tr.of_same (qzc C)) (c.new C (f.append w)) c.newLoc
 ·have q:=q.of e;exact op_sub pins s σ H x y v u Q I i g ⟨_,_,l.int,j.int,q.here c (mkInt _)⟩
 ·split at e
  ·rename_i hc;have q:=q.of e;refine op_mul pins s σ H x y v u Q I i g ⟨_,_,l.int,j.int,?_,q.here c (mkInt _)⟩;unfold M.mulOk at hc;simp only[Qxd,Qqs,decide_eq_true_eq]at hc;exact hc
  ·exact nn e
 ·rename_i U k _
  split at e
  ·exact nn e
  ·rename_i hc;have q:=q.of e;simp only[Qxd,decide_eq_true_eq]at hc;obtain⟨D,xs,rfl,t,f⟩:=l.tup;have E:=f.length;have K:=qqa;refine qmf pins s σ H _ _ v u Q I i g ⟨D,k,xs,rfl,j.int,t,by omega,by omega,by rw[<- E]; omega,λys A=>⟨λz=>?_,λp C=>?_⟩⟩
   ·have n:=f.rep k.toNat
    rw[<- A,z]at n;exact q.here c (qq2 t n)
   ·have r:=qzc (o:=.tup ys) C;have n:=f.rep k.toNat
    rw[<- A]at n;exact q _ m _ ?H (Tr.of_same r) (c.same r) (qq2 (SqT.of qzy) (qzf ?H (Tr.of_same r) _ _ n))
 ·split at e
  ·rename_i hc;have q:=q.of e;exact qdy pins s σ H x y v u Q I i g ⟨_,_,l.int,j.int,hc,q.here c (mkInt _)⟩
  ·exact nn e
 ·split at e
  ·rename_i hc;have q:=q.of e;exact op_mod pins s σ H x y v u Q I i g ⟨_,_,l.int,j.int,hc,q.here c (mkInt _)⟩
  ·exact nn e
 ·split at e
  ·rename_i hc;have q:=q.of e;exact op_pow pins s σ H x y v u Q I i g ⟨_,_,l.int,j.int,⟨hc.1,by omega,hc.2.2⟩,q.here c (mkInt _)⟩
  ·exact nn e
 ·exact nn e
def qz9(I:Inv X c e H s)(h:IsD X.K m H (.tup ds) v):∃a xs b,v=.ref a/\SqT X.K H a xs/\IsDs X.K m H ds xs/\Vals xs b/\IsTup s.heap a b.toArray:=by
 obtain⟨a,xs,rfl,d,f⟩:=h.tup;obtain⟨b,r,p,_⟩:=I.tuple d;exact⟨a,xs,b,rfl,d,f,r,p⟩
section
variable {H:Hp}{s:Qz}{m:L Y7}
theorem qyc:∀{ds es}{xs},ds.all M.isI=O->es.all M.isI=O->IsDs X.K m H ds xs->IsDs X.K m H es xs->ds=es
 |[],es,xs,_,_,h,h'=>by
  rw[h.nil]at h';exact(Qz7.mp h'.length).symm
 |d::ds,es,xs,f,g,h,h'=>by
  obtain⟨x,r,rfl,q,t⟩:=h.cons
  cases es with
  |nil=>cases h'.nil
  |cons e es=>
   obtain⟨j,r',z,c,i⟩:=h'.cons;cases z;rw[Qz5,Qqs]at f g;rw[qyc f.2 g.2 t i]
   cases d with
   |int a=>
    cases e with
    |int b=>cases q.int; cases c.int; rfl
    |str b=>cases q.int; cases c.str
    |_=>cases g.1
   |str a=>
    cases e with
    |int b=>cases q.str; cases c.int
    |str b=>cases q.str; cases c.str; rfl
    |_=>cases g.1
   |_=>cases f.1
def qnv(I:Inv X pins σ H s)(f:M.flat n d=O)(c:M.flat n e=O)(h:IsD X.K m H d v)(h':IsD X.K m H e v):d=e:=by
 cases d with
 |int b=>
  rw[h.int]at h'
  cases e with
  |tup ds=>obtain⟨a,xs,z,_⟩:=h'.tup; cases z
  |int b=>cases h'.int; rfl
  |str b=>cases h'.str
  |_=>cases c
 |str b=>
  rw[h.str]at h'
  cases e with
  |tup ds=>obtain⟨a,xs,z,_⟩:=h'.tup; cases z
  |int b=>cases h'.int
  |str b=>cases h'.str; rfl
  |_=>cases c
 |tup ds=>
  obtain⟨a,xs,rfl,k,i⟩:=h.tup
  cases e with
  |tup es=>
   obtain⟨b,ys,z,j,g⟩:=h'.tup;cases z;cases I.tuple_inj k j;rw[qyc f c i g]
  |int b=>cases h'.int
  |str b=>cases h'.str
  |_=>cases c
 |_=>cases f
theorem eqTs_refl:∀{ds},ds.all M.isI=O->M.eqTs ds ds=O
 |[],_=>rfl
 |d::ds,f=>by
  rw[Qz5,Qqs]at f;unfold M.eqTs;rw[eqTs_refl f.2,Qxm]
  cases d with
  |int a=>exact beq_self_eq_true a
  |str a=>exact beq_self_eq_true a
  |_=>cases f.1
noncomputable def pairE(ds es:L D)(j:Y0):Bool:=match ds[j]?,es[j]? with
 |some d,Y e=>M.eqT d e
 |_,_=>O
theorem qj2:∀(ds es:L D),M.eqTs ds es=((List.range (min ds.length es.length)).all (pairE ds es)&&ds.length==es.length)
 |[],[]=>rfl
 |[],e::es=>by simp[M.eqTs]
 |d::ds,[]=>by simp[M.eqTs]
 |d::ds,e::es=>by
  simp only[M.eqTs];rw[qj2 ds es,Qqg,Qqg,Nat.add_min_add_right,List.range_succ_eq_map,Qz5,List.all_map,Bool.and_assoc]
  congr 1
  congr 1
  rw[Qkx,beq_iff_eq,beq_iff_eq];omega
def at_of(f:ds.all M.isI=O)(b:IsDs X.K m H ds xs)(r:Vals xs a)(h:j<a.toArray.size):∃d x,ds[j]?=Y d/\M.isI d=O/\IsD X.K m H d x/\RelV x a.toArray[j]:=by
 have e:=b.length;have c:=r.length;rw[Qqa]at h;obtain⟨d,g⟩:∃d,ds[j]?=Y d:=⟨_,Qqh (by omega)⟩
 obtain⟨x,k,q⟩:=b.get g;obtain⟨u,w,z⟩:=r.get k;refine⟨d,x,g,Qzx.mp f _ (Qqe g),q,?_⟩;rw[Qjh,(Qqk.mp w).2];exact z
def eqAt_I(f:M.isI d=O)(k:M.isI e=O)(j:IsD X.K m H d x)(h:IsD X.K m H e y)(i:RelV x u)(g:RelV y v):SeqAt.EqAt A s u v (M.eqT d e):=by
 cases d with
 |int a=>
  cases j.int; obtain⟨c,rfl⟩:=i
  cases e with
  |int b=>cases h.int; obtain⟨t,rfl⟩:=g; exact SeqAt.EqAt.int_int a c b t
  |str b=>cases h.str; obtain⟨t,rfl⟩:=g; exact SeqAt.EqAt.int_str a c b t
  |_=>cases k
 |str a=>
  cases j.str; obtain⟨c,rfl⟩:=i
  cases e with
  |int b=>cases h.int; obtain⟨t,rfl⟩:=g; exact SeqAt.EqAt.str_int a c b t
  |str b=>cases h.str; obtain⟨t,rfl⟩:=g; exact SeqAt.EqAt.str_str a c b t
  |_=>cases k
 |_=>cases f
def qeh(f:ds.all M.isI=O)(c:es.all M.isI=O)(o:IsDs X.K m H ds xs)(n:IsDs X.K m H es ys)(l:Vals xs b)(k:Vals ys a)(j)(r:j<b.toArray.size)(q:j<a.toArray.size):SeqAt.EqAt A s b.toArray[j] a.toArray[j] (pairE ds es j):=by
 obtain⟨d,x,g,fd,i,w⟩:=at_of f o l r;obtain⟨e,y,t,c,p,h⟩:=at_of c n k q;unfold pairE;rw[g,t];exact eqAt_I fd c i p w h
def eqAt_L(j:A.units<cLine)(f:ds.all M.isI=O)(p:es.all M.isI=O)(o:IsDs X.K m H ds xs)(n:IsDs X.K m H es ys)(l:Vals xs c)(k:Vals ys d)(i:s.heap.IsList a c.toArray)(g:s.heap.IsList b d.toArray):SeqAt.RcAt A s (.ref a) (.ref b) (M.eqTs ds es)/\SeqAt.RcNeAt A s (.ref a) (.ref b) (!M.eqTs ds es):=by
 have u:=o.length;have t:=n.length;have r:=l.length;have q:=k.length;rw[qj2]
 by_cases h:ds.length=es.length
 ·have z:c.toArray.size=d.toArray.size:=by rw[Qqa,Qqa]; omega
  have e:(List.range (min ds.length es.length)).all (pairE ds es)=(List.range c.toArray.size).all (pairE ds es):=by rw[Qqa,show min ds.length es.length=c.length by omega]
  rw[beq_iff_eq.mpr h,Qxm,e];exact⟨SeqAt.RcAt.lists i g z j (qeh f p o n l k),SeqAt.RcNeAt.lists i g z j (qeh f p o n l k)⟩
 ·have z:(c.toArray.size != d.toArray.size)=true:=by rw[Qqa,Qqa,bne_iff_ne]; omega
  rw[beq_eq_false_iff_ne.mpr h,Qka];exact⟨SeqAt.RcAt.lists_lengths i g z j,SeqAt.RcNeAt.lists_lengths i g z j⟩
def qil(I:Inv X pins σ H s)(n)(A)(d e)(x y)(u v)(K:A.units+n<cLine)(f:M.flat n d=O)(p:M.flat n e=O)(z:IsD X.K m H d x)(i:IsD X.K m H e y)(r:RelV x u)(h:RelV y v):SeqAt.EqAt A s u v (M.eqT d e)/\SeqAt.RcAt A s u v (M.eqT d e):=by
 have c:A.units<cLine:=by omega
 cases d with
 |int a=>
  cases z.int; obtain⟨g,rfl⟩:=r
  cases e with
  |tup es=>obtain⟨b,ys,j,rfl,k,l,q,p2⟩:=qz9 I i; cases h; exact⟨SeqAt.EqAt.int_tuple a g p2 c,SeqAt.RcAt.int_tuple a g p2 c⟩
  |int b=>cases i.int; obtain⟨t,rfl⟩:=h; exact⟨SeqAt.EqAt.int_int a g b t,SeqAt.RcAt.int_int a g b t⟩
  |str b=>cases i.str; obtain⟨t,rfl⟩:=h; exact⟨SeqAt.EqAt.int_str a g b t,SeqAt.RcAt.int_str a g b t⟩
  |_=>cases p
 |str a=>
  cases z.str; obtain⟨g,rfl⟩:=r
  cases e with
  |tup es=>obtain⟨b,ys,j,rfl,k,l,q,p2⟩:=qz9 I i; cases h; exact⟨SeqAt.EqAt.str_tuple a g p2 c,SeqAt.RcAt.str_tuple a g p2 c⟩
  |int b=>cases i.int; obtain⟨t,rfl⟩:=h; exact⟨SeqAt.EqAt.str_int a g b t,SeqAt.RcAt.str_int a g b t⟩
  |str b=>cases i.str; obtain⟨t,rfl⟩:=h; exact⟨SeqAt.EqAt.str_str a g b t,SeqAt.RcAt.str_str a g b t⟩
  |_=>cases p
 |tup ds=>
  obtain⟨a,xs,F,rfl,G,w,E,p1⟩:=qz9 I z;cases r
  cases e with
  |int b=>cases i.int; obtain⟨t,rfl⟩:=h; exact⟨SeqAt.EqAt.tuple_int b t p1 c,SeqAt.RcAt.tuple_int b t p1 c⟩
  |str b=>cases i.str; obtain⟨t,rfl⟩:=h; exact⟨SeqAt.EqAt.tuple_str b t p1 c,SeqAt.RcAt.tuple_str b t p1 c⟩
  |tup es=>
   obtain⟨b,ys,j,rfl,k,l,q,p2⟩:=qz9 I i;cases h;have C:SeqAt.RcAt A s (.ref a) (.ref b) (M.eqTs ds es):=by
    have:=SeqAt.RcAt.tuples p1 p2 c (qeh f p w l E q);rw[qj2,w.length,l.length,E.length,q.length];simpa using this
   refine⟨?_,C⟩
   by_cases o:a=b
   ·subst o;cases I.tuple_inj G k;cases qyc f p w l;show SeqAt.EqAt A s _ _ (M.eqTs ds ds);rw[eqTs_refl f];exact SeqAt.EqAt.same _
   ·exact SeqAt.EqAt.of_refs o C
  |_=>cases p
 |_=>cases f
end
end
end MS
end
section
namespace MS
open PySem PySem.Spec PyProof.Rows L2
section
end
end MS
end
section
namespace MS
open PySem PySem.Spec PyProof.Rows L2
open M (D Yb Y3 Sl)
section
variable {X:Cx}
section
def qfd(I:Inv X pins σ H s)(A)(F:A.units+9<cLine)(K:M.flat 9 d0=O)(G:IsD X.K m H d0 g)(v:RelV g c):
  ∃e:Y8->Ya,∀(ds:L D) (xs:L V) (a:L Y8),M.flats 9 ds=O->IsDs X.K m H ds xs->Vals xs a->(∀w∈a,SeqAt.EqAt A s w c (e w))/\a.any e=ds.any λy=>M.eqT y d0:=by
 classical
 refine⟨λw=>decide (∃d x,M.flat 9 d=O/\IsD X.K m H d x/\RelV x w/\M.eqT d d0=O),λds=>?_⟩;have b:∀d x w,M.flat 9 d=O->IsD X.K m H d x->RelV x w->decide (∃d x,M.flat 9 d=O/\IsD X.K m H d x/\RelV x w/\M.eqT d d0=O)=M.eqT d d0:=by
  intro d x w f i r
  cases q:M.eqT d d0 with
  |true=>exact Z5 ⟨d,x,f,i,r,q⟩
  |false=>
   refine Z6 ?_;rintro⟨U,T,N,E,r',l⟩;have Q:=r.inj r';subst Q;have P:=qnv I f N i E;subst P;rw[q]at l;cases l
 induction ds with
 |nil=>
  intro xs a _ j r;rw[j.nil]at r;cases r;exact⟨λw k=>(by cases k),rfl⟩
 |cons d ds C=>
  intro xs a f j r;obtain⟨x,n,rfl,q,t⟩:=j.cons;simp only[ Qz5,Qqs]at f
  cases r with
  |@cons _ u _ o h p=>
   obtain⟨S,R⟩:=C n o f.2 t p;refine⟨λw k=>?_,?_⟩
   ·rcases Qqy.mp k with z|z
    ·subst z;show SeqAt.EqAt A s w c (decide _);rw[b d x w f.1 q h];exact(qil I 9 A d d0 x g w c F f.1 K q G h v).1
    ·exact S w z
   ·rw[Qxf,Qxf,R]
    congr 1
    exact b d x u f.1 q h
end
def qiz(n)(K:X.A.units+64<cLine):OpR X (Qg (cond n .NotIn .In)) (rD X.K λst a b=>(M.inD st a b).map λk=>(.bl (cond n (!k) k),st)):=by
 intro pins s σ H x y v u Q I A z h;refine h.el λm st a b d st' F D C e q=>qzh e λk f t=>?_;cases t;have i:X.A.in1.units+9<cLine:=by have G:X.A.in1.units=X.A.units+1:=rfl; lia
 have q:=q.here F (mkBl _)
 cases b with
 |tup ds=>
  simp only[M.inD]at f
  split at f
  ·rename_i hf;cases f;rw[Qqs]at hf;obtain⟨p,xs,c,rfl,E,j,r,pl⟩:=qz9 I C;cases z;obtain⟨ef,o⟩:=qfd I X.A.in1 i hf.1 D A;obtain⟨h1,h2⟩:=o ds xs c hf.2 j r;have e:c.toArray.any ef=c.any ef:=by simp
   rw[<- h2,<- e]at q;cases n
   ·exact SeqAt.in_tupleAt ef pl (λw g=>h1 w (by simpa using g)) ⟨.bl _,H,I,rfl,q⟩
   ·exact SeqAt.notIn_tupleAt ef pl (λw g=>h1 w (by simpa using g)) ⟨.bl _,H,I,rfl,q⟩
  ·exact nn f
 |loc l|lst l=>
  simp only[M.inD]at f;refine qzj f λds t f=>?_
  split at f
  ·rename_i hf;cases f;rw[Qqs]at hf;obtain⟨p,xs,_,rfl,E,j⟩:=F.seq t C;cases z;obtain⟨c,r,pl,_⟩:=I.list E;obtain⟨ef,o⟩:=qfd I X.A.in1 i hf.1 D A;obtain⟨h1,h2⟩:=o ds xs c hf.2 j r;have e:c.toArray.any ef=c.any ef:=by simp
   rw[<- h2,<- e]at q;cases n
   ·exact SeqAt.in_listAt ef pl.isList (λw g=>h1 w (by simpa using g)) ⟨.bl _,H,I,rfl,q⟩
   ·exact SeqAt.notIn_listAt ef pl.isList (λw g=>h1 w (by simpa using g)) ⟨.bl _,H,I,rfl,q⟩
  ·exact nn f
 |_=>simp[M.inD,M.seqAt]at f
def qeg{st:Y3}(I:Inv X c h H s)(g:Rel X.K m st H)(z:X.A.units<cLine)(w:IsD X.K m H a x)(t:IsD X.K m H b y)(j:RelV x u)(i:RelV y v)(e:M.eqL st a b=Y k):SeqAt.RcAt X.A s u v k/\SeqAt.RcNeAt X.A s u v (!k):=by
 unfold M.eqL at e;refine qzj e λds E e=>qzj e λes C e=>?_
 split at e
 ·rename_i hf;cases e;rw[Qqs]at hf;obtain⟨p,xs,_,rfl,A,o⟩:=g.seq E w;obtain⟨F,ys,_,rfl,f,n⟩:=g.seq C t;cases j; cases i;obtain⟨q,r,pl,_⟩:=I.list A;obtain⟨l,r',d,_⟩:=I.list f;exact eqAt_L z hf.1 hf.2 o n r r' pl.isList d.isList
 ·exact nn e
def op_eqD(z:X.A.units+64<cLine):OpR X (Qg .Eq) (rD X.K λst a b=>(M.eqD st a b).map λk=>(.bl k,st)):=by
 intro pins s σ H x y v u Q I f l h;refine h.el λm st a b d st' j g n e q=>qzh e λk c p=>?_;cases p;unfold M.eqD at c
 split at c
 ·exact(qeg I j (by lia) g n f l c).1 _ _ _ _ ⟨.bl _,H,I,rfl,q.here j (mkBl _)⟩
 ·exact(qeg I j (by lia) g n f l c).1 _ _ _ _ ⟨.bl _,H,I,rfl,q.here j (mkBl _)⟩
 ·cases c; cases g.bl; cases n.bl; cases f; cases l; exact SeqAt.RcAt.bool_bool _ _ _ _ _ _ ⟨.bl _,H,I,rfl,q.here j (mkBl _)⟩
 ·cases c; cases g.non; cases n.non; cases f; cases l; exact SeqAt.RcAt.none_none _ _ _ _ ⟨.bl _,H,I,rfl,q.here j (mkBl _)⟩
 ·split at c
  ·rename_i hf;cases c;rw[Qqs]at hf;have K:=q.here j (mkBl _)
   cases hb:M.flat 9 b with
   |true=>exact(qil I 9 X.A a b x y v u (by lia) hf.1 hb g n f l).2 _ _ _ _ ⟨.bl _,H,I,rfl,K⟩
   |false=>
    rw[hb]at hf
    cases b with
    |non=>
     cases n.non; cases l
     cases a with
     |int i=>cases g.int; obtain⟨t,rfl⟩:=f; exact SeqAt.RcAt.int_none i t _ _ _ _ ⟨.bl _,H,I,rfl,K⟩
     |str i=>cases g.str; obtain⟨t,rfl⟩:=f; exact SeqAt.RcAt.str_none i t _ _ _ _ ⟨.bl _,H,I,rfl,K⟩
     |tup ds=>
      obtain⟨a,xs,o,rfl,A,w,r,p1⟩:=qz9 I g;cases f;exact SeqAt.RcAt.tuple_none p1 (by lia) _ _ _ _ ⟨.bl _,H,I,rfl,K⟩
     |_=>cases hf.1
    |_=>cases hf.2
  ·exact nn c
def op_neD(r:X.A.units+64<cLine):OpR X (Qg .NotEq) (rD X.K λst a b=>(M.neD st a b).map λk=>(.bl k,st)):=by
 intro pins s σ H x y v u Q I j i h;refine h.el λm st a b d st' f n l e q=>qzh e λk c o=>?_;cases o;unfold M.neD at c
 split at c
 ·cases c;cases n.int; cases l.int;obtain⟨t,rfl⟩:=j;obtain⟨g,rfl⟩:=i;exact SeqAt.RcNeAt.int_int _ t _ g _ _ _ _ ⟨.bl _,H,I,rfl,q.here f (mkBl _)⟩
 ·cases c;cases n.str; cases l.str;obtain⟨t,rfl⟩:=j;obtain⟨g,rfl⟩:=i;exact SeqAt.RcNeAt.str_str _ t _ g _ _ _ _ ⟨.bl _,H,I,rfl,q.here f (mkBl _)⟩
 ·obtain⟨p,o,rfl⟩:=mapD c;exact(qeg I f (by lia) n l j i o).2 _ _ _ _ ⟨.bl _,H,I,rfl,q.here f (mkBl _)⟩
def qag{K:Qqq}(h:IsD K m H d x):decide (x=.non)=M.isNon d:=by
 cases d with
 |non=>rw[h.non]; rfl
 |bl b=>rw[h.bl]; rfl
 |int b=>rw[h.int]; rfl
 |str b=>rw[h.str]; rfl
 |tup ds=>obtain⟨a,xs,rfl,_⟩:=h.tup; rfl
 |loc l=>obtain⟨a,_,rfl⟩:=h.loc; rfl
 |lst l=>obtain⟨a,xs,rfl,_⟩:=h.lst; rfl
def qxc(n:X.A.units+64<cLine)(p):OpR X (Qg p) (rD X.K λst a b=>(M.cmpD st p a b).map λk=>(.bl k,st)):=by
 intro pins s σ H x y v u Q I g f h;obtain⟨m,st,a,b,d,st',l,j,i,e,q⟩:=h;refine qzh e λk c o=>?_;cases o;unfold M.cmpD at c
 split at c
 ·cases c;exact op_lt pins s σ H x y v u Q I g f ⟨_,_,j.int,i.int,q.here l (mkBl _)⟩
 ·cases c;exact op_le pins s σ H x y v u Q I g f ⟨_,_,j.int,i.int,q.here l (mkBl _)⟩
 ·cases c;exact op_gt pins s σ H x y v u Q I g f ⟨_,_,j.int,i.int,q.here l (mkBl _)⟩
 ·cases c;exact op_ge pins s σ H x y v u Q I g f ⟨_,_,j.int,i.int,q.here l (mkBl _)⟩
 ·exact op_eqD n pins s σ H x y v u Q I g f ⟨m,st,a,b,_,_,l,j,i,by dsimp only; rw[c]; rfl,q⟩
 ·exact op_neD n pins s σ H x y v u Q I g f ⟨m,st,a,b,_,_,l,j,i,by dsimp only; rw[c]; rfl,q⟩
 ·cases c;refine op_isN pins s σ H x y v u Q I g f ⟨i.non,?_⟩;rw[qag j];exact q.here l (mkBl _)
 ·cases c;refine qmg pins s σ H x y v u Q I g f ⟨i.non,?_⟩;rw[qag j];exact q.here l (mkBl _)
 ·exact qiz Y5 n pins s σ H x y v u Q I g f ⟨m,st,a,b,_,_,l,j,i,by dsimp only; rw[c]; rfl,q⟩
 ·obtain⟨k,o,rfl⟩:=mapD c;exact qiz O n pins s σ H x y v u Q I g f ⟨m,st,a,b,_,_,l,j,i,by dsimp only; rw[o]; rfl,q⟩
 ·exact nn c
def qi9{K:Qqq}{st:Y3}(j:Rel K m st H)(h:IsD K m H d x)(e:M.truth st d=Y k):TruV K x H k:=by
 cases d with
 |non=>rw[h.non]; simp only[M.truth]at e; exact(Option.some.inj e).symm
 |bl b=>rw[h.bl]; simp only[M.truth]at e; exact(Option.some.inj e).symm
 |int b=>rw[h.int]; simp only[M.truth]at e; exact(Option.some.inj e).symm
 |str b=>exact nn e
 |tup ds=>
  obtain⟨a,xs,rfl,f,c⟩:=h.tup;simp only[M.truth]at e;refine .inr (.inl ⟨xs,f,?_⟩);have:=c.length;cases e;cases ds<;>cases xs<;>simp_all
 |loc l=>
  simp only[M.truth]at e;refine qzh e λds i g=>?_;obtain⟨a,xs,_,rfl,f,c⟩:=j.seq i h;refine .inl ⟨xs,f,?_⟩;have:=c.length;subst g;cases ds<;>cases xs<;>simp_all
 |lst l=>
  simp only[M.truth]at e;refine qzh e λds i g=>?_;obtain⟨a,xs,_,rfl,f,c⟩:=j.seq i h;refine .inl ⟨xs,f,?_⟩;have:=c.length;subst g;cases ds<;>cases xs<;>simp_all
def qis{K:Qqq}(a:IsDs K m H ds xs)(e:M.atI ds i=Y d):∃x,L2.atI xs i=Y x/\IsD K m H d x:=by
 unfold M.atI at e;refine qzj e λj g f=>?_;obtain⟨x,c,q⟩:=a.get f;refine⟨x,?_,q⟩;unfold L2.atI;have b:L2.ixN xs.length i=Y j:=by rw[<- a.length]; exact g
 rw[b];exact c
def ix_D:IxR X (rD X.K λst a b=>(M.idxD st a b).map λd=>(d,st)):=by
 intro value c pins s σ H x y v u Q I t r h hs;obtain⟨m,st,a,b,d,st',o,A,z,e,q⟩:=h;refine qzh e λk f n=>?_;cases n;unfold M.idxD at f
 split at f
 ·obtain⟨p,xs,rfl,j,g⟩:=A.tup;obtain⟨w,l,i⟩:=qis g f;exact ix_tup value c pins s σ H _ _ v u Q I t r ⟨p,xs,_,w,rfl,z.int,j,l,q.here o i⟩ hs
 ·refine qzj f λds n f=>?_;obtain⟨p,xs,_,rfl,j,g⟩:=o.seq n A;obtain⟨w,l,i⟩:=qis g f;exact qnj value c pins s σ H _ _ v u Q I t r ⟨p,xs,_,w,rfl,z.int,j,l,q.here o i⟩ hs
 ·exact nn f
def qe9:qqh X (.type "int") (rC X.K M.bInt):=by
 intro pins s σ H xs a Q I r h;refine h.el λm st ds d st' c b e q=>?_;unfold M.bInt at e
 split at e
 ·rename_i i;have q:=q.of e;obtain⟨x,rfl,j⟩:=b.one;exact qwp pins s σ H _ a Q I r (.inl ⟨i,by rw[j.int],q.here c (mkInt _)⟩)
 ·rename_i k;have q:=q.of e;obtain⟨x,rfl,j⟩:=b.one;exact qwp pins s σ H _ a Q I r (.inr ⟨k,by rw[j.bl],q.here c (mkInt _)⟩)
 ·exact nn e
def rSixD(K:Qqq):V->V->V->Hp->(Hp->Prop)->Prop:=λo i v H Q=>∃m st a b c st',Rel K m st H/\IsD K m H a o/\IsD K m H b i/\IsD K m H c v/\M.sixD st a b c=Y st'/\
 ∀m' H',Sub m m'->Tr H H'->Rel K m' st' H'->Q H'
def six_D:PSet X (rSixD X.K):=by
 intro pins s σ H o i v n r u Q I ro l k h;obtain⟨m,st,a,b,c,st',g,x,w,t,e,q⟩:=h;unfold M.sixD at e
 split at e
 ·refine qzj e λds C e=>?_;obtain⟨j,A,z⟩:=mapD e;subst z;obtain⟨p,xs,y,rfl,d,f,hs⟩:=g.wlist C x;refine set_list pins s σ H _ _ _ n r u Q I ro l k ⟨p,xs,_,j,rfl,w.int,d,by rw[<- f.length]; exact A,?_⟩;exact q m _ ?H (Tr.put d) (g.put hs y d (f.set j t))
 ·exact nn e
def qbc:MtM X "list.append" (λx xs H Q=>∃m st a ds d st',Rel X.K m st H/\IsD X.K m H a x/\IsDs X.K m H ds xs/\M.mAppend st a ds=Y (d,st')/\Post X.K m H d st' Q):=by
 intro pins s σ H x xs v g Q I i j h;obtain⟨m,st,a,ds,d,st',f,n,l,e,q⟩:=h;unfold M.mAppend at e
 split at e
 ·refine qzj e λt r e=>?_
  split at e
  ·rename_i z;have q:=q.of e;obtain⟨p,ys,o,rfl,b,c,hs⟩:=f.wlist r n;obtain⟨y,rfl,k⟩:=l.one;have w:=c.length;have u:=qqa;refine qdg pins s σ H _ _ v g Q I i j ⟨p,ys,y,rfl,rfl,b,by lia,?_⟩;exact q _ m _ ?H (Tr.put b) (f.put hs o b (c.append (qzm k qz8))) qvw
  ·exact nn e
 ·exact nn e
def rSlD(K:Qqq):V->Y2 J->Y2 J->Hp->VK->Prop:=λx lo hi H Q=>∃m st a d st',Rel K m st H/\IsD K m H a x/\M.sliD st a lo hi=Y (d,st')/\Post K m H d st' Q
theorem _root_.MS.IsDs.take{K:Qqq}:∀{ds:L D}{xs:L V}(n:Y0),IsDs K m H ds xs->IsDs K m H (ds.take n) (xs.take n)
 |_,_,0,_=>by simp only[Qky]; exact qz8
 |[],_,n+1,h=>by rw[h.nil]; simp only[List.take_nil]; exact qz8
 |d::ds,_,n+1,h=>by
  obtain⟨x,r,rfl,q,t⟩:=h.cons;simp only[List.take_succ_cons];exact qzm q (IsDs.take n t)
theorem _root_.MS.IsDs.drop{K:Qqq}:∀{ds:L D}{xs:L V}(n:Y0),IsDs K m H ds xs->IsDs K m H (ds.drop n) (xs.drop n)
 |_,_,0,h=>by simp only[List.drop_zero]; exact h
 |[],_,n+1,h=>by rw[h.nil]; simp only[List.drop_nil]; exact qz8
 |d::ds,_,n+1,h=>by
  obtain⟨x,r,rfl,q,t⟩:=h.cons;simp only[List.drop_succ_cons];exact IsDs.drop n t
def qas(n d)(o):M.cutIx n d o=HT.sIx n d o:=by
 cases o<;>rfl
def qin{K:Qqq}(h:IsDs K m H ds xs)(lo hi):IsDs K m H (M.cut ds lo hi) (cutV xs lo hi):=by
 unfold M.cut cutV;rw[qas,qas,h.length];exact(h.drop _).take _
def sl_D:SlR X (rSlD X.K):=by
 intro pins s σ H x v vl y lo hi sl Q I i hs pl j h;obtain⟨m,st,a,d,st',c,z,e,q⟩:=h;unfold M.sliD at e
 split at e
 ·have q:=q.of e;obtain⟨p,xs,rfl,u,k⟩:=z.tup;have t:=qin k lo hi
  by_cases f:HT.sIx xs.length 0 lo=0/\HT.sIx xs.length xs.length hi=xs.length
  ·cases i;obtain⟨n,r,A,K⟩:=I.tuple u;refine⟨"tuple",_,PyProof.Rows.slot_tuple_getitem.lookup,A.typeIs,?_⟩;have b:n.toArray.size=xs.length:=by rw[Qqa]; exact r.length.symm
   refine qq6 A hs pl j (by rw[b]; exact f) ?_;refine⟨.ref p,H,I,rfl,q.here c (qq2 u ?_)⟩;have w:cutV xs lo hi=xs:=by
    unfold cutV;rw[f.1,f.2];simp
   rw[w]at t;exact t
  ·refine sl_tup pins s σ H _ v vl y lo hi sl Q I i hs pl j ⟨p,xs,rfl,u,f,λG E=>?_⟩;have g:=qzc (o:=.tup (cutV xs lo hi)) E;exact q _ m _ ?H (Tr.of_same g) (c.same g) (qq2 (SqT.of qzy) (qzf ?H (Tr.of_same g) _ _ t))
 ·refine qzh e λds w F=>?_;cases F;obtain⟨p,xs,_,rfl,D,k⟩:=c.seq w z;exact qlc pins s σ H _ v vl y lo hi sl Q I i hs pl j ⟨p,xs,rfl,D,λl C=>q _ (m++[l]) _ (Sub.app m [l]) (Tr.of_same (qzc C)) (c.new C (qin k lo hi)) c.newLoc⟩
def qe7:qqh X (.builtin "len") (rC X.K M.bLen):=by
 intro pins s σ H xs f Q I r h;refine h.el λm st ds d st' c g e q=>?_;unfold M.bLen at e
 split at e
 ·have q:=q.of e;obtain⟨x,rfl,i⟩:=g.one;obtain⟨p,ys,rfl,b,a⟩:=i.tup;refine qx1 pins s σ H _ f Q I r ⟨p,ys,rfl,.inr b,?_⟩;rw[<- a.length];exact q.here c (mkInt _)
 ·refine qzh e λl k j=>?_;cases j;obtain⟨x,rfl,i⟩:=g.one;obtain⟨p,ys,_,rfl,b,a⟩:=c.seq k i;refine qx1 pins s σ H _ f Q I r ⟨p,ys,rfl,.inl b,?_⟩;rw[<- a.length];exact q.here c (mkInt _)
 ·exact nn e
def qe4(hc:X.calm=O):qqh X (.builtin "min") (rC X.K M.bMin):=by
 intro pins s σ H xs a Q I r h;refine h.el λm st ds d st' c b e q=>?_;unfold M.bMin at e
 split at e
 ·have q:=q.of e;obtain⟨x,y,rfl,i,j⟩:=b.two;cases i.int; cases j.int;exact qe5 hc pins s σ H _ a Q I r ⟨_,_,rfl,q.here c (mkInt _)⟩
 ·exact nn e
def qyn:qqh X (.type "tuple") (rC X.K M.bTuple):=by
 intro pins s σ H xs g Q I r h;refine h.el λm st ds d st' f j e q=>?_;unfold M.bTuple at e
 split at e
 ·have q:=q.of e;obtain⟨x,rfl,i⟩:=j.one;obtain⟨p,ys,rfl,a,c⟩:=i.tup;exact qxa pins s σ H _ g Q I r ⟨p,ys,rfl,.inr ⟨a,q.here f (qq2 a c)⟩⟩
 ·refine qzh e λu t n=>?_;cases n;obtain⟨x,rfl,i⟩:=j.one;obtain⟨p,ys,_,rfl,a,c⟩:=f.seq t i;refine qxa pins s σ H _ g Q I r ⟨p,ys,rfl,.inl ⟨a,λl k=>?_⟩⟩;have b:=qzc (o:=.tup ys) k;exact q _ m _ ?H (Tr.of_same b) (f.same b) (qq2 (SqT.of qzy) (qzf ?H (Tr.of_same b) _ _ c))
 ·exact nn e
theorem qjp:∀{xs}{vs}{b},KV xs vs->b.length=vs.length->(∀(j:Y0) (v:Y8),b[j]?=Y v->∃k x,vs[j]?=Y (k,x)/\(mixKind P w).is k v=O)->Vals (xs.map λp=>kV p.1) b
 |[],_,b,.nil,a,_=>by
  rw[Qz7.mp a];exact .nil
 |(k,x)::xs,(l,u)::vs,[],.cons _ _,a,_=>by cases a
 |(k,x)::xs,(l,u)::vs,v::b,.cons h r,a,hv=>by
  obtain⟨q,o,e,hk⟩:=hv 0 v rfl;cases e;have c:=h.1;subst c;refine .cons ?_ (qjp (P:=P) (w:=w) r (by simpa using a) λj f e=>?_)
  ·rcases qzi hk with⟨i,t,rfl,rfl⟩|⟨z,t,rfl,rfl⟩
   ·exact⟨t,rfl⟩
   ·exact⟨t,rfl⟩
  ·obtain⟨g,d,n,m⟩:=hv (j+1) f (by simpa using e);exact⟨g,d,by simpa using n,m⟩
theorem IsKV.keys{K:Qqq}:∀{kvs}{xs},IsKV K m H kvs xs->IsDs K m H (M.keysOf kvs) (xs.map λp=>kV p.1)
 |[],_,h=>by rw[show _=[] from h]; exact qz8
 |p::r,_,⟨k,v,a,e,hk,hv,hr⟩=>by
  subst e;refine qzm ?_ hr.keys;obtain⟨d,e⟩:=p
  cases d with
  |int i=>cases hk; exact mkInt i
  |str z=>cases hk; exact mkStr z
  |_=>exact nn hk
theorem Rel.dkeys{K:Qqq}{st:Y3}(h:Rel K m st H)(e:M.dkeys st d=Y ds)(hv:IsD K m H d v):∃a xs,v=.ref a/\Rd H a (.dK xs)/\IsDs K m H ds (xs.map λp=>kV p.1):=by
 cases d with
 |loc l=>
  obtain⟨kvs,b,rfl⟩:=mapD e;obtain⟨a,xs,_,rfl,hr,hk⟩:=h.dict b hv;exact⟨a,xs,rfl,hr,hk.keys⟩
 |_=>exact nn e
def qen(I:Inv X b f H s)(e:Rd H a (.dK xs)):∃vs c,KV xs vs/\s.heap.DictAt (mixKind X.prog X.w) a vs c/\(a==Qm)=Y5/\vs.length<=sizeLine:=by
 obtain⟨g,lo,vs,d,o,es,c,r⟩:=qwh I.hok e;exact⟨vs,c,d,⟨o,es,r⟩,lo,by rw[<- d.length]; exact g⟩
def qky(k:X.A.handled=B):qqh X (.type "list") (λxs H Q=>∃p ys,xs=[.ref p]/\Rd H p (.dK ys)/\∀l,H l=B->Q (.ref l) (upd H l (.lst (ys.map λq=>kV q.1)))):=by
 intro pins s σ H xs o Q I r h;obtain⟨p,ys,rfl,i,q⟩:=h;obtain⟨u,rfl,f⟩:=vals1 r;cases f;obtain⟨vs,t,b,n,lo,hn⟩:=qen I i;refine PySem.W.kdl_call (PySem.W.kdl_dict lo) k n hn λh' tk a c hk m d=>?_;have g:=qjp b (by rw[Qzu]; exact d.1) λj v e=>d.2 j v (by rw[<- Qq1]; exact e);refine⟨.ref s.heap.objs.size,_,I.laid hk (Qqv _) (show ObjOk X.prog X.w _ h' _ (.lst (ys.map λq=>kV q.1)) from⟨?_,a.toList,c,g,m⟩),rfl,q _ (I.hok.fresh (Qqv _))⟩;rw[Qqz,b.length]; exact hn
def qym(K:PySem.W.KdlSrc X.prog X.w T r d n P t)(C:A.handled=B)(hok:t s.heap)(z:n<=sizeLine)(h:∀(a:Heap) (k:Y0) (vs:Array Y8),(∀b o,s.heap.get? b=Y o->a.get? b=Y o)->s.heap.objs.size<a.objs.size->ItemsOf P vs n->R vs.toList { s with heap:=a,toks:=k }):wpAny ?d A (collect (.ref r)) R E s:=by
 have lt:=K.there _ hok
 let g:=s.heap.objs.size
 let p:=s.heap.push { cls:=.type "list",data:=.seq ([]:L Y8).toArray }
 have hg:p.get? g=Y { cls:=.type "list",data:=.seq #[] }:=Qql _ rfl;have ext:=PySem.W.kdl_extend (s:={ s with heap:=p }) (R:=λq m=>∃(a:Heap) (k:Y0) (vs:Array Y8) (c:Y0),q=.ok (.ret (.ref g))/\m={ s with heap:=a,toks:=k }/\(∀b o,s.heap.get? b=Y o->a.get? b=Y o)/\a.get? g=Y { cls:=.type "list",dict:=B,data:=.seq vs c,slots:=#[] }/\ItemsOf P vs n)
  K C (K.keep _ _ hok λb _ o e=>Qqx _ e) g (Qxb lt.1) (Qxb lt.2) (.ref g) 0 hg
  (λa k vs c l i j=>⟨a,k,vs,c,rfl,rfl,λb o e=>l b o (Qq4 (Qqf e)) (Qqx _ e),i,j⟩) z
 unfold collect;apply Qq;apply wpAny_runValue;apply Zb entry_proto_collect';rw[Around.under_plainId PySem.F.plain_proto_collect _];apply Qq;refine Qi (Qx ⟨plainId_quiet PySem.F.plain_list_iadd _,?_⟩);apply Zb entry_list_iadd';rw[Around.under_plainId PySem.F.plain_list_iadd _];refine Qh (ext) (λD m x=>?_) λe m x=>?_
 ·cases D with
  |done f=>
   rcases x with⟨a,k,vs,c,e,rfl,l,i,j⟩
   cases e;apply Qq;apply wpAny_load i;exact Qx (h a k vs l (Qqf i) j)
  |again c=>
   rcases x with⟨v,u⟩
   refine⟨v,Zq u λw F y=>?_⟩
   rcases y with⟨a,k,vs,c,rfl,rfl,l,i,j⟩
   apply Qq;apply wpAny_load i;exact Qx (h a k vs l (Qqf i) j)
 ·rcases x with⟨_,_,_,_,e,_⟩
  cases e
def qa8(K:PySem.W.KdlSrc X.prog X.w T r d n P u)(w:A.handled=B)(hok:u s.heap)(F:n<64)(y:∀vs:L Y8,vs.length=n->(∀(j:Y0) (v:Y8),vs[j]?=Y v->P j v)->Zu vs ns)(h:∀(a:Y7) (h':Heap) (m e:Y0) (f:Array Y8) (c:L J),(∀b o,s.heap.get? b=Y o->h'.get? b=Y o)->s.heap.objs.size<=a->h'.get? a=Y (seqObj "list" f e)->Zu f.toList c->c.Perm ns->c.Pairwise (· <= ·)->Q (.ref a) { s with heap:=h',toks:=m }):
  wpAny ?d A (call (.builtin "sorted") [.ref r]) Q E s:=by
 have i:n<=sizeLine:=by rw[Q2]; lia
 apply PySem.Calls.call_function_entry kind_sorted plain_sorted entry_sorted (args_sorted1 _);unfold Qt.«sorted»;apply Qq;apply Qx;apply Qq;apply qym (A:=A.in1) K w hok i;intro h1 m g hk k t;have p:g.toList.length=n:=by rw[Qzu]; exact t.1
 have hi:=y g.toList p λj v e=>t.2 j v (by rw[<- Qq1]; exact e);apply Qq;refine wpAny_newList ?_ (by rw[p]; exact i);have l:(h1.push (seqObj "list" g.toList.toArray 0)).get? h1.objs.size=Y (seqObj "list" g.toList.toArray 0):=Qql _ rfl;apply Qq;apply Qo;refine Qd slot_list_sort ⟨_,l,rfl⟩ entry_list_sort (list_sort_tree l hi (by lia) λf c D C z=>⟨_,rfl,?_⟩) (args_list_sort _);obtain⟨e,x⟩:=sortedHeap_at l;refine Qx ⟨_,rfl,h _ _ _ e f c (λb o q=>?_) ?_ x D C z⟩
 ·have hb:=Qqf (hk b o q);exact(sortedHeap_old (Qq4 hb) (by rw[size_push']; exact Qxu hb)).trans (Qqx _ (hk b o q))
 ·exact Qj4 k
def qbt(n:X.A.handled=B):qqh X (.type "list") (rC X.K M.bList):=by
 intro pins s σ H xs j Q I r h;refine h.el λm st ds d st' b k e q=>?_;unfold M.bList at e
 split at e
 ·have q:=q.of e;obtain⟨x,rfl,i⟩:=k.one;obtain⟨p,ys,rfl,f,c⟩:=i.tup;exact qx0 pins s σ H _ j Q I r ⟨p,ys,rfl,.inr f,λl a=>q _ (m++[l]) _ (Sub.app m [l]) (Tr.of_same (qzc a)) (b.new a c) b.newLoc⟩
 ·refine qzh e λt g o=>?_;cases o;obtain⟨x,rfl,i⟩:=k.one;rcases orO g with g|g
  ·obtain⟨p,ys,_,rfl,f,c⟩:=b.seq g i;exact qx0 pins s σ H _ j Q I r ⟨p,ys,rfl,.inl f,λl a=>q _ (m++[l]) _ (Sub.app m [l]) (Tr.of_same (qzc a)) (b.new a c) b.newLoc⟩
  ·obtain⟨p,ys,rfl,f,c⟩:=b.dkeys g i;exact qky n pins s σ H _ j Q I r ⟨p,ys,rfl,f,λl a=>q _ (m++[l]) _ (Sub.app m [l]) (Tr.of_same (qzc a)) (b.new a c) b.newLoc⟩
 ·exact nn e
theorem qvl{K:Qqq}:∀{ds}{xs}{a}{bs},M.asBools ds=Y bs->IsDs K m H ds xs->Vals xs a->LSm.BoolsAre a bs
 |[],_,_,_,e,c,r=>by
  rw[c.nil]at r;cases r;cases e;exact .nil
 |d::ds,_,_,_,e,c,r=>by
  obtain⟨x,k,rfl,q,t⟩:=c.cons
  cases d with
  |bl b=>
   simp only[M.asBools]at e;refine qzh e λj i h=>?_;subst h;cases q.bl
   cases r with
   |cons g f=>
    cases g;exact .cons b (qvl i t f)
  |_=>simp[M.asBools]at e
theorem ints_of{K:Qqq}:∀{ds}{xs}{ns},M.asInts ds=Y ns->IsDs K m H ds xs->xs=ns.map V.int/\ds=ns.map D.int
 |[],_,_,e,a=>by
  cases e;exact⟨a.nil,rfl⟩
 |d::ds,_,_,e,a=>by
  obtain⟨x,h,rfl,q,t⟩:=a.cons
  cases d with
  |int b=>
   simp only[M.asInts]at e;refine qzh e λg f c=>?_;subst c;cases q.int;obtain⟨h1,h2⟩:=ints_of f t;rw[h1,h2];exact⟨rfl,rfl⟩
  |_=>simp[M.asInts]at e
def qfq(hc:X.calm=O):qqh X (.builtin "all") (rC X.K M.bAll):=by
 intro pins s σ H xs E Q I r h;refine h.el λm st ds d st' j o e q=>?_;unfold M.bAll at e
 split at e
 ·refine qzj e λD C e=>qzh e λbs z y=>?_;cases y;obtain⟨x,rfl,i⟩:=o.one;obtain⟨p,ys,_,rfl,t,n⟩:=j.seq C i;obtain⟨u,rfl,l⟩:=vals1 r;cases l;obtain⟨a,k,pl,_⟩:=I.list t;have hb:=qvl z n k;have f:=pl.isList;have c:p<s.heap.objs.size:=by obtain⟨_,e,_⟩:=id f; exact Qqf e
  refine call_all_walk (Zf f ?_)
  refine⟨s.heap.objs.size,[s.heap.objs.size,p],[s.heap.objs.size],a.toArray.size,_,_,λi=>(bs[i]?).getD O,rfl,Walks.list (A:=X.A.in1) (I.ok.hd hc) _ p (Qq4 c) a.toArray,
   ⟨⟨_,Qql _ rfl,rfl,rfl⟩,f.push _⟩,λi v s' F G w g=>?_,λh' tk hk=>?_⟩
  ·obtain⟨b,e,rfl⟩:=hb.get i v (by simpa using w);simp only[e]at g;exact Qe g
  ·have e:((List.range a.toArray.size).all λi=>(bs[i]?).getD O)=bs.all id:=by
    rw[Qqa,hb.length]; exact LSm.range_all bs
   rw[e];exact⟨.bl _,H,I.kept (LSm.kept_iter hk),rfl,q.here j (mkBl _)⟩
 ·exact nn e
def range_any(bs:L Ya):((List.range bs.length).any λi=>(bs[i]?).getD Y5)=bs.any id:=by
 rw[Qkx,Qjy,Qjy];constructor
 ·rintro⟨i,hi,h⟩;have hi:=Qz6.mp hi;rw[Qqh hi]at h;exact⟨bs[i],Qxi hi,h⟩
 ·rintro⟨b,hb,h⟩;obtain⟨i,hi,rfl⟩:=Qz9 hb;exact⟨i,Qz6.mpr hi,by rw[Qqh hi]; exact h⟩
def qfz(hc:X.calm=O):qqh X (.builtin "any") (rC X.K M.bAny):=by
 intro pins s σ H xs E Q I r h;refine h.el λm st ds d st' j o e q=>?_;unfold M.bAny at e
 split at e
 ·refine qzj e λD C e=>qzh e λbs z y=>?_;cases y;obtain⟨x,rfl,i⟩:=o.one;obtain⟨p,ys,_,rfl,t,n⟩:=j.seq C i;obtain⟨u,rfl,l⟩:=vals1 r;cases l;obtain⟨a,k,pl,_⟩:=I.list t;have hb:=qvl z n k;have f:=pl.isList;have c:p<s.heap.objs.size:=by obtain⟨_,e,_⟩:=id f; exact Qqf e
  refine call_any_walk (Zf f ?_)
  refine⟨s.heap.objs.size,[s.heap.objs.size,p],[s.heap.objs.size],a.toArray.size,_,_,λi=>(bs[i]?).getD Y5,rfl,Walks.list (A:=X.A.in1) (I.ok.hd hc) _ p (Qq4 c) a.toArray,
   ⟨⟨_,Qql _ rfl,rfl,rfl⟩,f.push _⟩,λi v s' F G w g=>?_,λh' tk hk=>?_⟩
  ·obtain⟨b,e,rfl⟩:=hb.get i v (by simpa using w);simp only[e]at g;exact Qe g
  ·have e:((List.range a.toArray.size).any λi=>(bs[i]?).getD Y5)=bs.any id:=by
    rw[Qqa,hb.length]; exact range_any bs
   rw[e];exact⟨.bl _,H,I.kept (LSm.kept_iter hk),rfl,q.here j (mkBl _)⟩
 ·exact nn e
theorem qq5(x):∀l:L J,(M.insInt x l).Perm (x::l)
 |[]=>.refl _
 |y::r=>by
  unfold M.insInt
  split
  ·exact .refl _
  ·exact((qq5 x r).cons y).trans (.swap x y r)
theorem qz2:∀l:L J,(M.sortInt l).Perm l
 |[]=>.refl _
 |x::r=>by
  unfold M.sortInt;exact(qq5 x _).trans ((qz2 r).cons x)
theorem qxk(x):∀l:L J,l.Pairwise (· <= ·)->(M.insInt x l).Pairwise (· <= ·)
 |[],_=>by unfold M.insInt; simp
 |y::r,h=>by
  unfold M.insInt
  split
  ·rename_i b;refine List.Pairwise.cons (λz a=>?_) h;rcases Qqy.mp a with e|e
   ·rw[e]; exact b
   ·exact Int.le_trans b ((Qze.mp h).1 z e)
  ·rename_i b;have h':=Qze.mp h;refine List.Pairwise.cons (λz a=>?_) (qxk x r h'.2);rcases Qqy.mp ((qq5 x r).mem_iff.mp a) with e|e
   ·rw[e]; lia
   ·exact h'.1 z e
theorem qqk:∀l:L J,(M.sortInt l).Pairwise (· <= ·)
 |[]=>by unfold M.sortInt; simp
 |x::r=>by
  unfold M.sortInt;exact qxk x _ (qqk r)
theorem qxj{K:Qqq}:∀(ns:L J),IsDs K m H (ns.map D.int) (ns.map V.int)
 |[]=>qz8
 |n::r=>qzm (mkInt n) (qxj r)
theorem qcd{K:Qqq}:∀{ds}{xs}{a}{c},M.asStrs ds=Y c->IsDs K m H ds xs->Vals xs a->StrsAre a c/\ds=c.map D.str/\xs=c.map V.str
 |[],_,_,_,e,f,r=>by
  rw[f.nil]at r ⊢;cases r;cases e;exact⟨.nil,rfl,rfl⟩
 |d::ds,_,_,_,e,f,r=>by
  obtain⟨x,o,rfl,q,t⟩:=f.cons
  cases d with
  |str b=>
   simp only[M.asStrs]at e;refine qzh e λn l k=>?_;subst k;cases q.str
   cases r with
   |cons i h=>
    obtain⟨g,rfl⟩:=i;obtain⟨h1,h2,j⟩:=qcd l t h;rw[h2,j];exact⟨.cons b g h1,rfl,rfl⟩
  |_=>simp[M.asStrs]at e
theorem qwc{K:Qqq}:∀(ns:L Y4),IsDs K m H (ns.map D.str) (ns.map V.str)
 |[]=>qz8
 |n::r=>qzm (mkStr n) (qwc r)
theorem qvn:∀{vs}{a},StrsAre vs a->Vals (a.map V.str) vs
 |_,_,.nil=>.nil
 |_,_,.cons y t h=>.cons ⟨t,rfl⟩ (qvn h)
theorem qc1:∀(p:Y4) (l:L Y4),risingS p l=M.upS (p::l)
 |_,[]=>rfl
 |p,x::r=>by
  unfold M.upS;rw[<- qc1 x r]
  rfl
theorem up_le:∀{l},M.upS (a::l)=O->b∈l->PyProof.Rows.strKind.kle a.cps.toList b.cps.toList
 |x::r,h,hb=>by
  unfold M.upS at h;rw[Qqs,Bool.not_eq_true',ltCps_eq]at h;rcases Qqy.mp hb with rfl|hb
  ·exact h.1
  ·exact KeyOrd.kle_trans (show PyProof.Rows.strKind.kle a.cps.toList x.cps.toList from h.1) (up_le h.2 hb)
theorem qi4:∀{l},M.upS l=O->l.Pairwise λa b=>PyProof.Rows.strKind.kle a.cps.toList b.cps.toList
 |[],_=>.nil
 |[_],_=>Qjz _ _
 |a::b::r,h=>.cons (λx c=>up_le h c) (qi4 (by unfold M.upS at h; rw[Qqs]at h; exact h.2))
def qi3(h:sortedS a=O)(g:M.upS b=O)(p:a.Perm b):a=b:=by
 have h':M.upS a=true:=by
  cases a with
  |nil=>rfl
  |cons x r=>rw[<- qc1]; exact h
 refine List.Perm.eq_of_pairwise (λx y _ _ q r=>?_) (qi4 h') (qi4 g) p;have:=KeyOrd.kle_antisymm q r;cases x; cases y;exact congrArg _ (Array.toList_inj.mp this)
def qwo(hh:X.A.handled=B):qqh X (.builtin "sorted") (rC X.K M.bSorted):=by
 intro pins s σ H xs us Q I r h;refine h.el λm st ds d st' g ix e q=>?_;unfold M.bSorted at e
 split at e
 ·split at e
  ·exact nn e
  ·rename_i R;refine qzj e λss n e=>?_
   split at e
   ·rename_i hu;have q:=q.of e;obtain⟨x,rfl,i⟩:=ix.one;obtain⟨p,ys,_,rfl,z,j⟩:=g.seq (d:=.lst _) rfl i;obtain⟨u,rfl,w⟩:=vals1 r;cases w;obtain⟨l,v,pl,_⟩:=I.list z;obtain⟨h1,h2,h3⟩:=qcd n j v;have t:=j.length;have l2:=v.length;have y:=qqa;rw[Qqg]at t;refine sorted_strs pl.isList h1 (by lia) λf K E D C=>?_;obtain rfl:=qi3 C hu D;obtain⟨F,A⟩:=sortedAll_at s.heap l f;have k:=I.hok.fresh (Qzl s.heap.objs.size);rw[h2]at q;refine⟨.ref ?G,upd H ?G (.lst (K.map V.str)),I.laid (λb o e=>sortedAll_old e) (Qzl _) ⟨?_,f.toList,F,qvn E,?_⟩,rfl,?_⟩
    ·rw[<- h3,<- t,y];unfold M.lim
     lia
    ·rw[A]
    ·exact q _ (m++[_]) _ (Sub.app m _) (Tr.of_same (qzc k)) (g.new k (qwc _)) g.newLoc
   ·exact nn e
 ·refine qzj e λU n e=>qzh e λns G e3=>?_;cases e3
  split at G
  ·exact nn G
  ·rename_i R;obtain⟨x,rfl,i⟩:=ix.one;rcases orO n with n|n
   case inr=>
    obtain⟨p,ys,rfl,z,j⟩:=g.dkeys n i;obtain⟨u,rfl,w⟩:=vals1 r;cases w;obtain⟨vs,F,kv,da,lo,hn⟩:=qen I z;obtain⟨T,e5⟩:=ints_of G j;have t:=j.length;rw[Qqz]at t;have l5:=kv.length;refine qa8 (ns:=ns) (PySem.W.kdl_dict lo) hh da (by lia) (λLq hl hv=>?_) λa h1 tk c f N hk ha A E D C=>?_
    ·have W:=qjp kv hl hv;rw[T]at W;exact intsAre_of W
    ·have S:=PySem.W.ksm_same (D.trans (qz2 ns).symm) C (qqk ns);subst S;have P:=(qz2 ns).length_eq;have y:=qqa;have l6:ns.length=U.length:=by
      have:=congrArg List.length e5;rw[Qqz]at this;exact this.symm
     have k:=I.hok.fresh ha;refine⟨.ref a,upd H a (.lst ((M.sortInt ns).map V.int)),I.laid hk ha ⟨?_,f.toList,c,qq8 E,?_⟩,rfl,?_⟩
     ·rw[Qqz,P,y];unfold M.lim
      lia
     ·rw[A]
     ·exact q _ (m++[_]) _ (Sub.app m _) (Tr.of_same (qzc k)) (g.new k (qxj _)) g.newLoc
   obtain⟨p,ys,_,rfl,z,j⟩:=g.seq n i;obtain⟨u,rfl,w⟩:=vals1 r;cases w;obtain⟨l,v,pl,_⟩:=I.list z;obtain⟨T,e5⟩:=ints_of G j;have t:=j.length;have l2:=v.length;subst T;have hI:=intsAre_of v;refine sorted_ints pl.isList hI (by lia) λf N E D C=>?_;have S:=PySem.W.ksm_same (D.trans (qz2 ns).symm) C (qqk ns);subst S;obtain⟨F,A⟩:=sortedAll_at s.heap l f;have k:=I.hok.fresh (Qzl _);have P:=(qz2 ns).length_eq;have y:=qqa;rw[Qqz]at t;refine⟨.ref ?G,upd H ?G (.lst ((M.sortInt ns).map V.int)),I.laid (λb o e=>sortedAll_old e) (Qzl _) ?_,rfl,?_⟩
   ·refine⟨?_,f.toList,F,qq8 E,?_⟩
    ·rw[Qqz,P,y];unfold M.lim
     lia
    ·rw[A]
   ·exact q _ (m++[_]) _ (Sub.app m _) (Tr.of_same (qzc k)) (g.new k (qxj _)) g.newLoc
 ·exact nn e
def qm8(K)(n t)(a:t≠.non):PySem.W.kitOne K (.type n.name) (.type t.name)=Y (M.tyIs t n):=by
 cases n<;>cases t<;>first
  |exact absurd rfl a
  |rfl
  |decide +kernel
def kit_of{st:Y3}(I:Inv X c v H s)(p:Rel X.K m st H)(h:IsD X.K m H d x)(r:RelV x u)(e:M.tyName st d=Y n):
  ∃q:Heap->Prop,PySem.W.KitX X.K u (.type n.name) q/\q s.heap/\u≠.builtin "__main__.__loader__#opaque":=by
 cases d with
 |non=>cases h.non; cases r; cases e; exact⟨_,PySem.W.kitx_none,True.intro,λz=>nomatch z⟩
 |bl b=>cases h.bl; cases r; cases e; exact⟨_,PySem.W.kitx_bool,True.intro,λz=>nomatch z⟩
 |int b=>cases h.int; obtain⟨t,rfl⟩:=r; cases e; exact⟨_,PySem.W.kitx_int,True.intro,λz=>nomatch z⟩
 |str b=>cases h.str; obtain⟨t,rfl⟩:=r; cases e; exact⟨_,PySem.W.kitx_str,True.intro,λz=>nomatch z⟩
 |tup ds=>
  obtain⟨a,xs,f,rfl,g,k,y,p1⟩:=qz9 I h;cases r;cases e;obtain⟨o,h1,h2,_⟩:=p1;exact⟨_,PySem.W.kitx_tuple,⟨o,h1,h2⟩,λz=>nomatch z⟩
 |loc l=>
  simp only[M.tyName]at e;refine qzh e λds j i=>?_;subst i;obtain⟨a,xs,_,rfl,g,k⟩:=p.seq j h;cases r;obtain⟨f,w,pl,_⟩:=I.list g;obtain⟨o,h1,h2,_⟩:=pl.isList;exact⟨_,PySem.W.kitx_list,⟨o,h1,h2⟩,λz=>nomatch z⟩
 |lst l=>
  simp only[M.tyName]at e;refine qzh e λds j i=>?_;subst i;obtain⟨a,xs,_,rfl,g,k⟩:=p.seq j h;cases r;obtain⟨f,w,pl,_⟩:=I.list g;obtain⟨o,h1,h2,_⟩:=pl.isList;exact⟨_,PySem.W.kitx_list,⟨o,h1,h2⟩,λz=>nomatch z⟩
def rIsi1(K:Qqq)(t:M.Ty):L V->Hp->VK->Prop:=λxs H Q=>∃m st d n x,xs=[x,.ty t.name]/\Rel K m st H/\IsD K m H d x/\M.tyName st d=Y n/\Q (.bl (M.tyIs t n)) H
def qe8(t)(f:t≠.non):qqh X (.builtin "isinstance") (rIsi1 X.K t):=by
 intro pins s σ H xs k Q I r h;obtain⟨m,st,d,n,x,rfl,j,i,e,q⟩:=h;obtain⟨u,w,rfl,b,a⟩:=vals2 r;cases a;obtain⟨l,g,p,c⟩:=kit_of I j i b e;exact PySem.W.kia_one g I.kIn p (qm8 X.K n t f) c λtk=>⟨.bl _,H,I.tok tk,rfl,q⟩
end
end MS
end
section
namespace MS
open PySem PySem.Spec PyProof.Rows L2
noncomputable def qxy(cells:L (Y4×Y7)):L (Y4×Ql)->L (Y4×Y7)->L (Y4×Y7)
 |[],acc=>acc
 |(n,k)::r,acc=>qxy cells r (if k==.free then(match cells.lookup n with|some a=>(n,a)::acc|none=>acc) else acc)
def qes:∀(names:L (Y4×Ql)) (b:L (Y4×Y7)),(∀x∈names,x.2=.free->∃c,env.cells.lookup x.1=Y c)->
  (forIn names b λx r=>match x,r with
   |(name,kind),cs=>if (kind==.free)=O then do let a <- cellOf env name; pure (ForInStep.yield ((name,a)::cs)) else pure (ForInStep.yield cs):Sem (L (Y4×Y7)))=pure (qxy env.cells names b):=by
 intro names
 induction names with
 |nil=>intro b _; rfl
 |cons x r e=>
  intro b h;obtain⟨n,k⟩:=x;rw[List.forIn_cons];have hr:=λb=>e b λy f=>h y (Qqp _ f)
  by_cases hk:k=.free
  ·subst hk;obtain⟨c,hc⟩:=h (n,.free) Qq3 rfl;simp only[ cellOf,hc];simp only[pure_bind];refine(hr ((n,c)::b)).trans ?_;have d:=hc;simp[qxy,d]
  ·have hb:(k==NameKind.free)=false:=by simpa using hk
   simp only[hb,pure_bind];refine(hr b).trans ?_;simp[qxy,hb]
def qvf(h:∀x∈a.names,x.2=.free->∃c,env.cells.lookup x.1=Y c):closureFor a env=pure (qxy env.cells a.names []):=by
 unfold closureFor;have:=qes a.names [] h;simp only[this]
 rfl
theorem qvg(hc:a.lookup x=Y c):∀(names:L (Y4×Ql)) (b:L (Y4×Y7)),((x,NameKind.free)∈names\/b.lookup x=Y c)->(qxy a names b).lookup x=Y c
 |[],b,h=>by
  rcases h with h|h
  ·cases h
  ·exact h
 |(n,k)::r,b,h=>by
  unfold qxy;refine qvg hc r _ ?_
  by_cases hk:k=.free
  ·subst hk;simp only[beq_self_eq_true,if_true]
   by_cases hn:n=x
   ·subst hn;rw[hc];exact .inr (by simp)
   ·rcases h with h|h
    ·rcases Qqy.mp h with e|e
     ·cases e; exact absurd rfl hn
     ·exact .inl e
    ·refine .inr ?_
     split
     ·have:(x==n)=false:=by simpa using Ne.symm hn
      rw[Qzy,this]; exact h
     ·exact h
  ·have hb:(k==NameKind.free)=false:=by simpa using hk
   rw[hb,Z7 Qqu];rcases h with h|h
   ·rcases Qqy.mp h with e|e
    ·cases e; exact absurd rfl hk
    ·exact .inl e
   ·exact .inr h
theorem qqz:∀(names:L (Y4×Ql)) (f:L (Y4×Y7)),(∀x c,f.lookup x=Y c->b.lookup x=Y c)->∀x c,(qxy b names f).lookup x=Y c->b.lookup x=Y c
 |[],f,h,x,c,e=>h x c e
 |(n,k)::r,f,h,x,c,e=>by
  unfold qxy at e;refine qqz r _ ?_ x c e;intro y d q
  by_cases hk:(k==NameKind.free)=O
  ·rw[Z8 hk]at q
   split at q
   ·rename_i a i
    by_cases g:(y==n)=O
    ·rw[Qzy,g]at q;rw[eq_of_beq g,i]; exact q
    ·have:(y==n)=false:=by simpa using g
     rw[Qzy,this]at q;exact h y d q
   ·exact h y d q
  ·rw[Z7 hk]at q;exact h y d q
theorem qqv(env:Env):∀(names:L (Y4×Ql)) (x:Y4),(names.map λ(n,k)=>if (k==NameKind.free&&env.scope.kind==.function&&env.kindOf n==Y .cell) then(n,NameKind.cell) else(n,k)).lookup x =
  (names.lookup x).map λk=>if (k==NameKind.free&&env.scope.kind==.function&&env.kindOf x==Y .cell) then NameKind.cell else k
 |[],x=>rfl
 |(n,k)::r,x=>by
  have c:=qqv env r x;rw[Qqm]
  by_cases b:(x==n)=O
  ·have e:=eq_of_beq b;subst e;dsimp only
   split
   ·rename_i hc;rw[Qzy,b,Qzy,b];dsimp only[oMs];rw[Z8 hc]
   ·rename_i hc;rw[Qzy,b,Qzy,b];dsimp only[oMs];rw[Z7 hc]
  ·have a:(x==n)=false:=by simpa using b
   dsimp only
   split
   ·rw[Qzy,a,Qzy,a]; exact c
   ·rw[Qzy,a,Qzy,a]; exact c
section
def qwn(E:∀e s',o e s'->notedBy ?q A env (λe s'=>R (.error e) s') e s')(I:Y0->Qz->Prop)(turn:∀n s,I n s->wpAny ?q A (pyNext it) (λr d=>match r with
   |none=>R (.ok .next) d
   |some v=>wpAny ?q A (Zp a it v) (λ_ s₀=>wpAny ?q A (assign a env v) (λ_ i=>
     wpAny ?q A (forIn ifs O λc r=>if r=O then do let ok <- isTrue c env (Qw c env); pure (ForInStep.yield ok) else pure (ForInStep.yield r)) (λok b=>
      if ok=O then wpAny ?q A (Qw elt env) (λx g=>wpAny ?q A (call (.builtin "list.append") [D,x]) (λ_ f=>∃m,m<n/\I m f) o g) o b
      else ∃m,m<n/\I m b) o i) o s₀) o d) o s)(n)(h:I n s):Zd ?q A (.compLoop (.ListComp elt [⟨a,p,ifs,0⟩] l pos) 0 it D env) R s:=by
 refine codeAny_loop rfl I (λn s F=>?_) n h;refine wpAny_noted (Qh ?_ (λ_ _ q=>q) E);rw[compTurn_list];refine Qq (wpAny_standAt (Qq (Qh (turn n s F) (λr d k=>?_) λ_ _ z=>z)))
 cases r with
 |none=>exact Qx k
 |some v=>
  refine Qq (Qh k (λ_ s₀ C=>?_) λ_ _ z=>z);refine Qq (Qh C (λ_ i y=>Qq (Qh y (λok b j=>?_) λ_ _ z=>z)) λ_ _ z=>z)
  cases ok with
  |false=>exact Qx ⟨rfl,j⟩
  |true=>
   exact Qq (Qq (Qh j (λx g u=>Qq (Qh u (λ_ f t=>Qx (Qx ⟨rfl,t⟩)) λ_ _ z=>z)) λ_ _ z=>z))
end
def HOk.track(x:HOk P w H h)(d:H a=B)(new:ObjOk P w (upd H a o) h a o):HOk P w (upd H a o) h:=λb u e=>by
 by_cases hb:b=a
 ·subst hb; rw[qzy]at e; cases e; exact new
 ·rw[qzx hb]at e;exact(x b u e).stay (λc v _ q=>q) (λc q=>by rw[qzx (qzl q d)]; exact q) λc xs q=>by rw[qzx (qzl q d)]; exact q
theorem Inv.track(I:Inv X c f H s)(hf:FpOk X c H a)(new:ObjOk X.prog X.w (upd H a o) s.heap a o):Inv X c f (upd H a o) s:=by
 obtain⟨d,k,l,j,i,g⟩:=hf;refine I.step (ch:=[a]) (λb hb=>?_) (λb o _ _ _ e _=>e) (λb o _ _ _ e _=>⟨o.slots,e⟩) (λb o hb e n=>?_) (λb o _ e=>⟨o,e⟩)
  (λb xs e=>by rw[qzx (qzl e d)]; exact e) (λb o u e=>by rw[qzx (qzl e d)]; exact e) (λb ps e=>⟨#[],by rw[qzx (qzl e d),e]; simp⟩) (λm h=>h) (HOk.track I.hok d new) I.bare
 ·have e:b=a:=by simpa using hb
  subst e;exact⟨j,k,i,g⟩
 ·rw[qzx (by simpa using hb)]; exact n
noncomputable def qzp(X:Cx)(N:L Y4)(scope:Scope)(C:Y7)(fp:L Y7)(s:Qz)(H:Hp):Cx:=
 { X with N:=N,s₀:=s,H₀:=H,env:=compEnvC scope (qxy X.env.cells scope.names []) C X.env,outer:=X.stack,ex:=fp,fn:=λ_=>Y5,pn:=[],xe:=λ_ _=>False }
noncomputable def qq0(src:L (Y2 Y0))(σ:L2.St):L2.St:=src.map λo=>o.bind λi=>(σ[i]?).bind id
structure CompScope (X:Cx) (N:L Y4) (src:L (Y2 Y0)) (scope:Scope):Prop where
 kind:scope.kind=.function
 cell:∀y∈scope.names,y.2≠.cell
 free:∀y∈scope.names,y.2=.free->X.env.kindOf y.1=Y .cell\/X.env.kindOf y.1=Y .free
 loc:∀y∈scope.names,y.2=.local->scope.names.lookup y.1=Y .local
 len:src.length=N.length
 src:∀(j i:Y0),src[j]?=Y (Y i)->∃x,N[j]?=Y x/\X.N[i]?=Y x/\scope.names.lookup x=Y .free
section
def mem_lookup{names:L (Y4×Ql)}(h:names.lookup x=Y k):(x,k)∈names:=PySem.mem_of_lookup h
def qwm(S:CompScope X N src a)(I:Inv X pins σ H s):closureFor a X.env=pure (qxy X.env.cells a.names []):=
 qvf λx b hk=>I.ok.has x.1 (S.free x b hk)
def qns(S:CompScope X N src a)(I:Inv X pins σ H s)(j:s.heap.objs.size<=C)(d:∀b∈fp,FpOk X pins H b)(g:∀b∈fp,b<s.heap.objs.size):(qzp X N a C fp s H).Ok where
 mod:=I.ok.mod
 kind:=S.kind
 glob:=I.ok.glob
 blt:=I.ok.blt
 above:=j
 inj:=λx y c h1 h2=>I.ok.inj x y c (qqz _ [] (λ_ _ z=>nomatch z) x c h1) (qqz _ [] (λ_ _ z=>nomatch z) y c h2)
 has:=λx h=>by
  have e:(qzp X N a C fp s H).env.kindOf x=(a.names.lookup x).map λk=>if (k==NameKind.free&&X.env.scope.kind==.function&&X.env.kindOf x==Y .cell) then NameKind.cell else k:=qqv X.env a.names x
  rw[e]at h
  cases q:a.names.lookup x with
  |none=>rw[q]at h; rcases h with h|h<;>cases h
  |some k=>
   have hk:k=.free:=by
    rw[q]at h;simp only[oMs,Option.some.injEq]at h
    by_cases hc:(k==NameKind.free&&X.env.scope.kind==.function&&X.env.kindOf x==Y .cell)=O
    ·simp only[Qqs]at hc;exact eq_of_beq hc.1.1
    ·rw[Z7 hc]at h;rcases h with h|h
     ·subst h; exact absurd rfl (S.cell _ (mem_lookup q))
     ·exact h
   subst hk;have i:=mem_lookup q;obtain⟨c,hc⟩:=I.ok.has x (S.free _ i rfl);exact⟨c,qvg hc _ _ (.inl i)⟩
 cab:=λx c h=>by cases h
 hd:=I.ok.hd
 frames:=I.ok.frames
 stk:=.inl rfl
 exf:=λb hb=>⟨Qq4 (Qq6 (g b hb) j),λx c e=>(d b hb).2.2.2.2.1 x c (qqz _ [] (λ_ _ z=>nomatch z) x c e)⟩
 bs:=I.bs
 bsz:=Qz3 I.ok.bsz I.sz
 noex:=λb o e hb=>by
  rcases (d b hb).2.2.2.1 with z|z
  ·exact I.ok.noex b o e z
  ·exact absurd (Qq6 (Qqf e) (Qz3 I.ok.bsz z)) (Qxz _)
 exfs:=λb hb hf=>by
  have f:=d b hb;rcases Qqy.mp (I.stkSub b hf) with z|z
  ·exact f.2.1 z
  ·exact f.2.2.1 z
 funs:=I.stack
 frf:=I.stkFree
def qbs(S:CompScope X N src a)(I:Inv X pins σ H s)(D:s.heap.objs.size<=C)(n:∀b∈fp,FpOk X pins H b)(l:∀b∈fp,b<s.heap.objs.size)(kp:∀b o,s.heap.get? b=Y o->h'.get? b=Y o)(ns:h'.Ns C A):Inv (qzp X N a C fp s H) [] (qq0 src σ) H { s with heap:=h',toks:=F }:=by
 have T:=qns S I D n l;refine⟨T,rfl,I.bare,Un.kept kp,⟨A,ns,λj x v r d hv=>?_⟩,λx c e=>?_,I.hok.fresh D,λx c e=>?_,λp K=>absurd (show p∈([]:L (Y7×Obj)) from K) (by simp),I.hok.kept kp,?_⟩
 ·unfold qq0 at d;rw[Qqw]at d
  cases q:src[j]? with
  |none=>rw[q]at d; cases d
  |some o=>
   rw[q]at d
   cases o with
   |none=>cases d
   |some i=>
    obtain⟨U,E,Q,t⟩:=S.src j i q;have r:N[j]?=Y x:=r;rw[r]at E;cases E;have hi:σ[i]?=Y (Y v):=by
     cases z:σ[i]? with
     |none=>simp[z]at d
     |some w=>
      cases w with
      |none=>simp[z]at d
      |some w=>simpa[z] using d
    obtain⟨V,P,m⟩:=I.loc;have hk:=S.free _ (mem_lookup t) rfl;have g:Vis X.env.scope x:=by
     rcases hk with z|z
     ·exact .inr (.inl z)
     ·exact .inr (.inr z)
    obtain⟨u,G,lk⟩:=m i x v Q hi g;refine⟨u,G,?_⟩;rcases lk with⟨z,_⟩|⟨_,c,hc,f⟩
    ·rcases hk with y|y
     ·rw[y]at z; cases z
     ·rw[y]at z; cases z
    ·refine .inr ⟨?_,c,qvg hc _ _ (.inl (mem_lookup t)),?_⟩
     ·have e:(qzp X N a C fp s H).env.kindOf x=(a.names.lookup x).map λk=>if (k==NameKind.free&&X.env.scope.kind==.function&&X.env.kindOf x==Y .cell) then NameKind.cell else k:=qqv X.env a.names x
      rw[e,t];simp only[oMs]
      by_cases hc:(NameKind.free==NameKind.free&&X.env.scope.kind==.function&&X.env.kindOf x==Y .cell)=O
      ·rw[Z8 hc]; exact .inl rfl
      ·rw[Z7 hc]; exact .inr rfl
     ·obtain⟨o,h,hd⟩:=f;exact⟨o,kp c o h,hd⟩
 ·have R:=qqz _ [] (λ_ _ z=>nomatch z) x c e;obtain⟨v,o,h,hd⟩:=I.cell x c R;exact⟨v,o,kp c o h,hd⟩
 ·exact I.freeC x c (qqz _ [] (λ_ _ z=>nomatch z) x c e)
 ·unfold qq0;rw[Qqz];exact S.len
end
def qb3(X:Cx)(ifs:L Expr)(tt:TT):Prop:=∀(pins:L (Y7×Obj)) (s:Qz) (σ:L2.St) (H:Hp) (Q:Ya->Hp->Prop),Inv X pins σ H s->tt σ H Q->
 wpAny ?d X.A (forIn ifs O λc r=>if r=O then do let ok <- isTrue c X.env (Qw c X.env); pure (ForInStep.yield ok) else pure (ForInStep.yield r)) (TP X pins σ Q) X.xe s
def qf1:qb3 X [] (λ_ H Q=>Q O H):=λpins s σ H Q I h=>by
 exact Qx ⟨H,I,h⟩
def qf0(hc:PT X c tc):qb3 X [c] tc:=λpins s σ H Q I h=>by
 rw[List.forIn_cons];simp only[if_true];refine Qq (Qq (thn (hc pins s σ H Q I h) λb a q=>Qx ?_));exact Qx q
def qk1{c4:L V->Hp->Prop}{RR:Y8->Y7->Result->Qz->Prop}{Ex:Y7->Y7->Y8->Qz->Prop}(hc:X.calm=O)(I:Inv X t σ H s)(T:Turn X.prog X.w X.K tg Jq fp it tn)(a5:tn 0 s.heap)(A:∀b∈fp,FpOk X t H b)(S:CompScope X N src scope)(hg:∀C,PG (qzp X N scope C fp s H) tg g)(ht:∀C,qb3 (qzp X N scope C fp s H) ifs tt)(he:∀D C,PE ((qzp X N scope C fp s H).wish (Ex D C)) elt te)(c9:∀D C,s.heap.objs.size<=C->∀e s',Ex D C e s'->notedBy ?d X.A (compEnvC scope (qxy X.env.cells scope.names []) C X.env) (λe s'=>RR (.ref D) C (.error e) s') e s')(W:Y0->Y0->L V->L2.St->Hp->Prop)(w0:∃k,W 0 k [] (qq0 src σ) H)(step:∀i k f σ H,W i k f σ H->(Jq.stop i H/\f.length<=sizeLine/\c4 f H)\/(Jq.go i H/\f.length<sizeLine/\∀x H',Jq.yld i H x H'->g x σ H' λU H2=>tt U H2 λb H3=>
   if b=O then te U H3 λv H4=>∃k',k'<k/\W (i+1) k' (f++[v]) U H4 else ∃k',k'<k/\W (i+1) k' f U H3))(c8:∀D C s' H' f,c4 f H'->H' D=B->Inv X t σ (upd H' D (.lst f)) s'->FpOk X t (upd H' D (.lst f)) C->(∃m,s'.heap.Ns C m)->RR (.ref D) C (.ok .next) s'):
  wpAny ?d X.A (newList []) (λf s₃=>wpAny ?d X.A (newFunctionEnv scope X.env.globals (qxy X.env.cells scope.names []) [] X.env.qual B .none (Y X.env)) (λa3 b9=>
   Zd ?d X.A (.compStart (.ListComp elt [⟨tg,a0,ifs,0⟩] scope pos) 0 (.ref it) f { a3 with scope:=relabel scope X.env }) (RR f a3.locals) b9) E s₃) E s:=by
 have c1:∀b∈fp,b<s.heap.objs.size:=λb hb=>by obtain⟨o,e,_⟩:=T.obj 0 _ a5 b hb; exact Qqf e
 refine Qi (wpAny_newFunctionEnv S.cell (by intro y hy; simp at hy) (λa1 l j=>?_) S.kind);generalize a9:s.heap.push { cls:=.type "list",dict:=B,data:=.seq ([]:L Y8).toArray }=H2 at l j ⊢;have hC:H2.objs.size=s.heap.objs.size+1:=by rw[<- a9,Qxx]
 have G:s.heap.objs.size≠H2.objs.size:=by rw[hC]; exact Qq4 (Qzc _)
 have R:s.heap.objs.size<=H2.objs.size:=by rw[hC]; exact Qzl _
 have a6:=λb o e=>j.extBut b o (by rw[hC]; exact Qq4 (Qxu (Qqf e))) (Qqx _ (a9▸Qqx _ e));have a2:=j.extBut _ _ G (Qqx _ (a9▸Qql _ rfl));generalize Q:s.heap.objs.size=Dd at G R a2;generalize d6:H2.objs.size=Cc at G R l j hC ⊢;have b0:=Nat.le_of_eq Q;have b5:s.heap.objs.size<=Cc:=by rw[Q]; exact R
 have fD:=I.hok.fresh b0;have I1:Inv (qzp X N scope Cc fp s H) [] (qq0 src σ) H { s with heap:=a1,toks:=s.toks+([]:L (Y4×Y8)).length }:=qbs S I b5 A c1 a6 l;have c0:∀b∈fp,b≠Dd:=λb hb=>by rw[<- Q]; exact Qq4 (c1 b hb)
 have b6:∀x c,(qzp X N scope Cc fp s H).env.cells.lookup x=Y c->c≠Dd:=λx c e z=>by
  have e':=qqz _ [] (λ_ _ z=>nomatch z) x c e;obtain⟨v,o,ho,_⟩:=I.cell x c e';rw[z,<- Q]at ho;exact Qxz _ (Qqf ho)
 have d0:Dd ∉ (qzp X N scope Cc fp s H).fs:=λz=>by
  obtain⟨_,o,ho,_⟩:=I1.ok.funs.mem z;rw[<- Q]at ho;exact Qxz _ (Qqf ho)
 have P:∀{pl:L (Y7×Obj)}{H':Hp},(∀p∈pl,p.1=Dd)->(∀b∈fp,H' b=B)->∀b∈fp,FpOk (qzp X N scope Cc fp s H) pl H' b:=λ{pl H'} c5 hn b hb=>
  ⟨hn b hb,(I1.ok.exf b hb).1,I1.ok.exfs b hb,.inl hb,(I1.ok.exf b hb).2,λp n=>by
   have c6:=n
   rw[c5 p c6]; exact(c0 b hb).symm⟩
 obtain⟨k0,w0⟩:=w0;have loop:∀s₃:Qz,s₃={ s with heap:=a1,toks:=s.toks+([]:L (Y4×Y8)).length }->
   Zd ?d X.A (.compLoop (.ListComp elt [⟨tg,a0,ifs,0⟩] scope pos) 0 (.ref it) (.ref Dd) (compEnvC scope (qxy X.env.cells scope.names []) Cc X.env)) (RR (.ref Dd) Cc) s₃:=by
  rintro s₃ rfl;refine qwn (c9 Dd Cc b5) (λk s'=>∃i f h nn b8 H',Inv (qzp X N scope Cc fp s H) [] b8 H' s'/\tn i s'.heap/\(∀b∈fp,H' b=B)/\W i k f b8 H'/\Vals f h/\s'.heap.get? Dd=Y { cls:=.type "list",data:=.seq h.toArray nn }/\H' Dd=B) ?_ k0
   ⟨0,[],[],0,qq0 src σ,H,I1,T.keep _ _ _ a5 λb _ o e=>a6 b o e,λb hb=>(A b hb).1,w0,.nil,a2,fD⟩
  rintro k s3 ⟨i,f,h,nn,K,H3,I3,t3,c2,w3,rv,c7,a7⟩;have c3:Inv (qzp X N scope Cc fp s H) [(Dd,{ cls:=.type "list",data:=.seq h.toArray nn })] K H3 s3:=I3.pins_of λp n=>by
   have e:p=(Dd,{ cls:=.type "list",data:=.seq h.toArray nn }):=by simpa using n
   subst e
   exact⟨c7,a7,G,d0,λv z=>by
    have z':=z
    cases z'⟩
  rcases step i k f K H3 w3 with⟨stop,hz,d3⟩|⟨go,hz,next⟩
  ·refine thn (T.done (qzp X N scope Cc fp s H) rfl rfl rfl hc i _ s3 K H3 (Ex Dd Cc) c3 (P (λp n=>by rw[Qqb.mp n]) c2) t3 stop) λr s4 ⟨hr,I4⟩=>?_;subst hr;have p4:=I4.pin (Dd,{ cls:=.type "list",data:=.seq h.toArray nn }) (Qq0 _ (by simp));have I5:=I.call' I4.os I4.base I4.hok I4.bare λb hb=>⟨(A b hb).2.2.2.1,(A b hb).2.1,(A b hb).2.2.2.2.1,(A b hb).2.2.2.2.2⟩
   have d2:=I.fpOk b0 a7;refine c8 Dd Cc s4 H3 f d3 a7 (Inv.track I5 d2 ⟨hz,h,nn,rv,p4.1⟩) (I.fpOk b5 (by rw[qzx (Ne.symm G)]; exact I4.free)) ?_;obtain⟨m4,n4,_⟩:=I4.loc;exact⟨m4,n4⟩
  ·refine thn (T.item (qzp X N scope Cc fp s H) rfl rfl rfl hc i _ s3 K H3 (Ex Dd Cc) c3 (P (λp n=>by rw[Qqb.mp n]) c2) t3 go) λr s4 ⟨u,hr,h4⟩=>?_;subst hr;refine thn h4 λ_ s5 ⟨x,H5,I5,r5,y5,t5,d1⟩=>?_;have d4:=I5.pinned (P (λp n=>by rw[Qqb.mp n]) d1) (T.obj _ _ t5);refine Qh (hg Cc _ s5 K H5 x u _ d4 r5 (next x H5 y5)) (λ_ s6 ⟨w,H6,I6,q6⟩=>?_) λ_ _ z=>z.elim;refine Qh (ht Cc _ s6 w H6 _ I6 q6) (λb s7 ⟨H7,I7,q7⟩=>?_) λ_ _ z=>z.elim;have a4:∀{b7:L2.St}{H8:Hp}{s8:Qz},Inv (qzp X N scope Cc fp s H) ([(Dd,{ cls:=.type "list",data:=.seq h.toArray nn })]++qv3 fp s5.heap) b7 H8 s8->
     tn (i+1) s8.heap/\(∀b∈fp,H8 b=B)/\s8.heap.get? Dd=Y { cls:=.type "list",data:=.seq h.toArray nn }/\H8 Dd=none:=λ{b7 H8 s8} I8=>by
    refine⟨T.keep _ _ _ t5 λb hb o e=>(I8.pin (b,o) (Qq0 _ (Qq0 _ (qqs hb e)))).1,λb hb=>?_,?_,?_⟩
    ·obtain⟨o,e,d⟩:=T.obj _ _ t5 b hb;exact(I8.pin (b,o) (Qq0 _ (Qq0 _ (qqs hb e)))).2.1
    ·exact(I8.pin (Dd,_) (Qq0 _ (Qzz _ (by simp)))).1
    ·exact(I8.pin (Dd,{ cls:=.type "list",data:=.seq h.toArray nn }) (Qq0 _ (Qzz _ (by simp)))).2.1
   cases b with
   |false=>
    simp only[Qzd]at q7 ⊢;obtain⟨k',hk,w7⟩:=q7;obtain⟨b1,b2,b3,b4⟩:=a4 I7;exact⟨k',hk,i+1,f,h,nn,w,H7,I7.pins_of λp n=>absurd n (by simp),b1,b2,w7,rv,b3,b4⟩
   |true=>
    simp only[if_true]at q7 ⊢;refine thn (he Dd Cc _ s7 w H7 _ (I7.wish _) q7) λy s8 ⟨v8,H8,I8,r8,k',hk,w8⟩=>?_;have I8:=I8.unwish;obtain⟨b1,b2,b3,b4⟩:=a4 I8;have l1:=rv.length;refine Q0 F.slot_list_append ⟨_,b3,rfl⟩ F.entry_list_append (F.args_list_append_2 _ _) (PySem.list_append Dd h.toArray nn y (by rw[Qqa]; lia)) ⟨b3,?_⟩;have q:=PySem.IsL.update b3 (λa=>a.push y);have a8:h.toArray.push y=(h++[y]).toArray:=by simp
    rw[a8]at q;have I9:Inv (qzp X N scope Cc fp s H) [] w H8 s8:=I8.pins_of λp n=>absurd n (by simp);have d5:Inv (qzp X N scope Cc fp s H) [] w H8 { s8 with heap:=s8.heap.update Dd (Obj.mapSeq (·.push y)) }:=
     I9.turned (λb o hb e=>(Qxs s8.heap _ (Ne.symm hb)).trans e) b4 G (.inr b0) b6 λp n=>absurd (show p∈([]:L (Y7×Obj)) from n) (by simp)
    exact⟨k',hk,i+1,f++[v8],h++[y],_,w,H8,d5,T.keep _ _ _ b1 λb hb o e=>(Qxs s8.heap _ (Ne.symm (c0 b hb))).trans e,b2,w8,rv.append (.cons r8 .nil),q,b4⟩
 exact codeAny_compStart_list (loop _ rfl) (T.self _ 0 _ _ _ (T.keep _ _ _ a5 λb _ o e=>a6 b o e) (loop _ rfl))
noncomputable def qly(src:L (Y2 Y0))(wi:TI)(g:TG)(tt:TT)(te:TE):TE:=λσ H Q=>wi σ H λJq H1=>∃W:Y0->Y0->L V->L2.St->Hp->Prop,(∃k,W 0 k [] (qq0 src σ) H1)/\
 ∀i k acc σ' H',W i k acc σ' H'->(Jq.stop i H'/\acc.length<=sizeLine/\∀p,H' p=B->Q (.ref p) (upd H' p (.lst acc)))\/(Jq.go i H'/\acc.length<sizeLine/\∀x H2,Jq.yld i H' x H2->g x σ' H2 λσ2 H3=>tt σ2 H3 λb H4=>
  if b=O then te σ2 H4 λv H5=>∃k',k'<k/\W (i+1) k' (acc++[v]) σ2 H5 else ∃k',k'<k/\W (i+1) k' acc σ2 H4)
def qmw(hc:X.calm=O)(S:CompScope X N src a)(hi:PI X tg c l)(y:∀C fp s H,PG (qzp X N a C fp s H) tg g)(u:∀C fp s H,qb3 (qzp X N a C fp s H) ifs m)(A:∀C fp s H,PE (qzp X N a C fp s H) elt n)(hs:∀x,foldedSetIterable c X.env x=pure x):PE X (.ListComp elt [⟨tg,c,ifs,0⟩] a pos) (qly src l g m n):=by
 intro pins s σ H Q I h;rw[eval_ListComp];refine wpAny_comprehension_free rfl hs (qwm S I) S.kind S.loc (thn (hi pins s σ H _ I h) λv R h1=>thn h1 λt i h2=>?_);obtain⟨it,fp,P,U,H2,e,G,T,f,F,W,p,d⟩:=h2;subst e;refine qk1 hc G T f F S (λC=>y C fp i H2) (λC=>u C fp i H2) (λ_ C=>A C fp i H2) (λ_ _ _ _ _ z=>z.elim) W p d ?_;intro D C s' H' k j r K E w;obtain⟨m',hn⟩:=w;refine⟨m',hn,λh' q=>⟨.ref D,upd H' D (.lst k),?_,rfl,j D r⟩⟩;obtain⟨c0,c1,c2,c3,c4,c5⟩:=E;exact K.turned (λb o hb e=>(q.2 b hb).trans e) c0 c1 c3 c4 c5
def Inv.turnedL{ch:L Y7}(I:Inv X a f H s)(k:∀b o,b ∉ ch->s.heap.get? b=Y o->h'.get? b=Y o)(hf:∀b∈ch,FpOk X a H b):Inv X a f H { s with heap:=h',toks:=t' }:=by
 have d:∀b u,H b=Y u->b ∉ ch:=λb u e z=>by rw[(hf b z).1]at e; cases e
 refine I.step (λb hb=>?_) (λb o _ _ hc e _=>k b o hc e) (λb o _ _ hc e _=>⟨o.slots,k b o hc e⟩) (λ_ _ _ _ n=>n) (λb o hc e=>⟨o,k b o hc e⟩) (λ_ _ e=>e) (λ_ _ _ e=>e) (λb ps e=>⟨#[],by rw[e]; simp⟩) (λm h=>?_) (λb u e=>?_) I.bare
 ·obtain⟨x,p,w,l,j,i⟩:=hf b hb;exact⟨l,p,j,i⟩
 ·obtain⟨o,es,t,g,r⟩:=h;exact⟨o,es,t,k _ o (λz=>(hf _ z).2.1 rfl) g,r⟩
 ·refine(I.hok b u e).stay (λc v hc q=>k c v ?_ q) (λ_ q=>q) λ_ _ q=>q;rcases hc with z|z
  ·rw[z]; exact d b u e
  ·exact d c _ z
inductive RK where
 |lst|tup
noncomputable def RK.It:RK->Heap->Y7->Y7->Y0->Prop
 |.lst,h,it,a,i=>h.IsListIter it a i
 |.tup,h,it,a,i=>h.IsTupleIter it a i
noncomputable def RK.Sq:RK->Heap->Y7->Array Y8->Prop
 |.lst,h,a,xs=>h.IsList a xs
 |.tup,h,a,xs=>h.IsTuple a xs
def RK.It.on{k:RK}(x:k.It h it a i)(e:∀o,h.get? it=Y o->h'.get? it=Y o):k.It h' it a i:=by
 cases k with
 |lst=>exact Heap.IsListIter.at x e
 |tup=>obtain⟨o,b,r⟩:=x; exact⟨o,e o b,r⟩
def RK.Sq.on{k:RK}(x:k.Sq h a xs)(e:∀o,h.get? a=Y o->h'.get? a=Y o):k.Sq h' a xs:=by
 cases k with
 |lst=>exact Heap.IsList.at x e
 |tup=>obtain⟨o,b,r⟩:=x; exact⟨o,e o b,r⟩
def RK.It.obj{k:RK}(x:k.It h it a i):∃o,h.get? it=Y o/\∀v,o.data≠.cell v:=by
 cases k with
 |lst=>obtain⟨o,b,_,d⟩:=x; exact⟨o,b,λv z=>by rw[d]at z; cases z⟩
 |tup=>obtain⟨o,b,_,d⟩:=x; exact⟨o,b,λv z=>by rw[d]at z; cases z⟩
section
def qxw{k:RK}(hi:k.It s.heap it a i)(hs:k.Sq s.heap a xs)(e:xs[i]?=Y x)(f:∀h',k.It h' it a (i+1)->(∀b o,b≠it->s.heap.get? b=Y o->h'.get? b=Y o)->h'.objs.size=s.heap.objs.size->Q x { s with heap:=h' }):wpAny ?q A (Builtin.SmallTypes.nextOf (.ref it)) Q E s:=by
 cases k with
 |lst=>exact wpAny_nextOf_list_item hi hs e λh' n g=>f h' n g.extBut g.1
 |tup=>
  obtain⟨o,d,l,c⟩:=id hi;obtain⟨q,j,_,m,h⟩:=hs;unfold Builtin.SmallTypes.nextOf;refine Qq (Qb (Heap.IsTupleIter.typeIs hi) F.slot_tuple_iterator_next (Qd F.slot_tuple_iterator_next (Heap.IsTupleIter.typeIs hi) F.entry_tuple_iterator_next ?_ (F.args_tuple_iterator_next_1 _)));show wpAny _ _ (field (.ref it) 0 >>= _) _ _ _;refine Qq (Qv d c rfl ?_);rw[Z7 (λz=>nomatch z)];refine Qq (Qv d c rfl ?_);refine Qq (Qn j h ?_);simp only[Int.toNat_natCast,e];refine Qq (wpAny_setField d c (by simp) (Qx ⟨x,rfl,Qx (f _ ?_ (Heap.SameBut.update ..).extBut (Heap.SameBut.update ..).1)⟩));exact⟨_,Qx0 _ d (Obj.isFreed_of_fields (Obj.data_mapFields c _)),(Obj.cls_mapFields ..).trans l,by rw[Obj.data_mapFields c]; simp[rawInt]⟩
def qj3{k:RK}(c:A.handled=B)(hi:k.It s.heap it a i)(hs:k.Sq s.heap a xs)(g:xs[i]?=B)(h:∀h' e,(∀b o,b≠it->s.heap.get? b=Y o->h'.get? b=Y o)->(∃o,h'.get? e=Y o/\o.cls=.type "StopIteration")->E (.ref e) { s with heap:=h' }):wpAny ?q A (Builtin.SmallTypes.nextOf (.ref it)) Q E s:=by
 cases k with
 |lst=>exact wpAny_nextOf_list_end c hi hs g λh' e p n=>h h' e p n
 |tup=>
  obtain⟨o,f,r,d⟩:=id hi;obtain⟨q,l,_,m,j⟩:=hs;unfold Builtin.SmallTypes.nextOf;refine Qq (Qb (Heap.IsTupleIter.typeIs hi) F.slot_tuple_iterator_next (Qd F.slot_tuple_iterator_next (Heap.IsTupleIter.typeIs hi) F.entry_tuple_iterator_next ?_ (F.args_tuple_iterator_next_1 _)));show wpAny _ _ (field (.ref it) 0 >>= _) _ _ _;refine Qq (Qv f d rfl ?_);rw[Z7 (λz=>nomatch z)];refine Qq (Qv f d rfl ?_);refine Qq (Qn l j ?_);simp only[Int.toNat_natCast,g];refine Qq (Zx (Qq (wpAny_setField f d (by simp) ?_))); show wpAny _ _ (newExc (.type "StopIteration") [] >>= _) _ _ _;refine Qq ?_; simp only[newExc];refine Qq (Qi ?_ (by size_fits)); refine Qq (Zw (by first|rfl|(simp only[firstArgMember]; rfl)) ?_);refine Qi ?_ (by size_fits); simp only[raiseNew];refine Qq (wpAny_handled ?_)
  first|rw[show A.in1.handled=B from c]|(rw[c])
  refine Qq (Qx (wpAny_throw ?_));exact h _ _ (((Heap.SameBut.update ..).extBut.push _).push _) ⟨_,Qql _ rfl,by rfl⟩
end
section
def qvv(e:IsPair s.heap T a b)(h:∀h',h'.get? T=Y { cls:=.type "tuple",data:=.seq ((#[a,b]:Array Y8).setIfInBounds j x) }->(∀c o,c≠T->s.heap.get? c=Y o->h'.get? c=Y o)->h'.objs.size=s.heap.objs.size->Q () { s with heap:=h' }):
  wpAny ?q A (updateSeq T (·.setIfInBounds j x)) Q E s:=
 wpAny_updateSeq_pair e λh' f d=>h h' f d.extBut d.1
def zip_get{C z:RK}(n1:r<n)(n2:q<n)(f:IsZip s.heap (n+4) (n+2) (n+3) .none)(T:IsPair s.heap (n+2) (.ref n) (.ref (n+1)))(hO:IsPair s.heap (n+3) a b)(h1:C.It s.heap n r i)(h2:z.It s.heap (n+1) q i)(s1:C.Sq s.heap r xs)(X:z.Sq s.heap q ys)(hx:xs[i]?=Y x)(hy:ys[i]?=Y y)(hQ:∀h',IsZip h' (n+4) (n+2) (n+3) (rawInt s.heap.objs.size)->IsPair h' (n+2) (.ref n) (.ref (n+1))->IsPair h' (n+3) x y->C.It h' n r (i+1)->z.It h' (n+1) q (i+1)->IsPair h' s.heap.objs.size x y->
   (∀c o,c≠n+4->c≠n+3->c≠n->c≠n+1->s.heap.get? c=Y o->h'.get? c=Y o)->Q (Y (.ref s.heap.objs.size)) { s with heap:=h' }):
  wpAny ?q A (pyNext (.ref (n+4))) Q E s:=by
 have S:s.TypeIs (.ref (n+4)) "zip":=⟨_,f,rfl⟩
 unfold pyNext;refine Qq (Q6 (Qb S F.slot_zip_next (Qd F.slot_zip_next S F.entry_zip_next ?_ (F.args_zip_next_1 _))));show wpAny _ _ (field (.ref (n+4)) 2 >>= _) _ _ _;refine Qq (Qv f rfl rfl ?_);refine Qq (Qv f rfl rfl ?_);refine Qq (Qn T rfl ?_);refine Qq ?_;unfold Builtin.SmallTypes.ownedTupleIsFree;refine Qq (Qv f rfl rfl (Qx ?_));simp only[if_true];refine Qq (Zx ?_);refine Qq (Qv f rfl rfl ?_);refine Qq (Qy f (by simp) λg1 v N=>?_)
 replace v:IsZip g1 (n+4) (n+2) (n+3) .ellipsis:=v
 have d:=N.extBut;refine Qq ?_;simp only[List.zipIdx_cons,List.forIn_nil];refine Qq (Qq (Z3 ?_)); show wpAny _ _ (Builtin.SmallTypes.nextOf (.ref n) >>= _) _ _ _;refine Qq (qxw (h1.on λo e=>d _ o (by show @Ne Y0 _ _; lia) e) (s1.on λo e=>d _ o (by show @Ne Y0 _ _; lia) e) hx λg2 i2 j c2=>Qx ?_);have V:=j _ _ (by show @Ne Y0 _ _; lia) (d _ _ (by show @Ne Y0 _ _; lia) hO);refine Qq (Qn V rfl ?_);refine Qq (qvv V λg3 G h c3=>?_)
 replace G:IsPair g3 (n+3) x b:=G
 refine Qq (wpAny_letGo (Qx ?_));refine Qq (Qq (Z3 ?_)); show wpAny _ _ (Builtin.SmallTypes.nextOf (.ref (n+1)) >>= _) _ _ _;refine Qq (qxw (h2.on λo e=>h _ o (by show @Ne Y0 _ _; lia) (j _ o (by show @Ne Y0 _ _; lia) (d _ o (by show @Ne Y0 _ _; lia) e))) (X.on λo e=>h _ o (by show @Ne Y0 _ _; lia) (j _ o (by show @Ne Y0 _ _; lia) (d _ o (by show @Ne Y0 _ _; lia) e))) hy λg4 i4 p c4=>Qx ?_);have U:=p _ _ (by show @Ne Y0 _ _; lia) G;refine Qq (Qn U rfl ?_);refine Qq (qvv U λg t m c5=>?_)
 replace t:IsPair g (n+3) x y:=t
 refine Qq (wpAny_letGo (Qx (Qx ?_)));refine Qq (Qn t rfl ?_);refine Qq (wpAny_newTuple ?_);have sz:=c5.trans (c4.trans (c3.trans (c2.trans N.1)));have H:=m _ _ (by show @Ne Y0 _ _; lia) (p _ _ (by show @Ne Y0 _ _; lia) (h _ _ (by show @Ne Y0 _ _; lia) (j _ _ (by show @Ne Y0 _ _; lia) v)));have k:∀c o,c≠n+4->c≠n+3->c≠n->c≠n+1->s.heap.get? c=Y o->g.get? c=Y o:=λc o c1 c2 c3 c4 e=>m _ _ c2 (p _ _ c4 (h _ _ c2 (j _ _ c3 (d _ _ c1 e))));have j1:=i2.on λo e=>m _ o (by show @Ne Y0 _ _; lia) (p _ o (by show @Ne Y0 _ _; lia) (h _ o (by show @Ne Y0 _ _; lia) e));have j2:=i4.on λo e=>m _ o (by show @Ne Y0 _ _; lia) e;have R:=Qqf H;refine Qq ?_;unfold Builtin.SmallTypes.ownedTupleHandOut;have W:IsZip (g.push { cls:=.type "tuple",data:=.seq #[x,y] }) (n+4) (n+2) (n+3) .ellipsis:=Qqx _ H;refine Qq (Qy W (by simp) λg7 u K=>?_)
 replace u:IsZip g7 (n+4) (n+2) (n+3) (rawInt g.objs.size):=u
 refine Qy u (by simp) λD l I=>?_
 replace l:IsZip D (n+4) (n+2) (n+3) (rawInt g.objs.size):=l
 have up:∀c o,c≠n+4->g.get? c=Y o->D.get? c=Y o:=λc o c1 e=>I.extBut _ _ c1 (K.extBut _ _ c1 (Qqx _ e));have P:=I.extBut _ _ (Qxb R) (K.extBut _ _ (Qxb R) (Qql _ rfl));rw[sz]at l P;refine Qx ⟨_,rfl,Qx ?_⟩;rw[sz];exact hQ D l (up _ _ (by lia) (k _ _ (by lia) (by lia) (by lia) (by lia) T)) (up _ _ (by lia) t) (j1.on λo e=>up _ o (by lia) e) (j2.on λo e=>up _ o (by lia) e) P λc o c1 c2 c3 c4 e=>up c o c1 (k c o c1 c2 c3 c4 e)
def qfh{P N:RK}(R:A.handled=B)(n1:v<n)(n2:u<n)(j:IsZip s.heap (n+4) (n+2) (n+3) .none)(hI:IsPair s.heap (n+2) (.ref n) (.ref (n+1)))(hO:IsPair s.heap (n+3) a b)(T:P.It s.heap n v i)(h2:N.It s.heap (n+1) u i)(K:P.Sq s.heap v xs)(X:N.Sq s.heap u ys)(k:xs[i]?=B\/ys[i]?=B)(hQ:∀h',(∀c o,c≠n+4->c≠n+3->c≠n->c≠n+1->s.heap.get? c=Y o->h'.get? c=Y o)->Q B { s with heap:=h' }):
  wpAny ?q A (pyNext (.ref (n+4))) Q E s:=by
 have S:s.TypeIs (.ref (n+4)) "zip":=⟨_,j,rfl⟩
 have m:∀(h':Heap) (e:Y7),(∀c o,c≠n+4->c≠n+3->c≠n->c≠n+1->s.heap.get? c=Y o->h'.get? c=Y o)->(∃o,h'.get? e=Y o/\o.cls=.type "StopIteration")->
   wpAny ?q A (do if (<- isInstance (.ref e) (.type "StopIteration")) then pure B else(throw (Value.ref e):Sem (Y2 Y8))) Q E { s with heap:=h' }:=λh' e hk l=>by
  obtain⟨o,f,hc⟩:=l;refine Qq (Zm ⟨o,f,hc⟩ isSubtype_stop ?_);exact Qx (hQ _ hk)
 unfold pyNext;refine Qq (Q6 (Qb S F.slot_zip_next (Qd F.slot_zip_next S F.entry_zip_next ?_ (F.args_zip_next_1 _))));show wpAny _ _ (field (.ref (n+4)) 2 >>= _) _ _ _;refine Qq (Qv j rfl rfl ?_);refine Qq (Qv j rfl rfl ?_);refine Qq (Qn hI rfl ?_);refine Qq ?_;unfold Builtin.SmallTypes.ownedTupleIsFree;refine Qq (Qv j rfl rfl (Qx ?_));simp only[if_true];refine Qq (Zx ?_);refine Qq (Qv j rfl rfl ?_);refine Qq (Qy j (by simp) λg1 p W=>?_)
 replace p:IsZip g1 (n+4) (n+2) (n+3) .ellipsis:=p
 have d:=W.extBut;refine Qq ?_;simp only[List.zipIdx_cons,List.forIn_nil];refine Qq (Qq (Z3 ?_)); show wpAny _ _ (Builtin.SmallTypes.nextOf (.ref n) >>= _) _ _ _
 cases y:xs[i]? with
 |none=>
  refine Qq (qj3 R (T.on λo e=>d _ o (by show @Ne Y0 _ _; lia) e) (K.on λo e=>d _ o (by show @Ne Y0 _ _; lia) e) y λg2 e g l=>?_);obtain⟨t,f,hc⟩:=l;have D:=g _ _ (by show @Ne Y0 _ _; lia) p;have z:e≠n+4:=λq=>by subst q; rw[D]at f; cases f; simp at hc
  exact Qy D (by simp) λU _ I=>m U e (λc o c1 _ c3 _ q=>I.extBut _ _ c1 (g _ _ c3 (d _ _ c1 q))) ⟨t,I.extBut _ _ z f,hc⟩
 |some x=>
  have hy:ys[i]?=none:=by
   rcases k with h|h
   ·rw[y]at h; cases h
   ·exact h
  refine Qq (qxw (T.on λo e=>d _ o (by show @Ne Y0 _ _; lia) e) (K.on λo e=>d _ o (by show @Ne Y0 _ _; lia) e) y λg2 i2 g c2=>Qx ?_);have V:=g _ _ (by show @Ne Y0 _ _; lia) (d _ _ (by show @Ne Y0 _ _; lia) hO);refine Qq (Qn V rfl ?_);refine Qq (qvv V λU O3 r c3=>Qq (wpAny_letGo (Qx ?_)));refine Qq (Qq (Z3 ?_)); show wpAny _ _ (Builtin.SmallTypes.nextOf (.ref (n+1)) >>= _) _ _ _;refine Qq (qj3 R (h2.on λo e=>r _ o (by show @Ne Y0 _ _; lia) (g _ o (by show @Ne Y0 _ _; lia) (d _ o (by show @Ne Y0 _ _; lia) e))) (X.on λo e=>r _ o (by show @Ne Y0 _ _; lia) (g _ o (by show @Ne Y0 _ _; lia) (d _ o (by show @Ne Y0 _ _; lia) e))) hy λg4 e G l=>?_);obtain⟨t,f,hc⟩:=l;have C:=G _ _ (by show @Ne Y0 _ _; lia) (r _ _ (by show @Ne Y0 _ _; lia) (g _ _ (by show @Ne Y0 _ _; lia) p));have z:e≠n+4:=λq=>by subst q; rw[C]at f; cases f; simp at hc
  exact Qy C (by simp) λg5 _ H=>m g5 e (λc o c1 c2 c3 c4 q=>H.extBut _ _ c1 (G _ _ c4 (r _ _ c2 (g _ _ c3 (d _ _ c1 q))))) ⟨t,H.extBut _ _ z f,hc⟩
end
noncomputable def RK.itO(k:RK)(a:Y7):Obj:=match k with
 |.lst=>{ cls:=.type "list_iterator",data:=.fields #[.ref a,.int 0 0] }
 |.tup=>{ cls:=.type "tuple_iterator",data:=.fields #[.ref a,.int 0 0] }
def qx7{k:RK}(hs:k.Sq s.heap a xs)(b:Q (.ref s.heap.objs.size) { s with heap:=s.heap.push (k.itO a) }):wpAny ?q A (pyIter (.ref a)) Q E s:=by
 cases k with
 |lst=>exact Zf hs b
 |tup=>exact wpAny_pyIter_tuple hs b
def row_new{h:Heap}{k:RK}:k.It (h.push (k.itO a)) h.objs.size a 0:=by
 cases k with
 |lst=>exact⟨_,Qql _ rfl,rfl,rfl⟩
 |tup=>exact⟨_,Qql _ rfl,rfl,rfl⟩
noncomputable abbrev zh1(k1:RK)(h:Heap)(l1:Y7):Heap:=h.push (k1.itO l1)
noncomputable abbrev zh2(k1 k2:RK)(h:Heap)(l1 l2:Y7):Heap:=(zh1 k1 h l1).push (k2.itO l2)
noncomputable abbrev zh3(k1 k2:RK)(h:Heap)(l1 l2:Y7):Heap:=(zh2 k1 k2 h l1 l2).push { cls:=.type "tuple",data:=.seq #[.ref h.objs.size,.ref (zh1 k1 h l1).objs.size] }
noncomputable abbrev zh4(k1 k2:RK)(h:Heap)(l1 l2:Y7):Heap:=(zh3 k1 k2 h l1 l2).push { cls:=.type "tuple",data:=.seq #[.none,.none] }
noncomputable abbrev zh5(k1 k2:RK)(h:Heap)(l1 l2:Y7):Heap:=(zh4 k1 k2 h l1 l2).push { cls:=.type "zip",data:=.fields #[.none,.bool Y5,.bool Y5,.ref (zh2 k1 k2 h l1 l2).objs.size,.ref (zh3 k1 k2 h l1 l2).objs.size] }
def qfi(f c)(b a)(xs ys):Meets (Qt.«zip.__new__» ⟨[.type "zip",.ref b,.ref a],[]⟩) (λ_ R s=>f.Sq s.heap b xs/\c.Sq s.heap a ys/\R (.ok (.ret (.ref (zh4 f c s.heap b a).objs.size))) { s with heap:=zh5 f c s.heap b a }):=
 .of_wp λprog w A R s h=>by
  obtain⟨l,g,d,tk,os⟩:=s;obtain⟨k,j,h⟩:=h;have i:=sub_zip;have m:=k;have L2:c.Sq (Shared.heap ⟨l.push (f.itO b),g,d,tk,os⟩) a ys:=j.on λo e=>Qqx _ e
  wp_walk using qx7 m,qx7 L2
  exact⟨_,rfl,h⟩
def ZipAt(k1 k2:RK)(n l1 l2:Y0)(i:Y0)(h:Heap):Prop:=
 l1<n/\l2<n/\IsZip h (n+4) (n+2) (n+3) .none/\IsPair h (n+2) (.ref n) (.ref (n+1))/\(∃a b,IsPair h (n+3) a b)/\k1.It h n l1 i/\k2.It h (n+1) l2 i
def qe1(r:d.Sq s.heap a xs)(q:f.Sq s.heap b ys)(b1:a<s.heap.objs.size)(b2:b<s.heap.objs.size)(h:∀h',ZipAt d f s.heap.objs.size a b 0 h'->(∀c o,s.heap.get? c=Y o->h'.get? c=Y o)->Q (.ref (s.heap.objs.size+4)) { s with heap:=h' }):wpAny ?q A (call (.type "zip") [.ref a,.ref b]) Q E s:=by
 refine callType_new F.called_zip (by decide) (F.typeCall_zip_2 _ _) (F.newCall_zip_2 _ _) (λobj=>F.args_object_init_3 obj _ _) F.entry_zip_new (qfi d f a b xs ys) ⟨r,q,?_⟩;have j:(zh1 d s.heap a).objs.size=s.heap.objs.size+1:=Qxx ..;have i:(zh2 d f s.heap a b).objs.size=s.heap.objs.size+2:=by rw[Qxx,j]
 have g:(zh3 d f s.heap a b).objs.size=s.heap.objs.size+3:=by rw[Qxx,i]
 have l:(zh4 d f s.heap a b).objs.size=s.heap.objs.size+4:=by rw[Qxx,g]
 have k:(zh5 d f s.heap a b).get? (zh4 d f s.heap a b).objs.size=Y _:=Qql _ rfl;have m:(zh5 d f s.heap a b).get? (zh3 d f s.heap a b).objs.size=Y _:=Qqx _ (Qql _ rfl);have n:(zh5 d f s.heap a b).get? (zh2 d f s.heap a b).objs.size=Y _:=Qqx _ (Qqx _ (Qql _ rfl));have p:f.It (zh5 d f s.heap a b) (zh1 d s.heap a).objs.size b 0:=row_new.on λo e=>Qqx _ (Qqx _ (Qqx _ e));have t:d.It (zh5 d f s.heap a b) s.heap.objs.size a 0:=row_new.on λo e=>Qqx _ (Qqx _ (Qqx _ (Qqx _ e)));rw[i,g,l]at k;rw[j,i]at n;rw[g]at m;rw[j]at p;rw[l];exact⟨⟨_,k,rfl⟩,h _ ⟨b1,b2,k,n,⟨_,_,m⟩,t,p⟩ λc o x=>Qqx _ (Qqx _ (Qqx _ (Qqx _ (Qqx _ x))))⟩
def RK.sq(k:RK)(K:Qqq)(H:Hp)(a:Y7)(xs:L V):Prop:=match k with
 |.lst=>SqL K H a xs
 |.tup=>SqT K H a xs
noncomputable def Itz(K:Qqq)(k1 k2:RK)(a b:Y7):It:=
 ⟨λi H=>∃xs ys x y,k1.sq K H a xs/\k2.sq K H b ys/\xs[i]?=Y x/\ys[i]?=Y y,
  λi H v H'=>∃p x y,v=.ref p/\H p=B/\H'=upd H p (.tup [x,y])/\(∀xs,k1.sq K H a xs->xs[i]?=Y x)/\∀ys,k2.sq K H b ys->ys[i]?=Y y,
  λi H=>∃xs ys,k1.sq K H a xs/\k2.sq K H b ys/\(xs.length<=i\/ys.length<=i)⟩
section
def qqt{k:RK}(I:Inv X pins σ H s)(q:k.sq X.K H a xs):∃b,Vals xs b/\k.Sq s.heap a b.toArray:=by
 cases k with
 |lst=>obtain⟨b,c,p,d⟩:=I.list q; exact⟨b,c,p.isList⟩
 |tup=>obtain⟨b,c,p,d⟩:=I.tuple q; exact⟨b,c,show s.heap.IsTuple a b.toArray from p⟩
def qvk{k:RK}(I:Inv X pins σ H s)(q:k.sq X.K H a xs)(b:k.sq X.K H a ys):xs=ys:=by
 cases k with
 |lst=>exact I.list_inj q b
 |tup=>exact I.tuple_inj q b
end
noncomputable def fpZ(n:Y0):L Y7:=[n+4,n+2,n+3,n,n+1]
def qfm{K:Qqq}(V U)(n a b):Turn P w K (.Tuple p c pos) (Itz K V U a b) (fpZ n) (n+4) (ZipAt V U n a b) where
 mem:=by simp[fpZ]
 obj:=λi h st e W=>by
  obtain⟨b1,b2,f,j,⟨x,y,g⟩,h1,h2⟩:=st;simp only[fpZ,Qqy,Qzq,or_false]at W;rcases W with rfl|rfl|rfl|rfl|rfl
  ·exact⟨_,f,λv z=>nomatch z⟩
  ·exact⟨_,j,λv z=>nomatch z⟩
  ·exact⟨_,g,λv z=>nomatch z⟩
  ·exact h1.obj
  ·exact h2.obj
 keep:=λi h h' st k=>by
  obtain⟨b1,b2,f,j,⟨x,y,g⟩,h1,h2⟩:=st;exact⟨b1,b2,k _ (by simp[fpZ]) _ f,k _ (by simp[fpZ]) _ j,⟨x,y,k _ (by simp[fpZ]) _ g⟩,h1.on λo e=>k _ (by simp[fpZ]) o e,h2.on λo e=>k _ (by simp[fpZ]) o e⟩
 item:=by
  intro X S N T hc i pins s σ H E I hf st hg;subst S N T;obtain⟨xs,ys,x,y,t,r,ex,ey⟩:=hg;obtain⟨b1,b2,f,j,⟨ua,ub,g⟩,h1,h2⟩:=st;obtain⟨vx,D,A⟩:=qqt I t;obtain⟨vy,C,u⟩:=qqt I r;obtain⟨u1,R,G⟩:=D.get ex;obtain⟨u2,Q,F⟩:=C.get ey;refine zip_get b1 b2 f j g h1 h2 A u (by simpa using R) (by simpa using Q) λh' a1 a2 a3 a4 a5 a6 kp=>⟨_,rfl,?_⟩
  refine wpAny_letOwnedTupleGo_zip a1 λh9 c1 c2=>?_;have d:=c2.extBut;have lt:∀b∈fpZ n,b≠s.heap.objs.size:=λb hb z=>by
   have q:b<s.heap.objs.size:=by
    simp only[fpZ,Qqy,Qzq,or_false]at hb;rcases hb with rfl|rfl|rfl|rfl|rfl
    ·exact Qqf f
    ·exact Qqf j
    ·exact Qqf g
    ·obtain⟨o,e,_⟩:=h1.obj; exact Qqf e
    ·obtain⟨o,e,_⟩:=h2.obj; exact Qqf e
   rw[z]at q;exact Qxz _ q
  have nz:s.heap.objs.size≠n+4:=λz=>lt (n+4) (by simp[fpZ]) z.symm;have I1:Inv X pins σ H { s with heap:=h9,toks:=s.toks }:=Inv.turnedL I (λb o hb e=>d _ _ (λz=>hb (by simp[fpZ,z])) (kp b o (λz=>hb (by simp[fpZ,z])) (λz=>hb (by simp[fpZ,z])) (λz=>hb (by simp[fpZ,z])) (λz=>hb (by simp[fpZ,z])) e)) hf;have fr:=I.hok.fresh (Qqv _);have I2:Inv X pins σ (upd H s.heap.objs.size (.tup [x,y])) { s with heap:=h9,toks:=s.toks }:=Inv.track I1 (I.fpOk (Qqv _) fr) ⟨by show 2<=sizeLine; decide,[u1,u2],.cons G (.cons F .nil),⟨_,d _ _ nz a6,rfl,_,rfl⟩⟩;refine⟨.ref s.heap.objs.size,upd H s.heap.objs.size (.tup [x,y]),I2,rfl,⟨_,x,y,rfl,fr,rfl,λzs l=>?_,λzs l=>?_⟩,⟨b1,b2,c1,d _ _ (by show @Ne Y0 _ _; lia) a2,⟨_,_,d _ _ (by show @Ne Y0 _ _; lia) a3⟩,a4.on λo e=>d _ o (by show @Ne Y0 _ _; lia) e,a5.on λo e=>d _ o (by show @Ne Y0 _ _; lia) e⟩,λb hb=>?_⟩
  ·rw[qvk I l t]; exact ex
  ·rw[qvk I l r]; exact ey
  ·rw[qzx (lt b hb)]; exact(hf b hb).1
 done:=by
  intro X S N T hc i pins s σ H E I hf st hg;subst S N T;obtain⟨xs,ys,t,r,m⟩:=hg;obtain⟨b1,b2,f,j,⟨ua,ub,g⟩,h1,h2⟩:=st;obtain⟨vx,D,A⟩:=qqt I t;obtain⟨vy,C,u⟩:=qqt I r;have lx:=D.length;have ly:=C.length;refine qfh (I.ok.hd hc) b1 b2 f j g h1 h2 A u ?_ λh' kp=>⟨rfl,Inv.turnedL I (λb o hb e=>kp b o (λz=>hb (by simp[fpZ,z])) (λz=>hb (by simp[fpZ,z])) (λz=>hb (by simp[fpZ,z])) (λz=>hb (by simp[fpZ,z])) e) hf⟩
  rcases m with h|h
  ·exact .inl (by simp; lia)
  ·exact .inr (by simp; lia)
 self:=λ_ _ _ _ _ st h=>wpAny_pyIter_zip st.2.2.1 h
noncomputable def iZip(K:Qqq)(ta:TA):TI:=λσ H R=>ta σ H λvs H1=>∃(k1 k2:RK) (a b:Y7),vs=[.ref a,.ref b]/\(∃xs,k1.sq K H1 a xs)/\(∃ys,k2.sq K H1 b ys)/\R (Itz K k1 k2 a b) H1
def pi_zip(E:Gl X "zip")(D:X.mg "zip" = B)(F:PA X [a,b] m)(hs:starEach [a,b] X.env=[(Y5,Qw a X.env),(Y5,Qw b X.env)]:=by rfl)(i:starEach [b] X.env=[(Y5,Qw b X.env)]:=by rfl):
  PI X (.Tuple j c f) (.Call (.Name "zip" p) [a,b] [] pos) (iZip X.K m):=by
 intro pins s σ H R I h;refine Call_ (qxs I E D boot_zip (PyProof.Rows.callWith_type1 (thn (F pos pins s σ H _ I h) λN g ⟨vs,H1,k,x,A⟩=>?_) (by rw[hs,i]) (by rw[i]; rfl)));obtain⟨w,v,a,b,e,⟨xs,z⟩,⟨ys,y⟩,q⟩:=A;subst e
 cases x with
 |cons r l=>
  cases l with
  |cons r' l=>
   cases l;cases r;cases r';obtain⟨K,Q,t⟩:=qqt k z;obtain⟨G,P,n⟩:=qqt k y;have la:a<g.heap.objs.size:=by
    cases w<;>(obtain⟨o,e,_⟩:=t; exact Qqf e)
   have C:b<g.heap.objs.size:=by
    cases v<;>(obtain⟨o,e,_⟩:=n; exact Qqf e)
   refine qe1 t n la C λh' st kp=>wpAny_pyIter_zip st.2.2.1 ?_;refine⟨g.heap.objs.size+4,fpZ g.heap.objs.size,_,_,H1,rfl,k.kept kp,qfm w v _ a b,st,λd hd=>?_,q⟩;have u:g.heap.objs.size<=d:=by
    simp only[fpZ,Qqy,Qzq,or_false]at hd;rcases hd with rfl|rfl|rfl|rfl|rfl<;>(show @LE.le Y0 _ _ _; lia)
   exact k.fpOk u (k.hok.fresh u)
section
end
inductive EntOk (prm:Qr):L Q3->L Y4->L Y8->Prop
 |nil:EntOk prm [] [] []
 |cons {k:Y4}{t:Tok}{u:Y8}{es:L Q3}{ks:L Y4}{us:L Y8}(h:EntOk prm es ks us):EntOk prm (⟨PyData.keyHash prm k,.str k t,u⟩::es) (k::ks) (u::us)
structure FDict (prm:Qr) (K:Qqq) (a:Y7) (ks:L Y4) (ds:L M.D):Prop where
 ex:∃(us:L Y8) (vs:L V) (es:Array Q3) (ep:Y0),K.lookup a=Y { cls:=.type "dict",data:=.dict es ep }/\EntOk prm es.toList ks us/\Vals vs us/\∀m H,IsDs K m H ds vs
 nd:ks.Nodup
 ne:(a==Qm)=Y5
noncomputable def kzip{α:Type}(ks:L Y4)(us:L α):L (Key×α):=(ks.map λk=>(Sum.inr k:Key)).zip us
theorem qao:∀{es}{ks}{us},EntOk w.params es ks us->(∀e∈es,∃k,(mixKind P w).is k e.key=O/\e.hash=(mixKind P w).hash k)/\PySem.Pairs (mixKind P w) es (kzip ks us)/\(kzip ks us).map (·.1)=ks.map λk=>(Sum.inr k:Key)
 |_,_,_,.nil=>⟨(λe h=>nomatch h),.nil,rfl⟩
 |_,_,_,.cons (k:=k) (t:=t) h=>by
  obtain⟨h1,h2,b⟩:=qao h;refine⟨λe a=>?_,?_,?_⟩
  ·rcases Qqy.mp a with q|q
   ·subst q;exact⟨.inr k,qq3 P w k t,rfl⟩
   ·exact h1 e q
  ·exact .cons (qq3 P w k t) rfl h2
  ·exact congrArg (List.cons (Sum.inr k:Key)) b
def qec(I:Inv X b f H s)(h:FDict X.w.params X.K a ks ds):
  ∃(us:L Y8) (vs:L V),s.heap.DictOf (mixKind X.prog X.w) a (kzip ks us)/\Vals vs us/\(∀m H,IsDs X.K m H ds vs)/\ks.length=us.length:=by
 obtain⟨us,vs,es,l,p,d,o,n⟩:=h.ex;obtain⟨h1,h2,k⟩:=qao d;refine⟨us,vs,⟨_,es,l,I.kIn a _ p,⟨rfl,rfl,rfl⟩,rfl,λe j=>h1 e (by simpa using j),h2,?_⟩,o,n,?_⟩
 ·rw[k];exact(Qjx.mpr (h.nd.imp λc i=>c (Sum.inr.inj i)))
 ·have:∀{es:L Q3}{ks:L Y4}{us:L Y8},EntOk X.w.params es ks us->ks.length=us.length:=by
   intro es ks us q
   induction q with
   |nil=>rfl
   |cons _ g=>rw[Qqg,Qqg,g]
  exact this d
theorem qm7(z):∀(ks:L Y4) (us:L α),((kzip ks us).find? λp=>decide (p.1=Sum.inr z)).map (·.2)=((ks.zip us).find? λq=>q.1==z).map (·.2)
 |[],us=>rfl
 |k::ks,[]=>rfl
 |k::ks,u::us=>by
  have a:=qm7 z ks us;show((((Sum.inr k:Key),u)::kzip ks us).find? λp=>decide (p.1=Sum.inr z)).map (·.2)=(((k,u)::ks.zip us).find? λq=>q.1==z).map (·.2);rw[Qzb,Qzb]
  by_cases h:k=z
  ·have h1:decide ((Sum.inr k:Key)=Sum.inr z)=true:=by rw[h]; simp
   have h2:(k==z)=true:=by rw[h]; simp
   simp only[h1,h2]
   rfl
  ·have h1:decide ((Sum.inr k:Key)=Sum.inr z)=false:=Z6 λq=>h (Sum.inr.inj q);have h2:(k==z)=false:=by simpa using h
   simp only[h1,h2];exact a
theorem qej{K:Qqq}(z):∀{ks:L Y4}{ds:L M.D}{vs:L V}{us:L Y8},(∀m H,IsDs K m H ds vs)->Vals vs us->ks.length=us.length->
  (((ks.zip ds).find? λq=>q.1==z)=B/\((ks.zip us).find? λq=>q.1==z)=B/\ks.contains z=Y5)\/∃k d v u,((ks.zip ds).find? λq=>q.1==z)=Y (k,d)/\((ks.zip us).find? λq=>q.1==z)=Y (k,u)/\(∀m H,MS.IsD K m H d v)/\RelV v u/\ks.contains z=O
 |[],ds,vs,us,i,r,h=>.inl ⟨rfl,rfl,rfl⟩
 |k::ks,[],vs,us,i,r,h=>by
  rw[(i [] λ_=>B).nil]at r;cases r;cases h
 |k::ks,d::ds,vs,us,i,r,h=>by
  obtain⟨v,vr,e,_,_⟩:=(i [] λ_=>B).cons;subst e;have l:∀m H,MS.IsD K m H d v:=λm H=>by
   obtain⟨b,a,e,q,_⟩:=(i m H).cons;cases e;exact q
  have j:∀m H,IsDs K m H ds vr:=λm H=>by
   obtain⟨b,a,e,_,q⟩:=(i m H).cons;cases e;exact q
  cases r with
  |cons f c=>
   rename_i u us
   by_cases hk:k=z
   ·subst hk;refine .inr ⟨k,d,v,u,by simp,by simp,l,f,by simp⟩
   ·have h2:(k==z)=false:=by simpa using hk
    have n:(z==k)=false:=by simpa using Ne.symm hk
    have g:=qej z j c (by simpa using h);rw[List.zip_cons_cons,List.zip_cons_cons,Qzb,Qzb,List.contains_cons];simp only[h2,n];exact g
section
def qmx(D:Gl X x)(A:X.mg x=Y (.ref a))(F:FDict X.w.params X.K a ks ds)(hd:(x==("__debug__" : Y4))=Y5)(hb:PE X b tb)(hs:NoSl b):
  PE X (.Subscript (.Name x p0) b pos) (λσ H Q=>tb σ H λy H2=>∃z d,y=.str z/\(∃k,((ks.zip ds).find? λq=>q.1==z)=Y (k,d))/\∀v,(∀m,MS.IsD X.K m H2 d v)->Q v H2):=by
 intro pins s σ H Q I h;refine qcc PySem.F.slot_dict_getitem.lookup hs (thn (qyx D A (show RelV (.ref a) (.ref a) from rfl) hd pins s σ H (λx H1=>x=.ref a/\tb σ H1 _) I ⟨rfl,h⟩) λu j ⟨T,H1,S,n,ex,r⟩=>?_);subst ex;cases n;refine thn (hb pins j σ H1 _ S r) λW U ⟨y,H2,g,l,z,d,R,⟨k,c⟩,p⟩=>?_;subst R;obtain⟨i,vs,f,o,E,C⟩:=qec g F;refine⟨f.typeIs,?_⟩;rcases qej z E o C with⟨t,_,_⟩|⟨V,d',e,u',P,N,K,G,_⟩
 ·rw[t]at c; cases c
 ·rw[P]at c;cases c;have w:valueAt (kzip ks i) (Sum.inr z)=Y u':=by
   unfold valueAt;rw[qm7,N]
   rfl
  exact wpAny_getItem_of (qkv (k:=.inr z) l) f.mapOf w ⟨e,H2,g.tok _,G,p e λm=>K m H2⟩
def gd_has(I:Inv X c e H s)(k:FDict X.w.params X.K a ks ds)(z):
  ∃d,s.heap.DictOf (mixKind X.prog X.w) a (kzip ks d)/\(valueAt (kzip ks d) (Sum.inr z)).isSome=ks.contains z:=by
 obtain⟨d,vs,n,f,j,i⟩:=qec I k;refine⟨d,n,?_⟩;unfold valueAt;rw[qm7];rcases qej z j f i with⟨_,h,g⟩|⟨q,v,o,p,u,m,t,r,l⟩
 ·rw[h,g]; rfl
 ·rw[m,l]; rfl
def pc_gin(neg)(n:Gl X x)(m:X.mg x=Y (.ref a))(c:FDict X.w.params X.K a ks ds)(hd:(x==("__debug__" : Y4))=Y5)(hb:PE X b tb):
  PC X (if neg then .NotIn else .In) b (.Name x p0) (λσ H Q=>tb σ H λy H2=>∃z,y=.str z/\Q (.bl (ks.contains z != neg)) H2):=by
 intro pins s σ H Q I h;refine thn (hb pins s σ H _ I h) λv i ⟨y,H1,p,e,z,o,l⟩=>?_;subst o;refine thn (qyx n m (show RelV (.ref a) (.ref a) from rfl) hd pins i σ H1 (λx H2=>x=.ref a/\Q (.bl (ks.contains z != neg)) H2) p ⟨rfl,l⟩) λu t ⟨q,H2,d,j,ex,f⟩=>?_;subst ex;cases j;obtain⟨r,g,hs⟩:=gd_has d c z
 cases neg with
 |false=>
  refine wpAny_in_of (qkv (k:=.inr z) e) c.ne g.mapOf ?_;rw[hs];refine⟨.bl _,H2,d.tok _,rfl,?_⟩;simpa using f
 |true=>
  refine wpAny_notIn_of (qkv (k:=.inr z) e) c.ne g.mapOf ?_;rw[hs];refine⟨.bl _,H2,d.tok _,rfl,?_⟩;simpa using f
open M (D Yb Y3 Sl)
def qdz(neg)(j:Gl X x)(i:X.mg x=Y (.ref a))(k:FDict X.w.params X.K a ks ds)(hd:(x==("__debug__" : Y4))=Y5)(hb:PE X b (tD X.K c)):
  PC X (if neg then .NotIn else .In) b (.Name x p0) (tD X.K λτ st=>(c τ st).bind λp=>match p.1 with
   |.str z=>Y (.bl (ks.contains z != neg),p.2)
   |_=>B):=by
 intro pins s σ H Q I h;refine pc_gin neg j i k hd hb pins s σ H Q I ?_;refine h.el λm st τ d st' t o e q=>qzk e λn u l e=>rsI t o l λy m1 H1 b1 f r g=>?_
 cases n with
 |str z=>
  have q:=q.of e;exact⟨z,g.str,q _ m1 H1 b1 f r (mkBl _)⟩
 |_=>exact nn e
def qgi(j:Gl X x)(i:X.mg x=Y (.ref a))(k:FDict X.w.params X.K a ks ds)(hd:(x==("__debug__" : Y4))=Y5)(hb:PE X b (tD X.K c))(hs:NoSl b):
  PE X (.Subscript (.Name x p0) b pos) (tD X.K λτ st=>(c τ st).bind λp=>match p.1 with
   |.str z=>((ks.zip ds).find? λq=>q.1==z).map λq=>(q.2,p.2)
   |_=>B):=by
 refine(qmx j i k hd hb hs).imp λσ H Q h=>h.el λm st τ d st' u s e q=>qzk e λr A o e=>rsI u s o λy m1 H1 b1 f t g=>?_
 cases r with
 |str z=>
  refine qzh e λw n l=>?_;cases l;exact⟨z,w.2,g.str,⟨w.1,n⟩,λv hv=>q _ m1 H1 b1 f t (hv m1)⟩
 |_=>exact nn e
def qyi{K:Qqq}(hk:M.isKey e=O)(f:IsKV K m H kvs xs)(i:Rd H a (.dK xs))(g:MS.IsD K m H e y):
  ∃o,DGet H a y o/\((M.dget kvs e=B/\o=B)\/∃d v,M.dget kvs e=Y d/\o=Y v/\MS.IsD K m H d v):=by
 obtain⟨k,c⟩:=qqu hk;have h:=qm9 c g;subst h;refine⟨valV xs k,.inl ⟨xs,k,i,rfl,rfl⟩,?_⟩;rcases f.get c with⟨h1,h2⟩|⟨d,v,h1,h2,j⟩
 ·exact .inl ⟨h1,h2⟩
 ·exact .inr ⟨d,v,h1,h2,j⟩
def qdx(r:X.A.units+1<cLine)(neg)(t:PE X a (tD X.K i))(hb:PE X b (tD X.K f)):
  PC X (if neg then .NotIn else .In) a b (tD X.K λτ st=>(i τ st).bind λp=>(f τ p.2).bind λq=>match q.1 with
   |.loc l=>(M.dicAt q.2 l).bind λkvs=>if M.isKey p.1 then Y (.bl ((M.dget kvs p.1).isSome != neg),q.2) else B
   |_=>B):=by
 have c:∀{σ:L2.St}{H:Hp}{Q:VK},tD X.K (λτ st=>(i τ st).bind λp=>(f τ p.2).bind λq=>match q.1 with
   |.loc l=>(M.dicAt q.2 l).bind λkvs=>if M.isKey p.1 then Y (.bl ((M.dget kvs p.1).isSome != neg),q.2) else B
   |_=>B) σ H Q->tD X.K i σ H λy H1=>tD X.K f σ H1 λx H2=>∃a o,x=.ref a/\DGet H2 a y o/\Q (.bl (o.isSome != neg)) H2:=by
  intro σ H Q h;refine h.el λm st τ d st' U u e q=>qzk e λR W N e=>qzk e λP V K e=>rsI U u N λy m1 H1 b1 n T C=>rsI T (u.mono b1 n) K λz w H2 b2 k R2 A=>?_
  cases P with
  |loc l=>
   refine qzj e λkvs G e=>?_
   split at e
   ·rename_i hk;have q:=q.of e;obtain⟨S,xs,_,rfl,E,j⟩:=R2.dict G A;obtain⟨o,g,hg⟩:=qyi hk j E (qza b2 k _ _ C);refine⟨S,o,rfl,g,?_⟩;have F:o.isSome=(M.dget kvs R).isSome:=by
     rcases hg with⟨h1,h2⟩|⟨d,v,h1,h2,_⟩
     ·rw[h1,h2]; rfl
     ·rw[h1,h2]; rfl
    rw[F];exact q _ w H2 (b1.trans b2) (n.trans k) R2 (mkBl _)
   ·exact nn e
  |_=>exact nn e
 cases neg with
 |false=>
  intro pins s σ H Q I h;refine pc_din r t hb pins s σ H Q I ?_;have:=c h;simpa only[tDIn,Bool.bne_false] using this
 |true=>
  intro pins s σ H Q I h;refine qdq r t hb pins s σ H Q I ?_;have:=c h;simpa only[qcb,Bool.bne_true] using this
def qgl(A:X.A.units+1<cLine)(C:PE X a (tD X.K n))(hb:PE X b (tD X.K k))(hs:NoSl b):
  PE X (.Subscript a b pos) (tD X.K λτ st=>(n τ st).bind λp=>(k τ p.2).bind λq=>match p.1 with
   |.loc l=>(M.dicAt q.2 l).bind λkvs=>if M.isKey q.1 then(M.dget kvs q.1).map λd=>(d,q.2) else B
   |_=>B):=by
 refine(qmv A C hb hs).imp λσ H Q h=>h.el λm st τ d st' T r e q=>qzk e λP V N e=>qzk e λW U K e=>rsI T r N λy m1 H1 b1 j S u=>rsI S (r.mono b1 j) K λz s H2 b2 i R2 t=>?_
 cases P with
 |loc l=>
  refine qzj e λkvs I e=>?_
  split at e
  ·rename_i hk;refine qzh e λw c G=>?_;cases G;obtain⟨R,xs,_,rfl,E,f⟩:=R2.dict I (qza b2 i _ _ u);obtain⟨o,g,hg⟩:=qyi hk f E t;rcases hg with⟨h1,h2⟩|⟨d,v,h1,h2,F⟩
   ·rw[h1]at c; cases c
   ·rw[h1]at c;cases c;subst h2;exact⟨R,v,rfl,g,q _ s H2 (b1.trans b2) (j.trans i) R2 F⟩
  ·exact nn e
 |_=>exact nn e
def qmk(G:X.A.units+1<cLine)(N:PE X a (tD X.K u))(hb:PE X b (tD X.K t))(I:M1 X a "get" f b c):
  PE X (.Call (.Attribute a "get" f) [b] [] c) (tD X.K λτ st=>(u τ st).bind λp=>match p.1 with
   |.loc l=>(M.dicAt p.2 l).bind λ_=>(t τ p.2).bind λq=>(M.dicAt q.2 l).bind λkvs=>if M.isKey q.1 then Y ((M.dget kvs q.1).getD .non,q.2) else B
   |_=>B):=by
 refine(qgm G N hb I).imp λσ H Q h=>h.el λm st τ d st' R0 w e q=>qzk e λd1 s1 V e=>rsI R0 w V λy m1 H1 b1 j A s=>?_
 cases d1 with
 |loc l=>
  refine qzj e λE W e=>qzk e λd2 s2 U e=>qzj e λkvs T e=>?_
  split at e
  ·rename_i hk;have q:=q.of e;obtain⟨a0,C,K,rfl,n,_⟩:=A.dict W s;refine⟨a0,rfl,.inl ⟨_,n⟩,rsI A (w.mono b1 j) U λz r H2 b2 i R2 F=>?_⟩;obtain⟨a',xs,_,S,P,k⟩:=R2.dict T (qza b2 i _ _ s);cases S;obtain⟨o,g,hg⟩:=qyi hk k P F;refine⟨o,g,?_⟩;rcases hg with⟨h1,h2⟩|⟨d,v,h1,h2,R⟩
   ·rw[h1]at q;subst h2;exact q _ r H2 (b1.trans b2) (j.trans i) R2 qvw
   ·rw[h1]at q;subst h2;exact q _ r H2 (b1.trans b2) (j.trans i) R2 R
  ·exact nn e
 |_=>exact nn e
end
section
end
section
open M (D Yb Y3 Sl)
end
end MS
end
section
namespace MS
open PySem PySem.Spec PyProof.Rows L2
open M (D Yb Y3 Sl)
section
variable {K:Qqq}{m m1:L Y7}{H1:Hp}
mutual
theorem qd5:∀(d:D) (v:V),M.noLoc d=O->MS.IsD K m1 H1 d v->MS.IsD K m H1 d v
 |.non,_,_,h=>by rw[h.non]; exact qvw
 |.bl _,_,_,h=>by rw[h.bl]; exact mkBl _
 |.int _,_,_,h=>by rw[h.int]; exact mkInt _
 |.str _,_,_,h=>by rw[h.str]; exact mkStr _
 |.tup ds,_,n,h=>by
  obtain⟨a,xs,rfl,q,r⟩:=h.tup;unfold M.noLoc at n;exact qq2 q (qju ds xs n r)
 |.lst ds,_,n,h=>by
  obtain⟨a,xs,rfl,q,r⟩:=h.lst;unfold M.noLoc at n;exact qbd q (qju ds xs n r)
 |.loc l,_,n,h=>by unfold M.noLoc at n; cases n
theorem qju:∀(ds:L D) (xs:L V),M.noLocs ds=O->IsDs K m1 H1 ds xs->IsDs K m H1 ds xs
 |[],_,_,h=>by rw[h.nil]; exact qz8
 |d::ds,_,n,h=>by
  obtain⟨x,r,rfl,q,t⟩:=h.cons;unfold M.noLocs at n;rw[Qqs]at n;exact qzm (qd5 d x n.1 q) (qju ds r n.2 t)
end
mutual
theorem qx8(s:Sub m m1):∀(d:D) (v g:V),MS.IsD K m H d v->MS.IsD K m1 H1 d g->MS.IsD K m H1 d g
 |.non,_,_,_,h=>by rw[h.non]; exact qvw
 |.bl _,_,_,_,h=>by rw[h.bl]; exact mkBl _
 |.int _,_,_,_,h=>by rw[h.int]; exact mkInt _
 |.str _,_,_,_,h=>by rw[h.str]; exact mkStr _
 |.tup ds,_,_,h0,h=>by
  obtain⟨a,xs,rfl,q,r⟩:=h.tup;obtain⟨f,b,_,_,c⟩:=h0.tup;exact qq2 q (qqp s ds b xs c r)
 |.lst ds,_,_,h0,h=>by
  obtain⟨a,xs,rfl,q,r⟩:=h.lst;obtain⟨f,b,_,_,c⟩:=h0.lst;exact qbd q (qqp s ds b xs c r)
 |.loc l,_,_,h0,h=>by
  obtain⟨f,i,_⟩:=h0.loc;obtain⟨a,e,rfl⟩:=h.loc;have:=s l f i;rw[e]at this;cases this;exact qg0 i
theorem qqp(s:Sub m m1):∀(ds:L D) (xs a:L V),IsDs K m H ds xs->IsDs K m1 H1 ds a->IsDs K m H1 ds a
 |[],_,_,_,h=>by rw[h.nil]; exact qz8
 |d::ds,_,_,h0,h=>by
  obtain⟨x,r,rfl,q,t⟩:=h.cons;obtain⟨b,e,rfl,f,c⟩:=h0.cons;exact qzm (qx8 s d b x f q) (qqp s ds e r c t)
end
theorem qjt(s:Sub m m1):∀(kvs:L (D×D)) (xs a:L (Key×V)),IsKV K m H kvs xs->IsKV K m1 H1 kvs a->IsKV K m H1 kvs a
 |[],_,_,_,h=>h
 |p::r,_,_,⟨i,v0,d,j,g,b,c⟩,⟨k,v,f,e,hk,hv,hr⟩=>⟨k,v,f,e,hk,qx8 s _ _ _ b hv,qjt s r _ _ c hr⟩
theorem qwb(s:Sub m m1):∀(fs:L (Y4×D)) (ys a:L (Y4×V)),IsFs K m H fs ys->IsFs K m1 H1 fs a->IsFs K m H1 fs a
 |[],_,_,_,h=>h
 |p::r,_,_,⟨v0,d,g,b,c⟩,⟨v,f,e,hv,hr⟩=>⟨v,f,e,qx8 s _ _ _ b hv,qwb s r _ _ c hr⟩
def qg7(s:Sub m m1)(f:IsC K m H c a)(h:IsC K m1 H1 c a):IsC K m H1 c a:=by
 cases c with
 |lst w ds=>
  cases w with
  |true=>
   obtain⟨xs,e,q⟩:=h;obtain⟨d,_,b⟩:=f;exact⟨xs,e,qqp s _ _ _ b q⟩
  |false=>
   obtain⟨xs,e,q⟩:=h;obtain⟨d,_,b⟩:=f;exact⟨xs,e,qqp s _ _ _ b q⟩
 |dic w kvs=>
  cases w with
  |true=>
   obtain⟨xs,e,q⟩:=h;obtain⟨d,_,b⟩:=f;exact⟨xs,e,qjt s _ _ _ b q⟩
  |false=>
   obtain⟨o,xs,e,q⟩:=h;obtain⟨_,d,_,b⟩:=f;exact⟨o,xs,e,qjt s _ _ _ b q⟩
 |obj C fs=>
  obtain⟨dx,ys,e,q⟩:=h;obtain⟨_,g,_,b⟩:=f;exact⟨dx,ys,e,qwb s _ _ _ b q⟩
def pre_at{st a:Y3}(h:a.take st.length=st){l:Y0}(e:st[l]?=Y c):a[l]?=Y c:=by
 have b:=(Qqk.mp e).1;rw[<- h,List.getElem?_take,Z8 b]at e;exact e
def Rel.cutBack{st:Y3}(f:Rel K m st H)(i:Rel K m1 b H1)(s:Sub m m1)(h:b.take st.length=st)(t:Tr H1 H2)(g:∀(l:Y0) (c:Yb) (a:Y7),st[l]?=Y c->m[l]?=Y a->Wr c=O->H2 a=H1 a):Rel K m st H2:=
 ⟨f.len,f.nd,λl c a e d=>qx9 ?H t (qg7 s (f.cell l c a e d) (i.cell l c a (pre_at h e) (s l a d))) λw=>g l c a e d w⟩
mutual
theorem qyd(s:Sub m m1):∀(d:D) (v:V),M.lt m.length d=O->IsD K m1 H d v->IsD K m H d v
 |.non,_,_,h=>h
 |.bl _,_,_,h=>h
 |.int _,_,_,h=>h
 |.str _,_,_,h=>h
 |.tup ds,_,b,h=>by
  unfold M.lt at b;obtain⟨a,xs,rfl,q,r⟩:=h.tup;exact qq2 q (qxx s ds xs b r)
 |.lst ds,_,b,h=>by
  unfold M.lt at b;obtain⟨a,xs,rfl,q,r⟩:=h.lst;exact qbd q (qxx s ds xs b r)
 |.loc l,_,b,h=>by
  unfold M.lt at b;obtain⟨a,e,rfl⟩:=h.loc;have b:l<m.length:=by simpa[Nat.blt_eq] using b
  have f:m[l]?=Y m[l]:=by simp
  have c:=s l _ f;rw[e]at c;cases c;exact qg0 f
theorem qxx(s:Sub m m1):∀(ds:L D) (xs:L V),M.lts m.length ds=O->IsDs K m1 H ds xs->IsDs K m H ds xs
 |[],_,_,h=>h
 |d::ds,_,a,h=>by
  unfold M.lts at a;rw[Qqs]at a;obtain⟨x,r,rfl,q,t⟩:=h.cons;exact qzm (qyd s d x a.1 q) (qxx s ds r a.2 t)
end
theorem qvc(s:Sub m m1):∀(kvs:L (D×D)) (xs:L (Key×V)),(kvs.all λp=>M.lt m.length p.2)=O->IsKV K m1 H kvs xs->IsKV K m H kvs xs
 |[],_,_,h=>h
 |p::r,_,a,⟨k,v,b,e,hk,hv,hr⟩=>by
  rw[Qz5,Qqs]at a;exact⟨k,v,b,e,hk,qyd s _ _ a.1 hv,qvc s r b a.2 hr⟩
theorem qai(s:Sub m m1):∀(fs:L (Y4×D)) (ys:L (Y4×V)),(fs.all λp=>M.lt m.length p.2)=O->IsFs K m1 H fs ys->IsFs K m H fs ys
 |[],_,_,h=>h
 |p::r,_,a,⟨v,b,e,hv,hr⟩=>by
  rw[Qz5,Qqs]at a;exact⟨v,b,e,qyd s _ _ a.1 hv,qai s r b a.2 hr⟩
def qnw(s:Sub m m1)(b:M.ltC m.length c=O)(h:IsC K m1 H c a):IsC K m H c a:=by
 cases c with
 |lst w ds=>
  cases w with
  |true=>obtain⟨xs,e,q⟩:=h; exact⟨xs,e,qxx s _ _ b q⟩
  |false=>obtain⟨xs,e,q⟩:=h; exact⟨xs,e,qxx s _ _ b q⟩
 |dic w kvs=>
  cases w with
  |true=>obtain⟨xs,e,q⟩:=h; exact⟨xs,e,qvc s _ _ b q⟩
  |false=>obtain⟨o,xs,e,q⟩:=h; exact⟨o,xs,e,qvc s _ _ b q⟩
 |obj C fs=>obtain⟨dx,ys,e,q⟩:=h; exact⟨dx,ys,e,qai s _ _ b q⟩
def GcOk(st st0:Y3):Prop:=(st0.take st.length).all (M.ltC st.length)=O\/st0.take st.length=st
def gc_el{st:Y3}(e:M.gcD st p=q):p=q\/(GcOk st p.2/\M.gcX st.length p=q):=by
 unfold M.gcD at e
 split at e
 ·rename_i h; exact .inr ⟨.inl h,e⟩
 ·split at e
  ·rename_i h; exact .inr ⟨.inr h,e⟩
  ·exact .inl e
def qjw{a:Y3}(e:(a.take n)[l]?=Y c):l<n/\a[l]?=Y c:=by
 rw[List.getElem?_take]at e
 split at e
 ·rename_i h; exact⟨h,e⟩
 ·exact nn e
def Rel.cut{st:Y3}(j:Rel K m st H)(f:Rel K m1 b H1)(s:Sub m m1)(h:GcOk st b)(t:Tr H1 H2)(i:∀(l:Y0) (c:Yb) (a:Y7),(b.take st.length)[l]?=Y c->m[l]?=Y a->Wr c=O->H2 a=H1 a):Rel K m (b.take st.length) H2:=by
 rcases h with h|h
 ·have o:=j.len;have p:m.length<=m1.length:=by
   rcases Qxq m1.length m.length with z|z
   ·have g:m[m1.length]?=Y (m[m1.length]'z):=by simp
    have:=(Qqk.mp (s _ _ g)).1
    lia
   ·exact z
  have h1:=f.len;refine⟨by rw[Qzv]; lia,λl n a c v u g r q w k=>f.nd l n a c v (s _ _ u) (s _ _ g) (qjw r).2 (qjw q).2 w k,λl c a e d=>?_⟩;refine qx9 ?H t (qnw s ?_ (f.cell l c a (qjw e).2 (s l a d))) λw=>i l c a e d w;have:=Qzx.mp h c (Qqe e);rw[o]; exact this
 ·rw[h];exact j.cutBack f s h t λl c a e d w=>i l c a (by rw[h]; exact e) d w
end
section
def qks(I:Inv X d g H s)(h:H a=Y (.lst xs)):∃o,Inv X d g (upd H a (.frz o (.lst xs))) s:=by
 obtain⟨z,f,n,r,e⟩:=id (I.hok a _ h);refine⟨{ cls:=.type "list",data:=.seq f.toArray n },I.un ⟨λb o q _ _ _=>q,λb o q _ _ _=>⟨o.slots,q⟩,λb o q hn _=>?_,λb o q _=>⟨o,q⟩,λb ys q=>?_,λb o u q=>?_,λb ps q=>⟨#[],?_⟩⟩ ?_⟩
 ·rw[qzx (λz=>by subst z; rw[h]at hn; cases hn)];exact hn
 ·rw[qzx (qzt q h (by intro z; cases z))]; exact q
 ·rw[qzx (qzt q h (by intro z; cases z))]; exact q
 ·rw[qzx (qzt q h (by intro z; cases z)),q]; simp
 ·intro b u q
  by_cases hb:b=a
  ·subst hb;rw[qzy]at q;cases q;exact⟨e,z,f,n,r,e⟩
  ·rw[qzx hb]at q;refine(I.hok b u q).stay (λc v _ w=>w) (λc w=>?_) λc ys w=>?_
   ·rw[qzx (qzt w h (by intro z; cases z))]; exact w
   ·rw[qzx (qzt w h (by intro z; cases z))]; exact w
inductive Di:HO->Prop
 |k (xs:L (Key×V)):Di (.dK xs)
 |t (xs:L (L Key×V)):Di (.dT xs)
def Di.ne(h:Di u):(∀ys,HO.tup ys≠u)/\(∀o v,HO.frz o v≠u)/\(∀p,HO.own p≠u)/\∀ps,HO.tbl ps≠u:=by
 cases h<;>exact⟨λ_ z=>(by cases z),λ_ _ z=>(by cases z),λ_ z=>(by cases z),λ_ z=>(by cases z)⟩
def qny(i:Di u)(I:Inv X d f H s)(h:H a=Y u):∃o,s.heap.get? a=Y o/\Inv X d f (upd H a (.frz o u)) s:=by
 obtain⟨g,m,l,j⟩:=i.ne;have ok:=I.hok a _ h;obtain⟨o,e⟩:∃o,s.heap.get? a=Y o:=by
  cases i<;>(obtain⟨_,_,vs,_,o,es,n,e,_⟩:=ok; exact⟨o,e⟩)
 have st:∀{b:Y7}{v:HO},ObjOk X.prog X.w H s.heap b v->ObjOk X.prog X.w (upd H a (.frz o u)) s.heap b v:=λk=>k.stay (λc v _ w=>w) (λc w=>by rw[qzx (qzt w h (l _))]; exact w) λc ys w=>by rw[qzx (qzt w h (g _))]; exact w
 refine⟨o,e,I.un ⟨λb o q _ _ _=>q,λb o q _ _ _=>⟨o.slots,q⟩,λb o q hn _=>?_,λb o q _=>⟨o,q⟩,λb ys q=>?_,λb o u q=>?_,λb ps q=>⟨#[],?_⟩⟩ ?_⟩
 ·rw[qzx (λz=>by subst z; rw[h]at hn; cases hn)];exact hn
 ·rw[qzx (qzt q h (g _))]; exact q
 ·rw[qzx (qzt q h (m _ _))]; exact q
 ·rw[qzx (qzt q h (j _)),q]; simp
 ·intro b u q
  by_cases hb:b=a
  ·subst hb;rw[qzy]at q;cases q;exact⟨e,st ok⟩
  ·rw[qzx hb]at q;exact st (I.hok b u q)
def NoFz(X:Cx)(a:Y7):Prop:=∀o u,X.H₀ a≠Y (.frz o u)
def qmo(d:Di u)(I:Inv X b c H s)(h:H a=Y u):NoFz X a:=λo v z=>by
 have:=I.base.frzs a o v z;rw[h]at this;exact absurd (Option.some.inj this).symm (d.ne.2.1 o v)
def qal(I:Inv X e f H s)(i:NoFz X a)(h:H a=Y (.frz o u)):Inv X e f (upd H a u) s:=by
 have ok:=I.hok a _ h;have d:∀{b:Y7},H b=B->(upd H a u) b=none:=λ{b} q=>by
  rw[qzx (λz=>by subst z; rw[h]at q; cases q)];exact q
 have st:∀{b:Y7}{v:HO},ObjOk X.prog X.w H s.heap b v->ObjOk X.prog X.w (upd H a u) s.heap b v:=λk=>k.stay (λc v _ w=>w) (λc w=>by rw[qzx (qzt w h (by intro z; cases z))]; exact w) λc ys w=>by rw[qzx (qzt w h (by intro z; cases z))]; exact w
 refine⟨I.ok,I.os,I.bare,⟨I.base.keep,I.base.slot,λb o q hn j=>d (I.base.free b o q hn j),I.base.there,λb ys q=>?_,λb o u q=>?_,λb ps q=>?_⟩,I.loc,I.cell,d I.free,λx c q=>d (I.freeC x c q),λp l=>?_,?_,I.len⟩
 ·have:=I.base.tups b ys q;rw[qzx (qzt this h (by intro z; cases z))]; exact this
 ·have:=I.base.frzs b o u q
  by_cases hb:b=a
  ·subst hb; exact absurd q (i o u)
  ·rw[qzx hb]; exact this
 ·obtain⟨more,this⟩:=I.base.tbls b ps q;exact⟨more,by rw[qzx (qzt this h (by intro z; cases z))]; exact this⟩
 ·obtain⟨p1,p2,g⟩:=I.pin p l;exact⟨p1,d p2,g⟩
 ·intro b u q
  by_cases hb:b=a
  ·subst hb;rw[qzy]at q;cases q;exact st ok.2
  ·rw[qzx hb]at q;exact st (I.hok b u q)
def Tr.lay(c:H a=Y (.lst xs)):Tr H (upd H a (.frz o (.lst xs))):=
 ⟨λb zs e=>by rw[qzx (qzt e c (by intro z; cases z))]; exact e,λb o u e=>by rw[qzx (qzt e c (by intro z; cases z))]; exact e⟩
def pe_gc(G:PE X p (tD X.K f)):PE X p (tD X.K λτ st=>(f τ st).map λq=>M.gcD st q):=by
 intro pins s σ H Q I h;refine h.el λm st τ d st' r S e q=>?_;obtain⟨⟨C,i⟩,R,P⟩:=mapD e;refine thn (G pins s σ H (λv H1=>∃m1,Sub m m1/\Tr H H1/\Rel X.K m1 i H1/\MS.IsD X.K m1 H1 C v) I (rsI r S R λv m1 H1 b1 g b j=>⟨m1,b1,g,b,j⟩)) λv s1 ⟨x,H1,t,n,m1,b1,g,b,j⟩=>?_;have plain:(C,i)=(d,st')->EP X pins σ Q v s1:=λz=>by
  cases z;exact⟨x,H1,t,n,q x m1 H1 b1 g b j⟩
 rcases gc_el P with z|⟨ok,z⟩
 ·exact plain z
 ·unfold M.gcX at z
  split at z
  ·rename_i hn;cases z;exact⟨x,H1,t,n,q x m H1 ?H g (r.cut b b1 ok (Tr.refl H1) λ_ _ _ _ _ _=>rfl) (qd5 _ _ hn j)⟩
  ·split at z
   ·rename_i l hd;simp only at hd
    split at z
    ·rename_i U
     split at z
     ·rename_i ds hc
      split at z
      ·rename_i hn;cases z;subst hd;obtain⟨a,A,rfl⟩:=j.loc;obtain⟨xs,y,F⟩:=b.cell l _ a hc A;obtain⟨o,T⟩:=qks t y;have k:=Tr.lay (o:=o) y;refine⟨.ref a,_,T,n,q _ m _ ?H (g.trans k) (r.cut b b1 ok k λu c E e N w=>?_) ?_⟩
       ·refine qzx λz=>?_;subst z;have K:=qjw e;have:=b.nd u l E c _ (b1 u E N) A K.2 hc w rfl
        lia
       ·exact qbd (.inl ⟨o,qzy⟩) (qju _ _ hn (qzf (Sub.refl m1) k _ _ F))
      ·exact plain z
     ·exact plain z
    ·exact plain z
   ·exact plain z
end
end MS
end
section
namespace MS
open PySem PySem.Spec PyProof.Rows L2
open M (D Yb Y3 Sl)
def qwk(l)(a)(n)(b)(items2)(j)(f)(c)(o:¬(!a.isEmpty&&Builtin.List.listTooLong (a.size+items2.size))=O)(m:a.size<=sizeLine)(e:a.size+items2.size<=sizeLine+1):
  Meets (Qt.«list.extend» ⟨[.ref l,.ref b],[]⟩) (λ_ R s=>s.heap.get? l=Y { cls:=.type "list",dict:=B,data:=.seq a n,slots:=#[] }/\s.heap.get? b=Y { cls:=.type "list",dict:=f,data:=.seq items2 j,slots:=c }/\R (.ok (.ret Value.none)) { s with heap:=s.heap.update l (Obj.mapSeq λx=>x++items2),toks:=s.toks }):=
 .of_wp λprog w A R s h=>by
  obtain⟨p,g,d,tk,os⟩:=s; obtain⟨i,hb,h⟩:=h; have v:=AutoSeq1.idx_int; have u:=AutoSeq1.sub_tuple_tuple; have t:=AutoSeq1.sub_list_list; have r:=AutoSeq1.sub_tuple_list; have q:=AutoSeq1.sub_list_tuple;have k:(a++items2).size<=sizeLine+1:=by rw[Qj2]; exact e
  wp_walk using (wpAny_updateSeq i rfl),Zy i,Zy hb; exact⟨_,rfl,h⟩
def qwv(l)(a)(n)(b)(items2)(j)(f)(c)(o:¬(!a.isEmpty&&Builtin.List.listTooLong (a.size+items2.size))=O)(m:a.size<=sizeLine)(e:a.size+items2.size<=sizeLine+1):
  Meets (Qt.«list.extend» ⟨[.ref l,.ref b],[]⟩) (λ_ R s=>s.heap.get? l=Y { cls:=.type "list",dict:=B,data:=.seq a n,slots:=#[] }/\s.heap.get? b=Y { cls:=.type "tuple",dict:=f,data:=.seq items2 j,slots:=c }/\R (.ok (.ret Value.none)) { s with heap:=s.heap.update l (Obj.mapSeq λx=>x++items2),toks:=s.toks }):=
 .of_wp λprog w A R s h=>by
  obtain⟨p,g,d,tk,os⟩:=s; obtain⟨i,hb,h⟩:=h; have v:=AutoSeq1.idx_int; have u:=AutoSeq1.sub_tuple_tuple; have t:=AutoSeq1.sub_list_list; have r:=AutoSeq1.sub_tuple_list; have q:=AutoSeq1.sub_list_tuple;have k:(a++items2).size<=sizeLine+1:=by rw[Qj2]; exact e
  wp_walk using (wpAny_updateSeq i rfl),Zy i,Zy hb; exact⟨_,rfl,h⟩
section
def qbb:MtM X "list.extend" (λx xs H Q=>∃m st a ds d st',Rel X.K m st H/\MS.IsD X.K m H a x/\IsDs X.K m H ds xs/\M.mExtend st a ds=Y (d,st')/\Post X.K m H d st' Q):=by
 intro pins s σ H x xs v us Q I T U h;obtain⟨m,st,a,ds,d,st',D,i1,i2,e,q⟩:=h;unfold M.mExtend at e
 split at e
 ·refine qzj e λa1 e1 e=>qzj e λes N e=>?_
  split at e
  ·rename_i hl;have q:=q.of e;obtain⟨p,ys,S,rfl,j,G,hs⟩:=D.wlist e1 i1;obtain⟨y,rfl,R⟩:=i2.one;have l1:=G.length;have l2:=qqa;cases T;obtain⟨u,rfl,P⟩:=U.one;obtain⟨z,c,n,r,a0,o⟩:=I.lstM j
   split at N
   ·rename_i ts;cases N;obtain⟨b,zs,rfl,K,w⟩:=R.tup;cases P;obtain⟨its2,t,⟨⟨C,k,l,g⟩,h1,h2,E,A⟩,_⟩:=I.tuple K;simp only at h2 A;subst h2 A;have W:=w.length;have V:=t.length;have i:c.toArray.size+its2.toArray.size<=sizeLine:=by rw[Qqa,Qqa]; lia
    have f:¬ (!c.toArray.isEmpty&&Builtin.List.listTooLong (c.toArray.size+its2.toArray.size))=true:=by
     rw[qak i,Qka];exact Qqu
    refine Q0 F.slot_list_extend ⟨_,o,rfl⟩ F.entry_list_extend (F.args_list_extend_2 _ _) (qwv p c.toArray n b its2.toArray E k g f (by rw[Qqa]; lia) (by lia)) ⟨o,h1,?_⟩;refine⟨.non,_,I.lset j o (by simp) (r.append t) ?_,rfl,?_⟩
    ·rw[Qqn]; lia
    ·exact q _ m _ ?H (Tr.put j) (D.put hs S j (G.append w)) qvw
   ·obtain⟨b,zs,_,rfl,K,w⟩:=D.seq N R;cases P;obtain⟨its2,t,⟨⟨C,k,l,g⟩,E,h1,h2,h4,A⟩,_⟩:=I.list K;simp only at h2 A;subst h2 A;have W:=w.length;have V:=t.length;have i:c.toArray.size+its2.toArray.size<=sizeLine:=by rw[Qqa,Qqa]; lia
    have f:¬ (!c.toArray.isEmpty&&Builtin.List.listTooLong (c.toArray.size+its2.toArray.size))=true:=by
     rw[qak i,Qka];exact Qqu
    refine Q0 F.slot_list_extend ⟨_,o,rfl⟩ F.entry_list_extend (F.args_list_extend_2 _ _) (qwk p c.toArray n b its2.toArray E k g f (by rw[Qqa]; lia) (by lia)) ⟨o,h1,?_⟩;refine⟨.non,_,I.lset j o (by simp) (r.append t) ?_,rfl,?_⟩
    ·rw[Qqn]; lia
    ·exact q _ m _ ?H (Tr.put j) (D.put hs S j (G.append w)) qvw
  ·exact nn e
 ·exact nn e
def qdf(hu:X.A.units+64<cLine):MtM X "list.index" (λx xs H Q=>∃m st a ds d st',Rel X.K m st H/\MS.IsD X.K m H a x/\IsDs X.K m H ds xs/\M.mIndex st a ds=Y (d,st')/\Post X.K m H d st' Q):=by
 intro pins s σ H x xs v us Q I G N h;obtain⟨m,st,a,ds,d,st',D,W,V,e,q⟩:=h;unfold M.mIndex at e
 split at e
 ·rename_i x0;refine qzj e λf e1 e=>?_
  split at e
  ·rename_i hf;rw[Qqs]at hf;refine qzh e λj e2 e3=>?_;cases e3;obtain⟨y,rfl,U⟩:=V.one;obtain⟨u,rfl,K⟩:=N.one;obtain⟨b,zs,_,rfl,hq,g⟩:=D.seq e1 W;cases G;obtain⟨c,r,⟨⟨cls,dd,C,sl⟩,n,h1,h2,h4,w⟩,hz⟩:=I.list hq;simp only at h2 w;subst h2 w;have l3:=g.length;have l4:=r.length;obtain⟨hj,l,o⟩:=List.findIdx?_eq_some_iff_getElem.mp e2;have a0:(sizeLine:Y0)<2 ^ 40:=by decide
   have i:X.A.in1.units+9<cLine:=by have hz:X.A.in1.units=X.A.units+1:=rfl; lia
   obtain⟨A,t⟩:=qfd I X.A.in1 i hf.1 U K;obtain⟨T,k2⟩:=t f zs c hf.2 g r;have at_:∀k (hk:k<c.length),A c[k]=M.eqT f[k] x0:=λk hk=>by
    have z:f[k]?=Y f[k]:=by simp
    obtain⟨E,w1,R⟩:=g.get z;obtain⟨u1,w2,P⟩:=r.get w1;have e5:c[k]=u1:=by
     have:c[k]?=Y c[k]:=by simp
     rw[w2]at this;exact(Option.some.inj this).symm
    rw[e5];obtain⟨_,S⟩:=t [f[k]] [E] [u1] (by simp[Qzx.mp hf.2 _ (Qqe z)]) (qzm R qz8) (.cons P .nil);simpa using S
   refine Q0 F.slot_list_index ⟨_,h1,rfl⟩ F.entry_list_index (F.args_list_index_2 _ _) (SeqAt.list_indexAt b c.toArray n dd sl u A j (by rw[Qqa]; lia) (by lia) ?_ ?_) ⟨h1,λy hy=>T y (by simpa using hy),?_⟩
   ·rw[Qjh,at_ j (by lia)];exact l
   ·intro k hk p;rw[Qjh,at_ k (by simpa using hk)];simpa using o k p
   ·exact⟨.int j,H,I.tok _,⟨_,rfl⟩,q.here D (mkInt _)⟩
  ·exact nn e
 ·exact nn e
def qba:MtM X "list.insert" (λx xs H Q=>∃m st a ds d st',Rel X.K m st H/\MS.IsD X.K m H a x/\IsDs X.K m H ds xs/\M.mInsert st a ds=Y (d,st')/\Post X.K m H d st' Q):=by
 intro pins s σ H x xs v us Q I A C h;obtain⟨m,st,a,ds,d,st',y,E,D,e,q⟩:=h;unfold M.mInsert at e
 split at e
 ·rename_i l i d0;refine qzj e λU T e=>?_
  split at e
  ·rename_i P;have q:=q.of e;obtain⟨p,ys,K,rfl,f,u,hs⟩:=y.wlist T E;obtain⟨W,V,rfl,o,k⟩:=D.two;cases o.int;have l1:=u.length;have l2:=qqa;cases A;obtain⟨u1,u2,rfl,j,g⟩:=C.two;obtain⟨t,rfl⟩:=j;obtain⟨z,b,n,r,N,w⟩:=I.lstM f;have G:(sizeLine:Y0)<2 ^ 40:=by decide
   have c:¬ (!Builtin.List.listFitsIndex i)=true:=by
    have h1:=P.1;have h2:i<2 ^ 62:=by lia
    simp only[Builtin.List.listFitsIndex,Bool.not_eq_true',Bool.not_eq_false];have:i<9223372036854775808:=by lia
    have:(-9223372036854775808:J)<=i:=by lia
    simp[*]
   refine Q0 F.slot_list_insert ⟨_,w,rfl⟩ F.entry_list_insert (F.args_list_insert_3 _ _ _) (AutoSeq1.list_insert_list_int_val_1 p b.toArray n i t u2 c (by rw[Qqa]; lia)) ⟨w,?_⟩;refine⟨.non,_,I.lset (its':=b.take i.toNat++u2::b.drop i.toNat) f w ?_ ((r.take _).append (.cons g (r.drop _))) ?_,rfl,?_⟩
   ·have S:¬ i<0:=by lia
    have R:min i.toNat b.length=i.toNat:=by lia
    rw[Z7 S,Qqa,R];apply Array.ext';simp;exact Qxt (by rw[Qjw]; lia)
   ·rw[Qqn,Qqg,Qzv,Qjw]; lia
   ·exact q _ m _ ?H (Tr.put f) (y.put hs K f ((u.take _).append (qzm k (u.drop _)))) qvw
  ·exact nn e
 ·exact nn e
end
section
noncomputable def Itd(a:Y7)(o:Obj)(xs:L (Key×V)):It:=
 ⟨λi H=>H a=Y (.frz o (.dK xs))/\i<xs.length,λi H x H'=>H'=H/\∃p,xs[i]?=Y p/\x=kV p.1,λi H=>H a=Y (.frz o (.dK xs))/\xs.length<=i⟩
def qan(I:Inv X b d H s)(h:H a=Y (.frz o (.dK xs)))(hd:o.data=.dict es ep):∃vs,KV xs vs/\s.heap.DictAt (mixKind X.prog X.w) a vs ep:=by
 obtain⟨h1,_,_,vs,e,o',g,i,h2,f,c,r⟩:=I.hok a _ h;rw[h1]at h2;cases h2;rw[hd]at c;cases c;exact⟨vs,e,o,es,h1,f,hd,r⟩
def qb7{K:Qqq}(a it)(o)(xs)(hd:o.data=.dict es U):Turn P w K tg (Itd a o xs) [it] it (λi h=>h.IsKeyIter it a i xs.length U) where
 mem:=by simp
 obj:=λi h st b hb=>by
  have e:b=it:=by simpa using hb
  subst e;obtain⟨o,e,c,d⟩:=st;exact⟨o,e,λv z=>by rw[d]at z; cases z⟩
 keep:=λi h h' st k=>st.at λo e=>k it (by simp) o e
 item:=by
  intro X x r y hc i pins s σ H E I hf st hg;subst x r y;obtain⟨A,hi⟩:=hg;obtain⟨vs,m,R⟩:=qan I A hd;obtain⟨N,G,f2,F,D,C⟩:=hf it (by simp);have n:=m.length;obtain⟨⟨k,u⟩,S⟩:∃q,vs[i]?=Y q:=⟨vs[i]'(by lia),by simp⟩
  have T:xs[i]?=Y xs[i]:=by simp
  have hk:xs[i].1=k:=by
   have f:=congrArg (λl:L Key=>l[i]?) m.keys;simp only[Qqw,S,T,oMs,Option.some.injEq]at f;exact f
  rw[n]at st;refine wpAny_pyNext_dict_item st R S λp h' g st' W=>?_;have I1:=I.turned (t':=s.toks) (λb o hb e=>(W.2 b hb).trans e) N G F D C;obtain⟨o1,e,c,d⟩:=id st';rw[<- n]at st';refine⟨p,rfl,qew e c d (by decide) ⟨kV xs[i].1,H,I1,?_,⟨rfl,xs[i],T,rfl⟩,st',λb hb=>(hf b hb).1⟩⟩;rw[hk];rcases qzi g with⟨j,t,f,Q⟩|⟨z,t,f,Q⟩
  ·subst f Q; exact⟨t,rfl⟩
  ·subst f Q; exact⟨t,rfl⟩
 done:=by
  intro X x r y hc i pins s σ H E I hf st hg;subst x r y;obtain⟨A,hi⟩:=hg;obtain⟨vs,m,R⟩:=qan I A hd;obtain⟨N,G,f2,F,D,C⟩:=hf it (by simp);have n:=m.length;rw[n]at st;exact wpAny_pyNext_dict_end (I.ok.hd hc) st R (Qzn.mpr (by lia)) λh' eb=>⟨rfl,I.turned (λb o hb e=>eb b o hb e) N G F D C⟩
 self:=λ_ _ _ _ _ st h=>wpAny_pyIter_keyiter st h
noncomputable def iDict(X:Cx)(tl:TE):TI:=λσ H R=>tl σ H λx H1=>∃a xs,x=.ref a/\H1 a=Y (.dK xs)/\∀o,NoFz X a->R (Itd a o xs) (upd H1 a (.frz o (.dK xs)))
def ql8(m:PE X l tl):PI X tg l (iDict X tl):=by
 intro pins s σ H R I h;refine thn (m pins s σ H _ I h) λv c ⟨x,H1,g,j,a,xs,e,d,q⟩=>?_;subst e;cases j;obtain⟨o,i,f⟩:=qny (.k _) g d;obtain⟨_,lo,vs,k,o',es,p,h2,n,hd,r⟩:=g.hok a _ d;rw[i]at h2;cases h2;have hn:=k.length;refine wpAny_pyIter_dict lo ⟨o,es,i,n,hd,r⟩ ?_;refine⟨c.heap.objs.size,[c.heap.objs.size],_,_,_,rfl,f.kept λb o e=>Qqx _ e,qb7 a _ o xs hd,⟨_,Qql _ rfl,rfl,by rw[hn]; rfl⟩,λb hb=>?_,q o (qmo (.k _) g d)⟩;have e:b=c.heap.objs.size:=by simpa using hb
 subst e;exact f.fpOk (Qqv _) (f.hok.fresh (Qqv _))
noncomputable def thawE(X:Cx)(Dn:Ends):Ends:=
 ⟨λσ H=>∃a o xs,NoFz X a/\H a=Y (.frz o (.dK xs))/\Dn.nx σ (upd H a (.dK xs)),λv H=>∃a o xs,NoFz X a/\H a=Y (.frz o (.dK xs))/\Dn.rt v (upd H a (.dK xs)),λ_ _=>False,λ_ _=>False⟩
def ql0(i:PassesOwn ?d X.A X.env X.xe)(hc:X.calm=O)(j:PE X l tl)(k:PG X tg g)(hb:PSs X body tb)(hs:∀x,foldedSetIterable l X.env x=pure x):
  PS X (.For tg l body [] pos) (λf σ H=>tFor (iDict X tl) g tb (thawE X f) σ H):=by
 intro pins s σ H f I h;refine thn (qh6 i hc (ql8 j) k hb hs pins s σ H (thawE X f) I h) λm n q=>?_
 cases m with
 |next=>
  obtain⟨b,H1,d,a,o,xs,c,e,q⟩:=q;exact⟨b,_,qal d c e,q⟩
 |ret u=>
  obtain⟨v,b,H1,d,r,a,o,xs,c,e,q⟩:=q;exact⟨v,b,_,qal d c e,r,q⟩
 |brk=>obtain⟨_,_,_,z⟩:=q; exact z.elim
 |cont=>obtain⟨_,_,_,z⟩:=q; exact z.elim
end
end MS
end
section
namespace MS
open PySem PySem.Spec PyProof.Rows L2
section
def qhy{k:RK}{i:Y0}(z:IsEnum s.heap (n+1) n i old)(V:k.It s.heap n l i)(P:k.Sq s.heap l xs)(T:xs[i]?=Y x)(U:∀h',IsEnumOut h' (n+1) n ((i:J)+1) x s.heap.objs.size->k.It h' n l (i+1)->IsPair h' s.heap.objs.size (.int i s.toks) x->
   (∀c o,c≠n+1->c≠n->s.heap.get? c=Y o->h'.get? c=Y o)->Q (Y (.ref s.heap.objs.size)) { s with heap:=h',toks:=s.toks+1 }):
  wpAny ?q A (pyNext (.ref (n+1))) Q E s:=by
 have N:s.TypeIs (.ref (n+1)) "enumerate":=⟨_,z,rfl⟩
 have d:=Qq4 (Qzc n);unfold pyNext;refine Qq (Q6 (Qb N F.slot_enumerate_next (Qd F.slot_enumerate_next N F.entry_enumerate_next ?_ (F.args_enumerate_next_1 _))));show wpAny _ _ (field (.ref (n+1)) 2 >>= _) _ _ _;refine Qq (Qv z rfl rfl ?_);refine Qq (qxw V P T λg1 S D c1=>?_);have r:=D _ _ d.symm z;refine Qq (Qv r rfl rfl ?_);refine Qq (Qv r rfl rfl ?_);refine Qq (wpAny_mkInt ?_);refine Qq (Qy r (by simp) λg2 q v=>?_)
 replace q:IsEnum g2 (n+1) n ((i:J)+1) old:=q
 refine Qq (Qy q (by simp) λf h u=>?_)
 replace h:IsEnum f (n+1) n ((i:J)+1) old:=h
 refine Qq (wpAny_newTuple ?_);have sz:=u.1.trans (v.1.trans c1);have t:∀c o,c≠n+1->c≠n->s.heap.get? c=Y o->f.get? c=Y o:=λc o a b e=>u.extBut _ _ a (v.extBut _ _ a (D _ _ b e));have R:=S.on λo e=>u.extBut _ _ d (v.extBut _ _ d e);have y:=Qqf h;have p:IsEnum (f.push { cls:=.type "tuple",data:=.seq #[.int i s.toks,x] }) (n+1) n ((i:J)+1) old:=Qqx _ h;refine Qq ?_;unfold Builtin.SmallTypes.ownedTupleIsFree;refine Qq (Qv p rfl rfl (Qx ?_));simp only[if_true];refine Qq (Zx ?_);refine Qq (Qv p rfl rfl ?_);refine Qq (Qy p (by simp) λX m I=>?_)
 replace m:IsEnum X (n+1) n ((i:J)+1) x:=m
 refine Qq ?_;unfold Builtin.SmallTypes.ownedTupleHandOut;refine Qq (Qy m (by simp) λW j H=>?_)
 replace j:IsEnumOut W (n+1) n ((i:J)+1) x f.objs.size:=j
 refine Qy j (by simp) λC g G=>?_
 replace g:IsEnumOut C (n+1) n ((i:J)+1) x f.objs.size:=g
 have up:∀c o,c≠n+1->f.get? c=Y o->C.get? c=Y o:=λc o a e=>G.extBut _ _ a (H.extBut _ _ a (I.extBut _ _ a (Qqx _ e)));have K:=G.extBut _ _ (Qxb y) (H.extBut _ _ (Qxb y) (I.extBut _ _ (Qxb y) (Qql _ rfl)));rw[sz]at g K;refine Qq (wpAny_letGo (Qx ⟨_,rfl,Qx ?_⟩));rw[sz];exact U C g (R.on λo e=>up _ o d e) K λc o a b e=>up c o a (t c o a b e)
def qei{k:RK}{i:Y0}(m:A.handled=B)(d:IsEnum s.heap (n+1) n i a)(q:k.It s.heap n l i)(h:k.Sq s.heap l xs)(j:xs[i]?=B)(p:∀h',(∀c o,c≠n->s.heap.get? c=Y o->h'.get? c=Y o)->Q B { s with heap:=h' }):wpAny ?q A (pyNext (.ref (n+1))) Q E s:=by
 have f:s.TypeIs (.ref (n+1)) "enumerate":=⟨_,d,rfl⟩
 unfold pyNext;refine Qq (Q6 (Qb f F.slot_enumerate_next (Qd F.slot_enumerate_next f F.entry_enumerate_next ?_ (F.args_enumerate_next_1 _))));show wpAny _ _ (field (.ref (n+1)) 2 >>= _) _ _ _;refine Qq (Qv d rfl rfl ?_);refine Qq (qj3 m q h j λr e g b=>?_);obtain⟨o,b,hc⟩:=b;exact Qq (Zm ⟨o,b,hc⟩ isSubtype_stop (Qx (p _ g)))
end
noncomputable abbrev eh1(k:RK)(h:Heap)(l:Y7):Heap:=h.push (k.itO l)
noncomputable abbrev eh2(k:RK)(h:Heap)(l:Y7):Heap:=(eh1 k h l).push { cls:=.type "enumerate",data:=.fields #[.none,.bool Y5,.ref h.objs.size,rawInt 0,.none,.none] }
def wp_two[Decidable c]{p q:Sem α}{Q:α->Qz->Prop}(b:wpAny M A p Q E s)(a:wpAny M A q Q E s):wpAny M A (if c then p else q) Q E s:=by
 split
 ·exact b
 ·exact a
def qel(k)(l)(xs):Meets (Qt.«enumerate.__new__» ⟨[.type "enumerate",.ref l],[]⟩) (λ_ R s=>k.Sq s.heap l xs/\R (.ok (.ret (.ref (eh1 k s.heap l).objs.size))) { s with heap:=eh2 k s.heap l }):=
 .of_wp λprog w A R s h=>by
  obtain⟨e,g,d,tk,os⟩:=s;obtain⟨c,h⟩:=h;have a:=sub_enumerate;have b:=c
  wp_walk using qx7 b
  refine wpAny_stack_any λz=>Qx ?_;refine wp_two ?_ ?_<;>(wp_walk using qx7 b; exact⟨_,rfl,h⟩)
def EnAt(k:RK)(n l:Y0)(i:Y0)(h:Heap):Prop:=l<n/\(∃old,IsEnum h (n+1) n i old)/\k.It h n l i
def qbu(d:k.Sq s.heap l xs)(b1:l<s.heap.objs.size)(h:∀h',EnAt k s.heap.objs.size l 0 h'->(∀c o,s.heap.get? c=Y o->h'.get? c=Y o)->Q (.ref ?G) { s with heap:=h' }):wpAny ?q A (call (.type "enumerate") [.ref l]) Q E s:=by
 refine callType_new F.called_enumerate (by decide) (F.typeCall_enumerate_1 _) (F.newCall_enumerate_1 _) (λobj=>F.args_object_init_2 obj _) F.entry_enumerate_new (qel k l xs) ⟨d,?_⟩;have b:(eh1 k s.heap l).objs.size=s.heap.objs.size+1:=Qxx ..;have a:(eh2 k s.heap l).get? (eh1 k s.heap l).objs.size=Y _:=Qql _ rfl;have f:k.It (eh2 k s.heap l) s.heap.objs.size l 0:=row_new.on λo e=>Qqx _ e;rw[b]at a;rw[b];exact⟨⟨_,a,rfl⟩,h _ ⟨b1,⟨_,a⟩,f⟩ λc o x=>Qqx _ (Qqx _ x)⟩
noncomputable def Ite(K:Qqq)(k:RK)(a:Y7):It:=
 ⟨λi H=>∃xs x,k.sq K H a xs/\xs[i]?=Y x,
  λi H v H'=>∃p x,v=.ref p/\H p=B/\H'=upd H p (.tup [.int i,x])/\∀xs,k.sq K H a xs->xs[i]?=Y x,
  λi H=>∃xs,k.sq K H a xs/\xs.length<=i⟩
noncomputable def fpE(n:Y0):L Y7:=[n+1,n]
def qb6{K:Qqq}(k)(n a):Turn P w K (.Tuple j c pos) (Ite K k a) (fpE n) (n+1) (EnAt k n a) where
 mem:=by simp[fpE]
 obj:=λi h st e F=>by
  obtain⟨b1,⟨d,f⟩,h1⟩:=st;simp only[fpE,Qqy,Qzq,or_false]at F;rcases F with rfl|rfl
  ·exact⟨_,f,λv z=>nomatch z⟩
  ·exact h1.obj
 keep:=λi h h' st q=>by
  obtain⟨b1,⟨d,f⟩,h1⟩:=st;exact⟨b1,⟨d,q _ (by simp[fpE]) _ f⟩,h1.on λo e=>q _ (by simp[fpE]) o e⟩
 item:=by
  intro X A u C hc i pins s σ H E I hf st hg;subst A u C;obtain⟨xs,x,l,ex⟩:=hg;obtain⟨b1,⟨d,f⟩,h1⟩:=st;obtain⟨Q,p,m⟩:=qqt I l;obtain⟨R,y,r⟩:=p.get ex;refine qhy f h1 m (by simpa using y) λh' V U T kp=>⟨_,rfl,?_⟩
  refine wpAny_letOwnedTupleGo_enum V λG c1 c2=>?_;have g:=c2.extBut;have lt:∀b∈fpE n,b≠s.heap.objs.size:=λb hb z=>by
   have q:b<s.heap.objs.size:=by
    simp only[fpE,Qqy,Qzq,or_false]at hb;rcases hb with rfl|rfl
    ·exact Qqf f
    ·obtain⟨o,e,_⟩:=h1.obj; exact Qqf e
   rw[z]at q;exact Qxz _ q
  have S:s.heap.objs.size≠n+1:=λz=>lt (n+1) (by simp[fpE]) z.symm;have I1:Inv X pins σ H { s with heap:=G,toks:=s.toks+1 }:=Inv.turnedL I (λb o hb e=>g _ _ (λz=>hb (by simp[fpE,z])) (kp b o (λz=>hb (by simp[fpE,z])) (λz=>hb (by simp[fpE,z])) e)) hf;have N:=I.hok.fresh (Qqv _);have W:Inv X pins σ (upd H s.heap.objs.size (.tup [.int i,x])) { s with heap:=G,toks:=s.toks+1 }:=Inv.track I1 (I.fpOk (Qqv _) N) ⟨by show 2<=sizeLine; decide,[.int i s.toks,R],.cons ⟨_,rfl⟩ (.cons r .nil),⟨_,g _ _ S T,rfl,_,rfl⟩⟩;refine⟨.ref s.heap.objs.size,upd H s.heap.objs.size (.tup [.int i,x]),W,rfl,⟨_,x,rfl,N,rfl,λzs t=>?_⟩,⟨b1,⟨_,c1⟩,U.on λo e=>g _ o (Qq4 (Qzc n)) e⟩,λb hb=>?_⟩
  ·rw[qvk I t l]; exact ex
  ·rw[qzx (lt b hb)]; exact(hf b hb).1
 done:=by
  intro X A u C hc i pins s σ H E I hf st hg;subst A u C;obtain⟨xs,l,D⟩:=hg;obtain⟨b1,⟨d,f⟩,h1⟩:=st;obtain⟨Q,p,m⟩:=qqt I l;have lx:=p.length;exact qei (I.ok.hd hc) f h1 m (by simp; lia) λh' kp=>⟨rfl,Inv.turnedL I (λb o hb e=>kp b o (λz=>hb (by simp[fpE,z])) e) hf⟩
 self:=λ_ _ _ _ _ st h=>by
  obtain⟨_,⟨d,f⟩,_⟩:=st;exact wpAny_pyIter_enum f h
noncomputable def iEnum(K:Qqq)(ta:TA):TI:=λσ H R=>ta σ H λvs H1=>∃(k:RK) (a:Y7),vs=[.ref a]/\(∃xs,k.sq K H1 a xs)/\R (Ite K k a) H1
def ql7(z:Gl X "enumerate")(y:X.mg "enumerate" = B)(A:PA X [a] j)(hs:starEach [a] X.env=[(Y5,Qw a X.env)]:=by rfl):
  PI X (.Tuple f c b) (.Call (.Name "enumerate" p) [a] [] pos) (iEnum X.K j):=by
 intro pins s σ H R I h;refine Call_ (qxs I z y boot_enumerate (PyProof.Rows.callWith_type1 (thn (A pos pins s σ H _ I h) λD g ⟨vs,H1,i,t,v⟩=>?_) hs rfl));obtain⟨k,a,e,⟨xs,u⟩,q⟩:=v;subst e
 cases t with
 |cons r n=>
  cases n;cases r;obtain⟨C,E,l⟩:=qqt i u;have la:a<g.heap.objs.size:=by
   cases k<;>(obtain⟨o,e,_⟩:=l; exact Qqf e)
  refine qbu l la λh' st kp=>?_;obtain⟨b1,⟨w,x⟩,h1⟩:=id st;refine wpAny_pyIter_enum x ?_;refine⟨g.heap.objs.size+1,fpE g.heap.objs.size,_,_,H1,rfl,i.kept kp,qb6 k _ a,st,λd hd=>?_,q⟩;have m:g.heap.objs.size<=d:=by
   simp only[fpE,Qqy,Qzq,or_false]at hd;rcases hd with rfl|rfl
   ·exact Qzl _
   ·exact Qqv _
  exact i.fpOk m (i.hok.fresh m)
def rv_next:Slot "reversed" "__next__" "reversed.__next__":=.of (owner:="reversed") (n:="__next__") (by rw[Zr,Zz]; kernel_rfl) (by decide +kernel) (by decide +kernel) (by decide +kernel) (.inl (by decide +kernel)) (by rw[Ze]; kernel_rfl)
def qct:Slot "reversed" "__iter__" "reversed.__iter__":=.of (owner:="reversed") (n:="__iter__") (by rw[Zr,Zz]; kernel_rfl) (by decide +kernel) (by decide +kernel) (by decide +kernel) (.inl (by decide +kernel)) (by rw[Ze]; kernel_rfl)
def qli:Slot "reversed" "__init__" "object.__init__":=.of (owner:="object") (n:="__init__") (by rw[Zr,Zz]; kernel_rfl) (by decide +kernel) (by decide +kernel) (by decide +kernel) (.inl (by decide +kernel)) (by rw[Ze]; kernel_rfl)
def qy3:entryFor table "reversed.__next__" = Y Qt.«reversed.__next__»:=entryFor_of_tree (by kernel_rfl)
def qf9:entryFor table "reversed.__iter__" = Y Qt.«dict_keyiterator.__iter__»:=entryFor_alias (id':="dict_keyiterator.__iter__") (by kernel_rfl) (by first|rfl|decide +kernel) (by decide +kernel) (by kernel_rfl)
def qy4(a):argsOk "reversed.__next__" ⟨[a],[]⟩:=by unfold argsOk; kernel_rfl
def qgz(a):argsOk "reversed.__iter__" ⟨[a],[]⟩:=by unfold argsOk; kernel_rfl
def qcu:TypeCalled "reversed" "reversed.__new__" "object.__init__":=⟨by decide +kernel,by decide +kernel,⟨_,_,F.mro_reversed⟩,F.made_reversed,by decide +kernel,F.sub_reversed_self,qli⟩
def qb8:typeLookup (.type "tuple") "__reversed__" = pure none:=by rw[Zr,Zz]; kernel_rfl
abbrev IsRv(h:Heap)(it a:Y7)(i:J):Prop:=h.get? it=Y { cls:=.type "reversed",data:=.fields #[.ref a,rawInt i] }
def qgk(a)(xs)(i:(xs.size:J)<2 ^ 63):Meets (Qt.«reversed.__new__» ⟨[.type "reversed",.ref a],[]⟩) (λ_ R s=>s.heap.IsTuple a xs/\∀t,R (.ok (.ret (.ref s.heap.objs.size))) { s with heap:=s.heap.push { cls:=.type "reversed",data:=.fields #[.ref a,rawInt ((xs.size:J) - 1)] },toks:=t }):=
 .of_wp λprog w A R s h=>by
  obtain⟨j,g,d,tk,os⟩:=s;obtain⟨f,h⟩:=h;have b:Shared.TypeIs ⟨j,g,d,tk,os⟩ (.ref a) "tuple":=by obtain⟨o,e,c,_⟩:=f; exact⟨o,e,c⟩
  unfold Qt.«reversed.__new__»;refine Qq (Zw (newClass_reversed _) ?_)
  try dsimp only
  refine Qq (Zw (by first|rfl|kernel_rfl) ?_);refine Qq (Zw (by first|rfl|kernel_rfl) ?_)
  try dsimp only
  refine Qq (Za b qb8 ?_)
  try dsimp only
  refine Qq ?_;refine Qq (Zm b PySem.F.sub_tuple_dict ?_);refine Qq (Za b PySem.F.slot_tuple_getitem.lookup ?_);refine Zw (by rfl) ?_;refine Qq (PyProof.Rows.len_tuple f i ?_);refine Qq (Zw (by rfl) ?_)
  wp_walk
  exact⟨_,rfl,h _⟩
def RvAt(n l:Y0)(m i:Y0)(h:Heap):Prop:=l<n/\IsRv h n l ((m:J) - 1 - i)
section
def qe3(a:s.heap.IsTuple l xs)(b:(xs.size:J)<2 ^ 63)(b1:l<s.heap.objs.size)(h:∀h' t,RvAt s.heap.objs.size l xs.size 0 h'->(∀c o,s.heap.get? c=Y o->h'.get? c=Y o)->Q (.ref s.heap.objs.size) { s with heap:=h',toks:=t }):wpAny ?q A (call (.type "reversed") [.ref l]) Q E s:=by
 refine callType_new qcu (by decide) (F.typeCall_reversed_1 _) (F.newCall_reversed_1 _) (λobj=>F.args_object_init_2 obj _) F.entry_reversed_new (qgk l xs b) ⟨a,λt=>?_⟩;have g:IsRv (s.heap.push { cls:=.type "reversed",data:=.fields #[.ref l,rawInt ((xs.size:J) - 1)] }) s.heap.objs.size l ((xs.size:J) - 1):=Qql _ rfl;exact⟨⟨_,g,rfl⟩,h _ t ⟨b1,by rw[show((xs.size:J) - 1 - ((0:Y0):J))=(xs.size:J) - 1 by lia]; exact g⟩ λc o x=>Qqx _ x⟩
def qlo{i:Y0}(a:IsRv s.heap n l i)(b:s.heap.IsTuple l xs)(k:(xs.size:J)<2 ^ 63)(d:xs[i]?=Y x)(j:∀h' t,IsRv h' n l ((i:J) - 1)->(∀c o,c≠n->s.heap.get? c=Y o->h'.get? c=Y o)->Q (Y x) { s with heap:=h',toks:=t }):wpAny ?q A (pyNext (.ref n)) Q E s:=by
 have f:s.TypeIs (.ref n) "reversed":=⟨_,a,rfl⟩
 have h:s.TypeIs (.ref l) "tuple":=by obtain⟨o,e,c,_⟩:=b; exact⟨o,e,c⟩
 have hi:=(Qzh.mp d).1;unfold pyNext;refine Qq (Q6 (Qb f rv_next (Qd rv_next f qy3 ?_ (qy4 _))));show wpAny _ _ (field (.ref n) 0 >>= _) _ _ _;refine Qq (Qv a rfl rfl ?_);refine Qq (Qv a rfl rfl ?_);show wpAny _ _ (if (i:J)<0 then _ else _) _ _ _;rw[Z7 (by lia)];refine Qq (Za h PySem.F.slot_tuple_getitem.lookup ?_);refine Qq (wpAny_mkInt ?_);refine Qq (Q6 (getItem_tuple b (by lia) (by lia) (seqIndex_of (by lia) (by lia)) d ?_));refine Qq (Qv a rfl rfl ?_);refine Qq (Qy a (by simp) λg z u=>?_);exact Qx ⟨_,rfl,Qx (j g _ z u.extBut)⟩
def qgj(d:A.handled=B)(b:IsRv s.heap n l (-1))(j:∀h',(∀c o,c≠n->s.heap.get? c=Y o->h'.get? c=Y o)->Q B { s with heap:=h' }):wpAny ?q A (pyNext (.ref n)) Q E s:=by
 have f:s.TypeIs (.ref n) "reversed":=⟨_,b,rfl⟩
 unfold pyNext;refine Qq (Q6 (Qb f rv_next (Qd rv_next f qy3 ?_ (qy4 _))));show wpAny _ _ (field (.ref n) 0 >>= _) _ _ _;refine Qq (Qv b rfl rfl ?_);refine Qq (Qv b rfl rfl ?_);show wpAny _ _ (if (-1:J)<0 then _ else _) _ _ _;rw[Z8 (by decide)];refine Qq (Zx ?_);refine Qq ?_;refine Qq (Qy b (by simp) λp g i=>?_);refine Qy g (by simp) λm k h=>?_;refine Qq ?_;refine Qq ?_; simp only[ newTuple];refine Qq (Qi ?_ (by size_fits)); refine Qq (Zw (by first|rfl|(simp only[firstArgMember]; rfl)) ?_);refine Qi ?_ (by size_fits); simp only[raiseNew];refine Qq (wpAny_handled ?_)
 first|rw[show A.in1.handled=B from d]|(rw[d])
 refine Qq (Qx (wpAny_throw ?_));refine Qq (Zm ⟨_,Qql _ rfl,rfl⟩ isSubtype_stop ?_);exact Qx (j _ λc o a e=>Qqx _ (Qqx _ (h.extBut _ _ a (i.extBut _ _ a e))))
end
noncomputable def Itv(K:Qqq)(a:Y7)(m:Y0):It:=
 ⟨λi H=>∃xs x,SqT K H a xs/\xs.length=m/\i<m/\xs[m - 1 - i]?=Y x,
  λi H v H'=>H'=H/\∀xs,SqT K H a xs->xs[m - 1 - i]?=Y v,
  λi H=>m<=i⟩
def qfn{K:Qqq}(n a m:Y0)(hz:(m:J)<2 ^ 63):Turn P w K tg (Itv K a m) [n] n (λi h=>i<=m/\RvAt n a m i h) where
 mem:=by simp
 obj:=λi h st e c=>by
  simp only[Qqb]at c;subst c;exact⟨_,st.2.2,λv z=>nomatch z⟩
 keep:=λi h h' st q=>⟨st.1,st.2.1,q _ (by simp) _ st.2.2⟩
 item:=by
  intro X l f p hc i pins s σ H E I hf st hg;subst l f p;obtain⟨xs,x,F,el,lt,ex⟩:=hg;obtain⟨R,b1,c⟩:=st;obtain⟨V,D,Q⟩:=qqt (k:=.tup) I F;obtain⟨N,g,d⟩:=D.get ex;have W:=D.length;obtain⟨C,A,T,y,u,r⟩:=hf n (by simp);rw[show(m:J) - 1 - (i:J)=((m - 1 - i:Y0):J) by lia]at c;refine qlo c Q (by simp; lia) (by simpa using g) λh' t z kp=>⟨N,rfl,?_⟩
  have G:IsRv h' n a ((m:J) - 1 - ((i+1:Y0):J)):=by
   rw[show(m:J) - 1 - ((i+1:Y0):J)=((m - 1 - i:Y0):J) - 1 by lia];exact z
  have U:Inv X pins σ H { s with heap:=h',toks:=t }:=I.turned (λb o hb e=>kp b o hb e) C A y u r;refine qew z rfl rfl (by decide) ⟨x,H,U,d,⟨rfl,λys S=>by rw[qvk (k:=.tup) I S F]; exact ex⟩,⟨by lia,b1,G⟩,λb hb=>(hf b hb).1⟩
 done:=by
  intro X l f p hc i pins s σ H E I hf st hg;subst l f p;obtain⟨R,b1,c⟩:=st;have hi:m<=i:=hg;obtain⟨C,A,T,y,u,r⟩:=hf n (by simp);rw[show(m:J) - 1 - (i:J)=-1 by lia]at c;exact qgj (I.ok.hd hc) c λh' kp=>⟨rfl,I.turned (λb o hb e=>kp b o hb e) C A y u r⟩
 self:=λ_ _ s _ _ st h=>by
  have j:s.TypeIs (.ref n) "reversed":=⟨_,st.2.2,rfl⟩
  refine wpAny_pyIter_slot j qct (Qd qct j qf9 ?_ (qgz _));exact Qx ⟨_,rfl,"reversed",_,j,rv_next.lookup,h⟩
noncomputable def iRev(K:Qqq)(ta:TA):TI:=λσ H R=>ta σ H λvs H1=>∃(a:Y7) (xs:L V),vs=[.ref a]/\SqT K H1 a xs/\R (Itv K a xs.length) H1
def pi_rev(z:Gl X "reversed")(y:X.mg "reversed" = B)(A:PA X [a] g)(hs:starEach [a] X.env=[(Y5,Qw a X.env)]:=by rfl):
  PI X tg (.Call (.Name "reversed" p) [a] [] pos) (iRev X.K g):=by
 intro pins s σ H R I h;refine Call_ (qxs I z y boot_reversed (PyProof.Rows.callWith_type1 (thn (A pos pins s σ H _ I h) λC b ⟨vs,H1,c,m,u⟩=>?_) hs rfl));obtain⟨a,xs,e,n,q⟩:=u;subst e
 cases m with
 |cons r l=>
  cases l;cases r;obtain⟨f,k,i,x⟩:=c.tuple n;have la:a<b.heap.objs.size:=by obtain⟨o,e,_⟩:=i; exact Qqf e
  have v:=k.length;have j:(f.toArray.size:J)<2 ^ 63:=by simp; unfold sizeLine at x; lia
  refine qe3 (i) j la λh' t st kp=>?_;have st':RvAt b.heap.objs.size a xs.length 0 h':=by rw[v]; simpa using st
  have T:=qfn (P:=X.prog) (w:=X.w) (K:=X.K) (tg:=tg) b.heap.objs.size a xs.length (by simp at j; lia);refine T.self _ 0 { b with heap:=h',toks:=t } _ _ ⟨Qza _,st'⟩ ?_;refine⟨b.heap.objs.size,[b.heap.objs.size],_,_,H1,rfl,c.kept kp,T,⟨Qza _,st'⟩,λd hd=>?_,q⟩;simp only[Qqb]at hd;subst hd;exact c.fpOk (Qqv _) (c.hok.fresh (Qqv _))
end MS
end
section
namespace ST
open PySem SetTable
noncomputable def adv(m:Y0)(p:Probe):Probe:=
 if p.more > 0 then { p with j:=p.j+1,more:=p.more - 1 } else
 { p with j:=(leap m p.i p.perturb).1,more:=runEnd m (leap m p.i p.perturb).1 - (leap m p.i p.perturb).1,i:=(leap m p.i p.perturb).1,perturb:=(leap m p.i p.perturb).2 }
noncomputable def qzr(m:Y0)(h:J):Probe:={ j:=bits h % (m+1),more:=runEnd m (bits h % (m+1)) - bits h % (m+1),i:=bits h % (m+1),perturb:=bits h,dummy:=B }
noncomputable def stp(m:Y0):Y0->Probe->Probe
 |0,p=>p
 |n+1,p=>stp m n (adv m p)
theorem qqe(m):∀(a b:Y0) (p:Probe),stp m (a+b) p=stp m b (stp m a p)
 |0,b,p=>by rw[Qx1]; rfl
 |a+1,b,p=>by rw[Nat.add_right_comm]; exact qqe m a b (adv m p)
def qf4(m n)(p):stp m (n+1) p=adv m (stp m n p):=by rw[qqe]; rfl
noncomputable def runP(m i pt:Y0)(d:Y2 Y0):Probe:={ j:=i,more:=runEnd m i - i,i:=i,perturb:=pt,dummy:=d }
theorem qkh(m):∀(k:Y0) (p:Probe),p.more=k->stp m (k+1) p=runP m (leap m p.i p.perturb).1 (leap m p.i p.perturb).2 p.dummy
 |0,p,h=>by
  show adv m p=_;unfold adv;rw[Z7 (by lia)]; rfl
 |k+1,p,h=>by
  show stp m (k+1) (adv m p)=_;have e:adv m p={ p with j:=p.j+1,more:=p.more - 1 }:=by unfold adv; rw[Z8 (by lia)]
  rw[e,qkh m k _ (by show p.more - 1=k; lia)]
noncomputable def lp(m:Y0):Y0->Y0×Y0->Y0×Y0
 |0,q=>q
 |n+1,q=>lp m n (leap m q.1 q.2)
def more_le(m i):runEnd m i - i<=9:=by unfold runEnd; split<;>lia
theorem qy5(m)(d):∀(n i pt:Y0),∃N,N<=10*n/\stp m N (runP m i pt d)=runP m (lp m n (i,pt)).1 (lp m n (i,pt)).2 d
 |0,i,pt=>⟨0,Qqv _,rfl⟩
 |n+1,i,pt=>by
  obtain⟨N,a,e⟩:=qy5 m d n (leap m i pt).1 (leap m i pt).2;refine⟨(runP m i pt d).more+1+N,?_,?_⟩
  ·have:=more_le m i;show runEnd m i - i+1+N<=_
   lia
  ·rw[qqe,qkh m _ _ rfl];exact e
theorem lp_pt(m):∀(n i pt:Y0),(lp m n (i,pt)).2=pt / 32 ^ n
 |0,i,pt=>by simp[lp]
 |n+1,i,pt=>by
  show(lp m n (leap m i pt)).2=_;have:leap m i pt=((leap m i pt).1,pt / 32):=rfl;rw[this,lp_pt m n,Nat.div_div_eq_div_mul,Nat.pow_succ,Nat.mul_comm]
theorem qix(m):∀(a b:Y0) (q:Y0×Y0),lp m (a+b) q=lp m b (lp m a q)
 |0,b,q=>by rw[Qx1]; rfl
 |a+1,b,q=>by rw[Nat.add_right_comm]; exact qix m a b _
theorem lp_le(m):∀(n i pt:Y0),i<=m->(lp m n (i,pt)).1<=m
 |0,i,pt,h=>h
 |n+1,i,pt,h=>by
  exact lp_le m n _ _ (Qxy (Qji _ (Qx8 _)))
noncomputable def lcg(m:Y0):Y0->Y0->Y0
 |0,i=>i
 |n+1,i=>lcg m n ((i*5+1) % (m+1))
theorem qdn(m):∀(n i:Y0),(lp m n (i,0)).1=lcg m n i
 |0,i=>rfl
 |n+1,i=>by
  show(lp m n (leap m i 0)).1=_;have:leap m i 0=((i*5+1) % (m+1),0):=by simp[leap]
  rw[this,qdn m n]; rfl
def onto7:∀i,i<8->∀e,e<8->∃r,r<8/\lcg 7 r i=e:=by decide +kernel
def onto31:∀i,i<32->∀e,e<32->∃r,r<32/\lcg 31 r i=e:=by decide +kernel
def onto(a:m=7\/m=31)(hi:i<=m)(b:e<=m):∃r,r<=m/\lcg m r i=e:=by
 rcases a with rfl|rfl
 ·obtain⟨r,h,q⟩:=onto7 i (by lia) e (by lia); exact⟨r,by lia,q⟩
 ·obtain⟨r,h,q⟩:=onto31 i (by lia) e (by lia); exact⟨r,by lia,q⟩
def qy6(g:m=7\/m=31)(d)(hi:i<=m)(f:pt<2 ^ 64)(h:e<=m):∃n N,n<=m+13/\N<=10*n/\stp m N (runP m i pt d)=runP m e (lp m n (i,pt)).2 d/\(lp m n (i,pt)).1=e:=by
 have c:(lp m 13 (i,pt)).2=0:=by
  rw[lp_pt]; exact Nat.div_eq_of_lt (Qq6 f (by decide))
 obtain⟨r,hr,k⟩:=onto g (lp_le m 13 i pt hi) h;have b:(lp m (13+r) (i,pt)).1=e:=by
  rw[qix];have:lp m 13 (i,pt)=((lp m 13 (i,pt)).1,0):=by rw[<- c]
  rw[this,qdn]; exact k
 obtain⟨N,j,a⟩:=qy5 m d (13+r) i pt;rw[b]at a;exact⟨13+r,N,by lia,j,a,b⟩
structure Okp (m:Y0) (p:Probe):Prop where
 i:p.i<=m
 pt:p.perturb<2 ^ 64
 more:p.more<=9
 dm:p.dummy=B
def Okp.start(h):Okp m (qzr m h):=by
 refine⟨Qxy (Qji _ (Qx8 _)),?_,more_le _ _,rfl⟩;show bits h<2 ^ 64;unfold bits
 lia
def Okp.next(h:Okp m p):Okp m (adv m p):=by
 unfold adv
 split
 ·exact⟨h.i,h.pt,by have:=h.more; show p.more - 1<=9; lia,h.dm⟩
 ·refine⟨by unfold leap; exact Qxy (Qji _ (Qx8 _)),?_,more_le _ _,h.dm⟩;exact Nat.lt_of_le_of_lt (Nat.div_le_self _ _) h.pt
theorem Okp.stp:∀(n:Y0){p:Probe},Okp m p->Okp m (stp m n p)
 |0,_,h=>h
 |n+1,_,h=>Okp.stp n h.next
def hits(a:m=7\/m=31)(h:Okp m p)(b:e<=m):∃N,N<10*turns m/\(stp m N p).j=e:=by
 have h1:=(h.stp (p.more+1))
 rw[qkh m _ p rfl]at h1;obtain⟨n,N,hn,d,c,_⟩:=qy6 a p.dummy h1.i h1.pt b;refine⟨p.more+1+N,?_,?_⟩
 ·have:=h.more;unfold turns; lia
 ·rw[qqe,qkh m _ p rfl];exact congrArg Probe.j c
def Up(xs:Array Y0):Prop:=∀(i k a b:Y0),i<k->xs[i]?=Y a->xs[k]?=Y b->a<b
theorem qvm(hs:Up xs):∀(b lo hi:Y0),hi<=xs.size->lo<=hi->hi - lo<=b->(∀(i a:Y0),i<lo->xs[i]?=Y a->a<j)->(∀(i a:Y0),hi<=i->xs[i]?=Y a->j<=a)->
  (∀(i a:Y0),i<below.go xs j b lo hi->xs[i]?=Y a->a<j)/\(∀(i a:Y0),below.go xs j b lo hi<=i->xs[i]?=Y a->j<=a)/\below.go xs j b lo hi<=xs.size
 |0,lo,hi,h1,h2,m,g,f=>by
  have:lo=hi:=by lia
  subst this;exact⟨g,f,h1⟩
 |b+1,lo,hi,h1,h2,m,g,f=>by
  unfold below.go
  by_cases d:lo<hi
  ·rw[Z8 d];have l:(lo+hi) / 2<xs.size:=by lia
   have e:=Qq9 l;have n:xs.getD ((lo+hi) / 2) j=xs[(lo+hi) / 2]:=by rw[Qz8,e]; rfl
   simp only[n]
   split
   ·rename_i hc;refine qvm hs b _ _ h1 (by lia) (by lia) (λi a k c=>?_) f;rcases Qxq i ((lo+hi) / 2) with h|h
    ·exact Nat.lt_trans (hs i _ a _ h c e) hc
    ·have:i=(lo+hi) / 2:=by lia
     subst this;rw[e]at c; cases c; exact hc
   ·rename_i hc;refine qvm hs b _ _ (by lia) (by lia) (by lia) g (λi a k c=>?_);rcases Qxq ((lo+hi) / 2) i with h|h
    ·have:=hs _ i _ a h e c; lia
    ·have:i=(lo+hi) / 2:=by lia
     subst this;rw[e]at c; cases c; lia
  ·rw[Z7 d];have:lo=hi:=by lia
   subst this;exact⟨g,f,h1⟩
def qxh(hs:Up xs):(∀(i a:Y0),i<below xs j->xs[i]?=Y a->a<j)/\(∀(i a:Y0),below xs j<=i->xs[i]?=Y a->j<=a)/\below xs j<=xs.size:=
 qvm hs xs.size 0 xs.size (Qqv _) (Qza _) (by lia) (λi a h=>by lia) λi a h e=>by
  have:=(Qzh.mp e).1; lia
def below_at(hs:Up xs)(h:xs[i]?=Y j):below xs j=i:=by
 obtain⟨b1,b2,b3⟩:=qxh hs;rcases Qjj (below xs j) i with h1|h1|h1
 ·have hb:=Nat.lt_trans h1 (Qzh.mp h).1;have e:=Qq9 hb;have:=b2 _ _ (Qqv _) e;have:=hs _ _ _ _ h1 e h
  lia
 ·exact h1
 ·have:=b1 _ _ h1 h; lia
structure Tb (t:Qa):Prop where
 mask:t.mask=7\/t.mask=31
 dum:t.dummies=#[]
 up:Up t.place
 le:∀(i j:Y0),t.place[i]?=Y j->j<=t.mask
 few:t.place.size<=t.mask
def Occ(t:Qa)(j:Y0):Prop:=∃i:Y0,t.place[i]?=Y j
def qje(T:Tb t)(h:t.place[i]?=Y j):t.slot j=.live i:=by
 unfold slot;simp only[below_at T.up h,h,beq_self_eq_true,if_true]
def qa9(T:Tb t)(h:¬ Occ t j):t.slot j=.empty:=by
 unfold slot;have:(t.place[below t.place j]?==Y j)=false:=by
  cases e:t.place[below t.place j]?==Y j with
  |false=>rfl
  |true=>exact absurd ⟨_,beq_iff_eq.mp e⟩ h
 have hd:has t.dummies j=false:=by rw[T.dum]; unfold has; simp
 simp[this,hd]
theorem qkt:∀(l:L Y0) (lo:Y0),l.Pairwise (· < ·)->(∀a∈l,lo<=a)->(∀e,lo<=e->e<=m->e∈l)->lo<=m+1->m+1<=lo+l.length
 |[],lo,_,_,c,f=>by
  rcases Qxq m lo with h|h
  ·simp; lia
  ·exact absurd (c lo (Qqv _) h) (by simp)
 |a::l,lo,h1,h2,c,f=>by
  rcases Qxq m lo with h|h
  ·lia
  ·obtain⟨p1,p2⟩:=Qze.mp h1;have d:a=lo:=by
    rcases Qqy.mp (c lo (Qqv _) h) with e|e
    ·exact e.symm
    ·have:=p1 lo e;have:=h2 a Qq3
     lia
   subst d
   have:=qkt l (a+1) p2 (λb hb=>p1 b hb) (λe i g=>by
    rcases Qqy.mp (c e (by lia) g) with q|q
    ·lia
    ·exact q) (by lia)
   simp only[Qqg]
   lia
def Up.pairwise(h:Up xs):xs.toList.Pairwise (· < ·):=by
 rw[Qxg];intro i j hi hj a;exact h i j _ _ a (by rw[<- Qq1,Qqh hi]) (by rw[<- Qq1,Qqh hj])
def some_free(T:Tb t):∃e,e<=t.mask/\¬ Occ t e:=by
 apply Classical.byContradiction;intro hn;have all:=λe b=>Classical.byContradiction λhc=>hn ⟨e,b,hc⟩
 have:=qkt t.place.toList 0 T.up.pairwise (λa _=>Qza _) (λe _ b=>by
  obtain⟨i,hi⟩:=all e b
  exact Qqe (by rw[Qq1]; exact hi)) (Qza _)
 have:=T.few;rw[Qzu]at *
 lia
theorem qev(T:Tb t):∀(b:Y0) (p:Probe) (N:Y0),p.dummy=B->N<b->¬ Occ t (stp t.mask N p).j->
  ∃n,(∀m,m<n->∃i:Y0,t.place[i]?=Y (stp t.mask m p).j/\a i≠h)/\
   ((¬ Occ t (stp t.mask n p).j/\probe.go t a h b p=Y (.empty (stp t.mask n p).j B))\/
    (∃i:Y0,t.place[i]?=Y (stp t.mask n p).j/\a i=h/\probe.go t a h b p=Y (.candidate (stp t.mask n p).j i (stp t.mask (n+1) p))))
 |0,p,N,_,l,_=>by lia
 |b+1,p,N,hd,l,g=>by
  by_cases d:Occ t p.j
  ·obtain⟨i,hi⟩:=d
   by_cases c:a i=h
   ·refine⟨0,λm f=>by lia,.inr ⟨i,hi,c,?_⟩⟩;unfold probe.go;rw[qje T hi];simp only[c,beq_self_eq_true]
    rfl
   ·cases N with
    |zero=>exact absurd ⟨i,hi⟩ g
    |succ N=>
     have e:(adv t.mask p).dummy=none:=by unfold adv; split<;>exact hd
     obtain⟨n,k,j⟩:=qev T b (adv t.mask p) N e (by lia) g;have o:probe.go t a h (b+1) p=probe.go t a h b (adv t.mask p):=by
      conv=>lhs; unfold probe.go
      rw[qje T hi];have:(a i==h)=false:=by simpa using c
      simp only[this,if_false]
      rfl
     refine⟨n+1,λm f=>?_,?_⟩
     ·cases m with
      |zero=>exact⟨i,hi,c⟩
      |succ m=>exact k m (by lia)
     ·rw[o];exact j
  ·refine⟨0,λm f=>by lia,.inl ⟨d,?_⟩⟩;unfold probe.go;rw[qa9 T d];rw[hd]; rfl
def qbv(T:Tb t)(b:Okp t.mask p):
  ∃n,(∀m,m<n->∃i:Y0,t.place[i]?=Y (stp t.mask m p).j/\a i≠h)/\
   ((¬ Occ t (stp t.mask n p).j/\t.probe a h p=Y (.empty (stp t.mask n p).j B))\/
    (∃i:Y0,t.place[i]?=Y (stp t.mask n p).j/\a i=h/\t.probe a h p=Y (.candidate (stp t.mask n p).j i (stp t.mask (n+1) p)))):=by
 obtain⟨e,c,hf⟩:=some_free T;obtain⟨N,d,f⟩:=hits T.mask b c;exact qev T _ p N b.dm d (by rw[f]; exact hf)
section
def qqw(xs:Array α)(p)(x)(b:p<=xs.size)(i):(insertAt xs p x)[i]?=if i<p then xs[i]? else if i=p then Y x else xs[i - 1]?:=by
 unfold insertAt;rw[Array.getElem?_append,Array.getElem?_push,Qkk,Qkk];simp only[Array.size_push,Array.size_extract];have e:min p xs.size=p:=by lia
 simp only[e,Nat.sub_zero,Qx1]
 by_cases h1:i<p
 ·rw[Z8 (by lia),Z7 (by lia),Z8 h1,Z8 h1]
 ·by_cases h2:i=p
  ·subst h2;rw[Z8 (by lia),Z8 rfl,Z7 h1,Z8 rfl]
  ·rw[Z7 (by lia),Z7 h1,Z7 h2]
   by_cases a:i - (p+1)<min xs.size xs.size - p
   ·rw[Z8 a]; congr 1; lia
   ·rw[Z7 a];exact(Qkv (by lia)).symm
def qjz(xs:Array α)(p)(x)(a:p<=xs.size):(insertAt xs p x).size=xs.size+1:=by
 unfold insertAt;simp only[Qj2,Array.size_push,Array.size_extract]
 lia
def qna(b:p<=xs.size):y∈(insertAt xs p x).toList↔y∈xs.toList\/y=x:=by
 unfold insertAt;simp only[Array.toList_append,Array.toList_push,Array.toList_extract,Qqi,Qqb,List.extract_eq_drop_take,Nat.sub_zero,List.drop_zero];have e:xs.toList.take p++xs.toList.drop p=xs.toList:=Qxe p _;have a:(xs.toList.drop p).take (xs.size - p)=xs.toList.drop p:=Qxt (by simp);rw[a]
 conv=>rhs; rw[<- e,Qqi]
 constructor
 ·rintro ((h|h)|h)
  ·exact .inl (.inl h)
  ·exact .inr h
  ·exact .inl (.inr h)
 ·rintro ((h|h)|h)
  ·exact .inl (.inl h)
  ·exact .inr h
  ·exact .inl (.inr h)
end
def Reach(t:Qa)(h:J)(j:Y0):Prop:=∃n,(stp t.mask n (qzr t.mask h)).j=j/\∀m,m<n->Occ t (stp t.mask m (qzr t.mask h)).j
structure SI {α:Type}(t:Qa) (es:Array (J×α)):Prop where
 tb:Tb t
 sz:t.place.size=es.size
 reach:∀(i j:Y0) (e:J×α),t.place[i]?=Y j->es[i]?=Y e->Reach t e.1 j
def qc3(T:Tb t)(j):t.put j=({ t with place:=insertAt t.place (below t.place j) j },below t.place j):=by
 unfold put;have hd:has t.dummies j=false:=by rw[T.dum]; unfold has; simp
 simp only[hd,Qzd,if_false]
def put_ok{es:Array (J×α)}(I:SI t es){x:α}(hj:j<=t.mask)(hf:¬ Occ t j)(hr:Reach t h j)(hs:es.size+1<=t.mask):
  SI (t.put j).1 (insertAt es (t.put j).2 (h,x)):=by
 obtain⟨b1,b2,b3⟩:=qxh I.tb.up;have l:below t.place j<=es.size:=by rw[<- I.sz]; exact b3
 rw[qc3 I.tb];have s:∀j',Occ t j'->Occ { t with place:=insertAt t.place (below t.place j) j } j':=λj' ⟨i,hi⟩=>by
  by_cases h1:i<below t.place j
  ·exact⟨i,by rw[qqw _ _ _ b3,Z8 h1]; exact hi⟩
  ·exact⟨i+1,by rw[qqw _ _ _ b3,Z7 (by lia),Z7 (by lia)]; exact hi⟩
 have o:∀h' j',Reach t h' j'->Reach { t with place:=insertAt t.place (below t.place j) j } h' j':=λh' j' ⟨n,e,q⟩=>⟨n,e,λm u=>s _ (q m u)⟩
 refine⟨⟨I.tb.mask,I.tb.dum,?_,?_,?_⟩,?_,?_⟩
 ·intro i k a b r d hb;have d:=d;have hb:=hb;rw[qqw _ _ _ b3]at d hb;have ne:∀(p c:Y0),t.place[p]?=Y c->c≠j:=λp c e z=>hf ⟨p,by rw[<- z]; exact e⟩
  split at d
  ·split at hb
   ·exact I.tb.up _ _ _ _ r d hb
   ·split at hb
    ·cases hb; exact b1 _ _ (by assumption) d
    ·exact I.tb.up _ _ _ _ (by lia) d hb
  ·split at d
   ·cases d;rw[Z7 (by lia),Z7 (by lia)]at hb;have:=b2 _ _ (by lia) hb;have:=ne _ _ hb
    lia
   ·rw[Z7 (by lia),Z7 (by lia)]at hb;exact I.tb.up _ _ _ _ (by lia) d hb
 ·intro i j' e;have e:=e;rw[qqw _ _ _ b3]at e
  split at e
  ·exact I.tb.le _ _ e
  ·split at e
   ·cases e; exact hj
   ·exact I.tb.le _ _ e
 ·rw[qjz _ _ _ b3,I.sz]; exact hs
 ·rw[qjz _ _ _ b3,qjz _ _ _ l,I.sz]
 ·intro i j' e g f;have g:=g;have f:=f;rw[qqw _ _ _ b3]at g;rw[qqw _ _ _ l]at f
  split at g
  ·rename_i h1;rw[Z8 h1]at f;exact o _ _ (I.reach _ _ _ g f)
  ·rename_i h1;rw[Z7 h1]at f
   split at g
   ·rename_i h2;rw[Z8 h2]at f;cases g; cases f;exact o _ _ hr
   ·rename_i h2;rw[Z7 h2]at f;exact o _ _ (I.reach _ _ _ g f)
def qfg{es:Array (J×α)}(I:SI t es){bad:Y0->Prop}(hb:∀m,m<n->∃i:Y0,t.place[i]?=Y (stp t.mask m (qzr t.mask h)).j/\bad i)(g:¬ Occ t (stp t.mask n (qzr t.mask h)).j):
  ∀(i:Y0) (e:J×α),es[i]?=Y e->e.1=h->bad i:=λi e j o=>by
 have hi:i<t.place.size:=by rw[I.sz]; exact(Qzh.mp j).1
 have c:=Qq9 hi;obtain⟨f,a,d⟩:=I.reach _ _ _ c j;rw[o]at a d;rcases Qjj n f with h1|h1|h1
 ·exact absurd (d n h1) g
 ·subst h1; exact absurd ⟨i,by rw[a]; exact c⟩ g
 ·obtain⟨l,k,b⟩:=hb f h1;rw[a]at k;have:l=i:=(below_at I.tb.up k).symm.trans (below_at I.tb.up c);rw[<- this]; exact b
def qhv(c):SI (α:=α) (PySem.SetTable.fresh 0 0 c) #[]:=
 ⟨⟨.inl rfl,rfl,λi k a b _ h=>by simp[PySem.SetTable.fresh]at h,λi j h=>by simp[PySem.SetTable.fresh]at h,by simp[PySem.SetTable.fresh]⟩,rfl,λi j e h=>by simp[PySem.SetTable.fresh]at h⟩
def OcO(ow:Array (Y2 Y0))(j:Y0):Prop:=∃k,ow[j]?=Y (Y k)
def getD_none(hj:j<a.size):(a.getD j (Y 0)).isNone=O↔¬ OcO a j:=by
 have e:=Qq9 hj;rw[Qz8,e]
 cases h:a[j] with
 |none=>simp[OcO,e,h]
 |some k=>simp[OcO,e,h]
theorem qvj(m i pt)(d):∀k,k<=runEnd m i - i->(stp m k (runP m i pt d)).j=i+k/\(stp m k (runP m i pt d)).more=runEnd m i - i - k
 |0,_=>⟨rfl,rfl⟩
 |k+1,h=>by
  obtain⟨h1,h2⟩:=qvj m i pt d k (by lia);rw[qf4];have e:adv m (stp m k (runP m i pt d))={ stp m k (runP m i pt d) with j:=(stp m k (runP m i pt d)).j+1,more:=(stp m k (runP m i pt d)).more - 1 }:=by
   conv=>lhs; unfold adv
   rw[Z8 (by lia)]
  rw[e];exact⟨by show(stp m k (runP m i pt d)).j+1=_; lia,by show(stp m k (runP m i pt d)).more - 1=_; lia⟩
def qjf(h:i<=m):i<=runEnd m i/\runEnd m i<=m:=by unfold runEnd; split<;>lia
def qbo(h:(List.range n).find? p=Y k):k<n/\p k=O/\∀a,a<k->p a=false:=by
 have h1:=Qx6 h;have h2:=Qxj h;refine⟨Qz6.mp h2,h1,λa hk=>?_⟩;rw[List.find?_range_eq_some]at h;have:=h.2.2 a hk;simpa using this
theorem qey(hs:c.size=m+1):∀(a i pt b:Y0),i<=m->b<a->¬ OcO c (lp m b (i,pt)).1->
  ∃n j,layClean.free m c a i pt=Y j/\(stp m n (runP m i pt B)).j=j/\j<=m/\¬ OcO c j/\∀k,k<n->OcO c (stp m k (runP m i pt B)).j
 |0,i,pt,b,_,hn,_=>by lia
 |a+1,i,pt,b,hi,hn,he=>by
  unfold layClean.free;obtain⟨u,t⟩:=qjf hi
  cases hf:(List.range (runEnd m i+1 - i)).find? λk=>(c.getD (i+k) (Y 0)).isNone with
  |some k=>
   obtain⟨v,s,r⟩:=qbo hf;refine⟨k,i+k,rfl,(qvj m i pt B k (by lia)).1,by lia,(getD_none (by lia)).mp s,λd hk=>?_⟩;rw[(qvj m i pt B d (by lia)).1];have:=r d hk;apply Classical.byContradiction;intro hc;rw[(getD_none (by lia)).mpr hc]at this;cases this
  |none=>
   have all:=λk hk=>by
    have:=List.find?_eq_none.mp hf k (Qz6.mpr hk);apply Classical.byContradiction;intro hc;exact this ((getD_none (by lia)).mpr hc)
   cases b with
   |zero=>exact absurd (all 0 (by lia)) he
   |succ b=>
    have q:(leap m i pt).1<=m:=Qxy (Qji _ (Qx8 _));obtain⟨n,j,p,o,l,g,f⟩:=qey hs a (leap m i pt).1 (leap m i pt).2 b q (by lia) he;refine⟨(runEnd m i - i)+1+n,j,p,?_,l,g,λk hk=>?_⟩
    ·rw[qqe,qkh m (runEnd m i - i) (runP m i pt B) rfl]; exact o
    ·rcases Qxq k (runEnd m i - i+1) with h|h
     ·rw[(qvj m i pt B k (by lia)).1]; exact all k (by lia)
     ·have e:k=(runEnd m i - i)+1+(k - (runEnd m i - i+1)):=by lia
      rw[e,qqe,qkh m (runEnd m i - i) (runP m i pt B) rfl];exact f _ (by lia)
structure FI (m:Y0) (ow:Array (Y2 Y0)) (hs:L J):Prop where
 size:ow.size=m+1
 val:∀(j k:Y0),ow[j]?=Y (Y k)->k<hs.length
 sur:∀k,k<hs.length->∃j:Y0,ow[j]?=Y (Y k)
 reach:∀(j k:Y0) (h:J),ow[j]?=Y (Y k)->hs[k]?=Y h->∃n,(stp m n (qzr m h)).j=j/\∀q,q<n->OcO ow (stp m q (qzr m h)).j
 cnt:ow.toList.countP Option.isSome=hs.length
def FI.zero(m):FI m (Array.replicate (m+1) B) [] where
 size:=by simp
 val:=λj k h=>by
  rw[Qj7]at h
  split at h<;>simp at h
 sur:=λk h=>by simp at h
 reach:=λj k x h=>by
  rw[Qj7]at h
  split at h<;>simp at h
 cnt:=by rw[Array.toList_replicate]; simp
def FI.some_free(I:FI m a hs)(h:hs.length<=m):∃e,e<=m/\¬ OcO a e:=by
 apply Classical.byContradiction;intro hn;have all:∀x∈a.toList,Option.isSome x=true:=λx c=>by
  obtain⟨j,hj,e⟩:=Qz9 c;have b:j<a.size:=by simpa using hj
  have:OcO a j:=Classical.byContradiction λhc=>hn ⟨j,by have:=I.size; lia,hc⟩;obtain⟨k,hk⟩:=this;rw[Qq9 b]at hk;rw[Array.getElem_toList]at e;rw[<- e,Option.some.inj hk]; rfl
 have:=List.countP_eq_length.mpr all;have f:=I.cnt;have d:=(Qzu).trans I.size
 lia
def FI.more(y:m=7\/m=31)(I:FI m a hs)(A:hs.length<=m)(h):
  ∃j,layClean.free m a (turns m) (bits h % (m+1)) (bits h)=Y j/\FI m (a.setIfInBounds j (Y hs.length)) (hs++[h]):=by
 obtain⟨e,C,hf⟩:=I.some_free A;have ok:=Okp.start (m:=m) h;obtain⟨s,_,x,_,_,o⟩:=qy6 y B ok.i ok.pt C;have o:(lp m s (bits h % (m+1),bits h)).1=e:=o;obtain⟨n,j,v,u,F,p,t⟩:=qey I.size (turns m) (bits h % (m+1)) (bits h) s ok.i (by unfold turns; lia) (by rw[o]; exact hf);refine⟨j,v,?_⟩;have hj:j<a.size:=by rw[I.size]; lia
 have d:∀j',(a.setIfInBounds j (Y hs.length))[j']?=if j=j' then Y (Y hs.length) else a[j']?:=λj'=>by
  rw[Array.getElem?_setIfInBounds]
  by_cases h:j=j'
  ·subst h; rw[Z8 rfl,Z8 hj,Z8 rfl]
  ·rw[Z7 h,Z7 h]
 have r:∀j',OcO a j'->OcO (a.setIfInBounds j (Y hs.length)) j':=λj' ⟨k,hk⟩=>by
  unfold OcO;rw[d]
  by_cases h:j=j'
  ·exact⟨_,Z8 h⟩
  ·rw[Z7 h]; exact⟨k,hk⟩
 refine⟨by rw[Array.size_setIfInBounds]; exact I.size,λj' k hk=>?_,λk hk=>?_,λj' k h' hk f=>?_,?_⟩
 ·rw[d]at hk;rw[Qqn,Qz1]
  split at hk
  ·cases hk; lia
  ·have:=I.val _ _ hk; lia
 ·rw[Qqn,Qz1]at hk;rcases Qxq k hs.length with h1|h1
  ·obtain⟨j',c⟩:=I.sur k h1;refine⟨j',?_⟩;rw[d,Z7 (λz=>p (by rw[z]; exact⟨k,c⟩))]; exact c
  ·have:k=hs.length:=by lia
   subst this;exact⟨j,by rw[d,Z8 rfl]⟩
 ·rw[d]at hk
  split at hk
  ·rename_i l;cases hk;rw[Qzg (Qqv _),Nat.sub_self]at f;cases f;exact⟨n,by rw[<- l]; exact u,λq g=>r _ (t q g)⟩
  ·have i:=I.val _ _ hk;rw[Qq2 i]at f;obtain⟨w,E,D⟩:=I.reach _ _ _ hk f;exact⟨w,E,λq g=>r _ (D q g)⟩
 ·rw[Array.toList_setIfInBounds,List.countP_set (by simpa using hj)];have b:(a.toList[j]'(by simpa using hj)).isSome=false:=by
   cases e:a.toList[j]'(by simpa using hj) with
   |none=>rfl
   |some k=>exact absurd ⟨k,by rw[<- Qq1,Qqh (by simpa using hj),e]⟩ p
  simp only[b,I.cnt];simp
theorem qad(f:m=7\/m=31):∀(l:L J) (b:Array (Y2 Y0)) (hs:L J),FI m b hs->hs.length+l.length<=m+1->
  ∃a,l.foldl (λc h=>do let (owner,k) <- c; let j <- layClean.free m owner (turns m) (bits h % (m+1)) (bits h); pure (owner.setIfInBounds j (Y k),k+1)) (Y (b,hs.length))=Y (a,hs.length+l.length)/\FI m a (hs++l)
 |[],b,hs,I,_=>⟨b,rfl,by rw[Qzj]; exact I⟩
 |h::l,b,hs,I,g=>by
  simp only[Qqg]at g;obtain⟨j,e,n⟩:=I.more f (by lia) h;obtain⟨a,i,d⟩:=qad f l _ _ n (by simp; lia);refine⟨a,?_,by simpa using d⟩;rw[Qjf];have:(do let (owner,k) <- (Y (b,hs.length):Y2 (Array (Y2 Y0)×Y0)); let j <- layClean.free m owner (turns m) (bits h % (m+1)) (bits h); pure (owner.setIfInBounds j (Y k),k+1))=Y (b.setIfInBounds j (Y hs.length),hs.length+1):=by
   show(layClean.free m b (turns m) (bits h % (m+1)) (bits h)).bind _=_;rw[e]; rfl
  rw[this];have el:hs.length+1=(hs++[h]).length:=by simp
  rw[el,i];simp; lia
def lay_ok(b:m=7\/m=31)(hs)(c:hs.size<=m+1):∃a,layClean m hs=Y a/\FI m a hs.toList:=by
 obtain⟨a,e,I⟩:=qad b hs.toList _ [] (FI.zero m) (by simpa using c);refine⟨a,?_,by simpa using I⟩;unfold layClean;rw[<- Array.foldl_toList];exact congrArg (Option.map (·.1)) e
noncomputable def qz3(m:Y0)(ow:Array (Y2 Y0)):L (Y0×Y0):=(List.range (m+1)).filterMap λj=>(ow.getD j B).map (j,·)
def qxz(I:FI m a hs):q∈qz3 m a↔a[q.1]?=Y (Y q.2):=by
 unfold qz3;rw[Qxn];constructor
 ·rintro⟨j,hj,e⟩;have b:j<a.size:=by rw[I.size]; exact Qz6.mp hj
  rw[Qz8,Qq9 b]at e
  cases h:a[j] with
  |none=>rw[h]at e; cases e
  |some k=>
   rw[h]at e;cases e;rw[Qq9 b,h]
 ·intro e;have hj:=(Qzh.mp e).1;refine⟨q.1,Qz6.mpr (by rw[<- I.size]; exact hj),?_⟩;rw[Qz8,e]
  rfl
def qm3(m)(d):(qz3 m d).Pairwise λa b=>a.1<b.1:=by
 unfold qz3;refine List.Pairwise.filterMap _ (λa g h b hb j c=>?_) (List.pairwise_lt_range)
 cases e:d.getD a B with
 |none=>rw[e]at hb; cases hb
 |some k=>
  cases f:d.getD g B with
  |none=>rw[f]at c; cases c
  |some i=>
   rw[e]at hb; rw[f]at c;cases hb; cases c;exact h
def qvy(I:FI m a hs):(qz3 m a).length=hs.length:=by
 unfold qz3;rw[List.length_filterMap_eq_countP,<- I.cnt];have e:a.toList=(List.range (m+1)).map λj=>a.getD j none:=by
  apply List.ext_getElem?;intro j;rw[Qq1,Qqw];rcases Qxq j (m+1) with h|h
  ·rw[Qx4 h];have hj:j<a.size:=by rw[I.size]; exact h
   rw[Qq9 hj];show _=Y (a.getD j B);rw[Qz8,Qq9 hj]; rfl
  ·rw[Qkv (by rw[I.size]; exact h),Qzp (by simpa using h)]; rfl
 rw[e,List.countP_map];refine List.countP_congr λj _=>?_;simp
theorem qaq{α:Type}(es:Array α):∀(l:L Y0),(∀k∈l,k<es.size)->(l.filterMap λk=>es[k]?).length=l.length/\∀i:Y0,(l.filterMap λk=>es[k]?)[i]?=l[i]?.bind λk=>es[k]?
 |[],_=>⟨rfl,λi=>by simp⟩
 |k::l,h=>by
  obtain⟨h1,h2⟩:=qaq es l λa hk=>h a (Qqp _ hk);have hk:=h k Qq3;have e:=Qq9 hk;rw[Qzk,e];refine⟨by simp[h1],λi=>?_⟩
  cases i with
  |zero=>simp[e]
  |succ i=>simp only[Qkq]; exact h2 i
def qm6{led plain:Ya}(r:m=7\/m=31)(es:Array (J×α))(D:es.size<=m):
  ∃t c,laid m f mv led plain (es.map (·.1))=Y (t,c)/\SI t (c.filterMap (es[·]?))/\(c.filterMap (es[·]?)).size=es.size/\(∀e,e∈(c.filterMap (es[·]?)).toList↔e∈es.toList)/\t.mask=m:=by
 obtain⟨g,e,I⟩:=lay_ok r (es.map (·.1)) (by rw[Array.size_map]; lia);have d:(es.map (·.1)).toList.length=es.size:=by simp
 have v:∀k∈(qz3 m g).map (·.2),k<es.size:=λk hk=>by
  obtain⟨q,l,rfl⟩:=Qqj.mp hk;rw[<- d];exact I.val _ _ ((qxz I).mp l)
 obtain⟨p1,p2⟩:=qaq es _ v;have tl:(((qz3 m g).map (·.2)).toArray.filterMap (es[·]?)).toList=((qz3 m g).map (·.2)).filterMap λk=>es[k]?:=by simp
 have at_:∀i:Y0,(((qz3 m g).map (·.2)).toArray.filterMap (es[·]?))[i]?=((qz3 m g)[i]?.map (·.2)).bind λk=>es[k]?:=λi=>by
  rw[<- Qq1,tl,p2,Qqw]
 have pl:∀i:Y0,((qz3 m g).map (·.1)).toArray[i]?=(qz3 m g)[i]?.map (·.1):=λi=>by simp
 have u:∀j,OcO g j->Occ { mask:=m,place:=((qz3 m g).map (·.1)).toArray,dummies:=#[],finger:=f,led:=led,moves:=mv,plain:=plain } j:=λj ⟨k,hk⟩=>by
  obtain⟨i,hi,e⟩:=Qz9 ((qxz I (q:=(j,k))).mpr hk);refine⟨i,?_⟩;rw[pl,Qqh hi,e]; rfl
 have ns:(((qz3 m g).map (·.2)).toArray.filterMap (es[·]?)).size=es.size:=by
  rw[<- Qzu,tl,p1,Qqz,qvy I,d]
 refine⟨{ mask:=m,place:=((qz3 m g).map (·.1)).toArray,dummies:=#[],finger:=f,led:=led,moves:=mv,plain:=plain },((qz3 m g).map (·.2)).toArray,?_,⟨⟨r,rfl,?_,?_,?_⟩,?_,?_⟩,ns,?_,rfl⟩
 ·unfold laid;rw[e]; rfl
 ·intro i k a b p s hb;rw[pl]at s hb;obtain⟨x,h,rfl⟩:=Qqd.mp s;obtain⟨y,A,rfl⟩:=Qqd.mp hb;obtain⟨h1,F⟩:=Qqk.mp h;obtain⟨h2,E⟩:=Qqk.mp A;have:=Qxg.mp (qm3 m g) i k h1 h2 p;rw[F,E]at this;exact this
 ·intro i j hj;rw[pl]at hj;obtain⟨x,h,rfl⟩:=Qqd.mp hj;have:=(qxz I).mp (Qqe h);have:=(Qzh.mp this).1;rw[I.size]at this;show x.1<=m
  lia
 ·rw[Qqa,Qqz,qvy I,d]; exact D
 ·rw[Qqa,Qqz,qvy I,d,ns]
 ·intro i j x hj h;rw[pl]at hj;rw[at_]at h;obtain⟨q,l,rfl⟩:=Qqd.mp hj;rw[l]at h;have h:es[q.2]?=Y x:=h;have C:=(qxz I).mp (Qqe l);obtain⟨n,K,H⟩:=I.reach q.1 q.2 x.1 C (by rw[Qq1,Array.getElem?_map,h]; rfl);exact⟨n,K,λz w=>u _ (H z w)⟩
 ·intro x;rw[tl,Qxn];constructor
  ·rintro⟨k,_,hk⟩;exact Qqe (by rw[Qq1]; exact hk)
  ·intro h;obtain⟨k,hk,G⟩:=Qz9 h;have o:k<(es.map (·.1)).toList.length:=by rw[d]; simpa using hk
   obtain⟨j,hj⟩:=I.sur k o;refine⟨k,Qqj.mpr ⟨(j,k),(qxz I).mpr hj,rfl⟩,?_⟩;rw[<- Qq1,Qqh hk,G]
def qc4(T:Tb t)(b:Okp t.mask p)(c:t.probe a h p=met):
  ∃n,(∀m,m<n->∃i:Y0,t.place[i]?=Y (stp t.mask m p).j/\a i≠h)/\
   ((¬ Occ t (stp t.mask n p).j/\met=Y (.empty (stp t.mask n p).j B))\/
    (∃i:Y0,t.place[i]?=Y (stp t.mask n p).j/\a i=h/\met=Y (.candidate (stp t.mask n p).j i (stp t.mask (n+1) p)))):=by
 subst c;exact qbv T b
theorem SI.fits(I:SI t es):t.fits es.size=true:=by
 unfold SetTable.fits SetTable.fill;rw[I.tb.dum];have:=I.tb.few;simp[I.sz];rw[<- I.sz]; exact this
def Tb.stays(T:Tb t):t.gaveWay=false:=by
 unfold SetTable.gaveWay;rcases T.mask with h|h<;>rw[h]<;>rfl
section
variable {prog:Program}{w:Qj}{A:Qk}{E:Y8->Qz->Prop}{s:Qz}[DecidableEq K]{knd:KeyKind prog w K}
def qkk(n)(h:carriedByValue v=O):Zg n v=pure false:=by
 cases v with
 |ref a=>simp[carriedByValue]at h
 |_=>unfold Zg; rfl
def qkb(hk:IsTupleKey knd s.heap ks b)(h:Q Y5 s):wpAny ?q A (Zg 8 (.ref b)) Q E s:=by
 have f:=hk.typeIs;obtain⟨o,c,n,e,hc,hd,hi⟩:=hk;unfold Zg;refine Qq (wpAny_typeOf f ?_);refine Qq ?_;refine Qx ?_;simp only[ if_false];refine Qq (Qn e hd ?_);refine Qq ?_;rw[<- Array.forIn_toList];refine wpAny_forIn_list _ (λrest r s'=>r.1=B/\s'=s/\∀v∈rest,carriedByValue v=O) _ ?_ ?_ _ _ ⟨rfl,rfl,hi.byValue⟩
 ·rintro v rest r s' ⟨hr,rfl,a⟩;rw[qkk _ (a v Qq3)];refine Qq (Qx ?_);simp only[Qzd];exact Qx ⟨rfl,rfl,λu d=>a u (Qqp _ d)⟩
 ·rintro⟨i,g⟩ s' ⟨hr,rfl,_⟩;simp only at hr;subst hr;exact Qx h
def qiu(d:IsTupleKey knd s.heap ks x)(f:∀y∈l,∃b k,y=.ref b/\IsTupleKey knd s.heap k b)(h:Q Y5 s):
  wpAny ?q A (searchCouldBeSeen (.ref x) l) Q E s:=by
 unfold searchCouldBeSeen;refine Qq ?_;refine wpAny_forIn_list _ (λrest r s'=>r.1=B/\s'=s/\∀y∈rest,∃b k,y=.ref b/\IsTupleKey knd s.heap k b) _ ?_ ?_ _ _ ⟨rfl,rfl,f⟩
 ·rintro y rest r s' ⟨hr,rfl,a⟩;obtain⟨b,k,rfl,hb⟩:=a y Qq3;have g:(carriedByValue (Value.ref x)&&carriedByValue (Value.ref b))=false:=rfl;simp only[g,Bool.or_false]
  by_cases e:(x==b)=O
  ·rw[Z8 e];exact Qx ⟨rfl,rfl,λu c=>a u (Qqp _ c)⟩
  ·rw[Z7 e];refine Qq (wpAny_eqIsQuiet_tuple d ?_);simp only[Qkc,if_false];refine Qq (wpAny_eqIsQuiet_tuple hb ?_);simp only[Qkc,if_false];refine Qq (qkb d ?_);simp only[Qzd];refine Qq (qkb hb ?_);simp only[Qzd];exact Qx ⟨rfl,rfl,λu c=>a u (Qqp _ c)⟩
 ·rintro⟨j,i⟩ s' ⟨hr,rfl,_⟩;simp only at hr;subst hr;exact Qx h
end
section
def ints_of(h:ItemsAre ?k ks vs):∀v∈vs,∃i t,v=.int i t:=by
 induction h with
 |nil=>intro v hv; simp at hv
 |@cons k b ks vs h1 _ a=>
  intro v hv;rcases Qqy.mp hv with rfl|hv
  ·obtain⟨t,e⟩:=Value.isInt_shape (h1);exact⟨k,t,e⟩
  ·exact a v hv
def qa2(hk:IsTupleKey ?k s.heap ks b)(h:Q O s):wpAny ?q A (hashByValue 8 (.ref b)) Q E s:=by
 have g:=hk.typeIs;obtain⟨o,c,n,f,hc,hd,hi⟩:=hk;unfold hashByValue;refine Qq (Za g F.slot_tuple_hash.lookup ?_);refine Qq (Qn f hd ?_);refine Qq ?_;show wpAny _ _ (forIn c _ _) _ _ s;rw[<- Array.forIn_toList];refine wpAny_forIn_list _ (λrest r s'=>r.1=B/\s'=s/\∀v∈rest,∃i t,v=.int i t) _ ?_ ?_ _ _ ⟨rfl,rfl,ints_of hi⟩
 ·rintro v rest r s' ⟨hr,rfl,a⟩;obtain⟨i,t,rfl⟩:=a v Qq3;have e:hashByValue 7 (.int i t)=pure true:=by simp[hashByValue]
  rw[e];refine Qq (Qx ?_);simp only[ if_false];exact Qx ⟨rfl,rfl,λu d=>a u (Qqp _ d)⟩
 ·rintro⟨k,j⟩ s' ⟨hr,rfl,_⟩;simp only at hr;subst hr;exact Qx h
def Els(prog:Program)(w:Qj)(h:Heap)(es:Array (J×Y8)):Prop:=∀(i:Y0) (e:J×Y8),es[i]?=Y e->∃b k,e=(tupleKeyHash ?k k,.ref b)/\IsTupleKey ?k h k b
def Bad(prog:Program)(w:Qj)(h:Heap)(es:Array (J×Y8))(k:L J)(i:Y0):Prop:=∀(e:J×Y8) (b:Y7) (k':L J),es[i]?=Y e->e.2=.ref b->IsTupleKey ?k h k' b->k'≠k
theorem qv0(hu:A.units<cLine)(W:s.heap.get? a=Y o)(hd:o.data=.set es ep t)(I:SI t es)(r:Els prog w s.heap es)(U:IsTupleKey ?k s.heap k x)(hf:∀n,(∀m,m<n->∃i:Y0,t.place[i]?=Y (stp t.mask m ?E).j/\Bad prog w s.heap es k i)->¬ Occ t (stp t.mask n ?E).j->
   Q (.free (stp t.mask n ?E).j Y5) s)(ht:(∃(i:Y0) (b:Y7) (g:J),es[i]?=Y (g,.ref b)/\IsTupleKey ?k s.heap k b)->Q (.there B) s)(N)(hN:¬ Occ t (stp t.mask N ?E).j):
  ∀(d c:Y0) (f:Y2 Probe),f.getD (t.probeStart (tupleKeyHash ?k k))=stp t.mask c ?E->c<=N->N - c<d->
   (∀m,m<c->∃i:Y0,t.place[i]?=Y (stp t.mask m ?E).j/\Bad prog w s.heap es k i)->
   wpAny ?q A (Z4 a (.ref x) (tupleKeyHash ?k k) O d f) Q E s
 |0,c,_,_,_,X,_=>by lia
 |d+1,c,f,V,hle,X,K=>by
  unfold Z4;refine Qq (Q9 W hd I.fits ?_);dsimp only;rw[I.tb.stays];simp only[Qzd];rw[V];generalize hm:SetTable.probe t _ _ _=met;have S:Okp t.mask (stp t.mask c ?E):=(Okp.start _).stp c;obtain⟨n,p1,p2⟩:=qc4 I.tb S hm;have P:∀m,m<n->∃i:Y0,t.place[i]?=Y (stp t.mask (c+m) ?E).j/\Bad prog w s.heap es k i:=λm C=>by
   obtain⟨i,F,T⟩:=p1 m C;refine⟨i,by rw[qqe]; exact F,λe b k' p hb a1 z=>T ?_⟩;obtain⟨b',a5,R,q⟩:=r i e p;have:(es[i]?.map (·.1)).getD 0=tupleKeyHash ?k k:=by
    rw[p,R];rw[R]at hb;cases hb;rw[q.inj a1,z]; rfl
   exact this
  have l:∀m,m<c+n->∃i:Y0,t.place[i]?=Y (stp t.mask m ?E).j/\Bad prog w s.heap es k i:=λm C=>by
   rcases Qxq m c with h|h
   ·exact K m h
   ·obtain⟨i,F,T⟩:=P (m - c) (by lia);rw[show c+(m - c)=m by lia]at F;exact⟨i,F,T⟩
  rw[<- qqe]at p2;rcases p2 with⟨D,rfl⟩|⟨i,D,q2,rfl⟩
  ·dsimp only;exact Qx (hf _ l D)
  ·dsimp only;have hi:i<es.size:=by rw[<- I.sz]; exact(Qzh.mp D).1
   have p:=Qq9 hi;obtain⟨b,k',R,hb⟩:=r i _ p;rw[R]at p;have a6:c+n<N:=by
    rcases Qjj (c+n) N with h|h|h
    ·exact h
    ·exact absurd ⟨i,by rw[<- h]; exact D⟩ hN
    ·obtain⟨u,F,_⟩:=l N h;exact absurd ⟨u,F⟩ hN
   have rest:wpAny ?q A (do
     let j <- Q5 [Value.ref b] (eqBool (.ref b) (.ref x))
     let (a4,_,t') <- setState a
     if O&&j then return .there B
     let Y same:=t'.sameMemory t.moves t.mask|unsupported "set.changed-during-lookup:is-the-new-block-at-the-old-address"
     let v <- match (if same then t'.slot (stp t.mask (c+n) ?E).j else .empty) with
      |.live u=>match a4[u]? with
       |some (_,y')=>do pure (if <- isSame y' (.ref b) then Y u else B)
       |none=>pure B
      |_=>pure B
     match v with
     |none=>rule "set.search.anew"; Z4 a (.ref x) (tupleKeyHash ?k k) O d B
     |some u=>if j then return .there (Y u) else Z4 a (.ref x) (tupleKeyHash ?k k) O d (Y (stp t.mask (n+1) (stp t.mask c ?E)))) Q E s:=by
    refine Qq (Qo (wpAny_eqBool_tuple hu hb U ?_));refine Qq (Q9 W hd I.fits ?_)
    by_cases hk:k'=k
    ·subst hk;simp only[ if_true];exact Qx (ht ⟨i,b,_,p,hb⟩)
    ·have ek:=Z6 hk;simp only[ek,if_false];have em:t.sameMemory t.moves t.mask=Y true:=by unfold SetTable.sameMemory; simp
     rw[em];simp only[if_true];rw[qje I.tb D];dsimp only;rw[p];refine Qq (wpAny_isSame_ref_self ?_);simp only[if_true];refine Qq (Qx ?_);refine qv0 hu W hd I r U hf ht N hN d (c+n+1) _ ?_ (by lia) (by lia) λm C=>?_
     ·rw[<- qqe]; rfl
     ·rcases Qxq m (c+n) with h|h
      ·exact l m h
      ·have:m=c+n:=by lia
       subst this;refine⟨i,D,λe b1 k1 H a3 a0 z=>hk ?_⟩;rw[p]at H;cases H;cases a3;rw[hb.inj a0,z]
   have G:∀y∈(es.filter (·.1==tupleKeyHash ?k k)).toList.map (·.2),∃b k,y=.ref b/\IsTupleKey ?k s.heap k b:=λy hy=>by
    obtain⟨e,h1,rfl⟩:=Qqj.mp hy;have h2:e∈es.toList:=by
     rw[Array.toList_filter]at h1;exact(Qzr.mp h1).1
    obtain⟨u,a2,e1⟩:=Qz9 h2;obtain⟨b',k1,e2,q⟩:=r u e (by rw[<- Qq1,Qqh a2,e1]);exact⟨b',k1,by rw[e2],q⟩
   cases hl:t.led with
   |true=>
    simp only[Qkc,if_false];rw[p];exact rest
   |false=>
    simp only[Bool.not_false];refine Qq (qiu U G ?_);simp only[Qzd];rw[p];exact rest
end
section
def TS(prog:Program)(w:Qj)(h:Heap)(a:Y7)(S:L (L J)):Prop:=∃o es ep t,h.get? a=Y o/\o.ExactSet/\o.data=.set es ep t/\SI t es/\Els prog w h es/\es.size=S.length/\
 (∀k,k∈S↔∃g b,(g,Value.ref b)∈es.toList/\IsTupleKey ?k h k b)/\(t.mask=7->es.size<=4)
def qd0(g:h.get? a=Y o)(hd:o.data=.set es i t)(hs:Heap.SameBut a h h')(x:IsTupleKey ?k h k b):IsTupleKey ?k h' k b:=by
 obtain⟨o',c,n,e,hc,d,hi⟩:=x;have f:b≠a:=by
  rintro rfl;obtain rfl:o'=o:=Option.some.inj (e.symm.trans g);rw[hd]at d; exact nomatch d
 exact⟨o',c,n,(hs.2 b f).trans e,hc,d,hi⟩
def qdt:SetTable.sizeAbove (SetTable.grown 5)=32:=by decide
def qgv(f:s.heap.get? a=Y o)(hd:o.data=.set es g t)(I:SI t es)(j:es.size=5)(h:∀h' o' c d,Heap.SameBut a s.heap h'->h'.get? a=Y o'->(o.ExactSet->o'.ExactSet)->o'.data=.set c (g+1) d->SI d c->c.size=es.size->(∀e,e∈c.toList↔e∈es.toList)->d.mask=31->Q () { s with heap:=h' }):
  wpAny ?q A (setRelay a (SetTable.grown 5)) Q E s:=by
 unfold setRelay;refine Qq (Q9 f hd I.fits ?_);dsimp only;rw[Z7 (by rw[qdt]; decide)];obtain⟨d,b,i,m,z,mem,mk⟩:=qm6 (mv:=t.movedTo (SetTable.sizeAbove (SetTable.grown 5) - 1)) (.inr rfl) es (by lia);have l:t.relaid (es.map (·.1)) (SetTable.grown 5)=Y (d,b):=by
  unfold SetTable.relaid;rw[qdt]at i ⊢;exact i
 rw[l];refine Qq ?_
 change wpAny _ _ (do
  let Y (t,b):=(Y (d,b):Y2 (Qa×Array Y0))|unsupported "internal:set-table-without-room"
  let c:=b.filterMap (es[·]?)
  if c.size != es.size then unsupported "internal:set-table-lost-an-element"
  pure (c,t)) _ _ _
 dsimp only;have k:((b.filterMap (es[·]?)).size != es.size)=false:=by rw[z]; simp
 rw[k];simp only[Qzd];refine Qx ?_;refine wpAny_storeSet_of f hd ?_ (by rw[z,j,Q2]; decide);have hg:(s.heap.update a (Obj.putSet (b.filterMap (es[·]?)) d)).get? a=Y { o with data:=.set (b.filterMap (es[·]?)) (g+1) d }:=by
  have:=Qx0 (Obj.putSet (b.filterMap (es[·]?)) d) f (by rw[putSet_of _ _ hd]; rfl);rw[putSet_of _ _ hd]at this; exact this
 exact h _ _ _ _ (Heap.SameBut.update _ a _) hg (λq=>q) rfl m z mem mk
def qnq(h):(qzr m h).j+(qzr m h).more<=m:=by
 have hi:bits h % (m+1)<=m:=Qxy (Qji _ (Qx8 _));obtain⟨b,a⟩:=qjf hi;show bits h % (m+1)+(runEnd m (bits h % (m+1)) - bits h % (m+1))<=m
 lia
def j_next(h:p.j+p.more<=m):(adv m p).j+(adv m p).more<=m:=by
 unfold adv
 split
 ·show p.j+1+(p.more - 1)<=m; lia
 ·have hi:(leap m p.i p.perturb).1<=m:=Qxy (Qji _ (Qx8 _));obtain⟨b,a⟩:=qjf hi;show(leap m p.i p.perturb).1+(runEnd m (leap m p.i p.perturb).1 - (leap m p.i p.perturb).1)<=m
  lia
theorem j_stp:∀(n:Y0){p:Probe},p.j+p.more<=m->(stp m n p).j+(stp m n p).more<=m
 |0,_,h=>h
 |n+1,_,h=>j_stp n (j_next h)
def add_ok(hu:A.units<cLine)(hT:TS prog w s.heap a S)(U:IsTupleKey ?k s.heap k x)(hl:S.length<=15)(h:∀b h',Heap.SameBut a s.heap h'->TS prog w h' a (if k∈S then S else S++[k])->Q b { s with heap:=h' }):
  wpAny ?q A (setAddHashed a (.ref x) (tupleKeyHash ?k k)) Q E s:=by
 have b6:=hT;obtain⟨o,es,ep,t,H,a3,hd,I,y,V,f,h4⟩:=hT;have F:∀{e:J×Y8},e∈es.toList->∃i:Y0,es[i]?=Y e:=λ{e} he=>by
  obtain⟨i,hi,e1⟩:=Qz9 he;exact⟨i,by rw[<- Qq1,Qqh hi,e1]⟩
 unfold setAddHashed setAddHashedIn;refine Qo (Qq (Q9 H hd I.fits ?_));dsimp only;have eb:byScan (.ref x) es=false:=rfl;rw[eb];simp only[Qzd];obtain⟨fr,b2,b3⟩:=some_free I.tb;obtain⟨N,hN,eN⟩:=hits I.tb.mask (Okp.start (tupleKeyHash ?k k)) b2;refine Qq ?_;unfold setSearch;refine qv0 hu H hd I y U (λn D u=>?_) (λa8=>?_) N (by rw[eN]; exact b3) 100000 0 B rfl (Qza _) ?_ (λm v=>by lia)
 ·-- b9 element is new
  have X:k ∉ S:=λhk=>by
   obtain⟨g,b,v,hb⟩:=(f k).mp hk;obtain⟨i,hi⟩:=F v;obtain⟨b',p,K,b5⟩:=y i _ hi;have e1:=congrArg Prod.fst K;have e2:=Value.ref.inj (congrArg Prod.snd K);subst e2;obtain rfl:=hb.inj b5;exact qfg I D u i _ hi e1 _ b k hi rfl hb rfl
  have b0:es.size+1<=t.mask:=by
   rcases I.tb.mask with q|q
   ·have:=h4 q; lia
   ·lia
  have a0:(stp t.mask n ?E).j<=t.mask:=Qz3 (Qja _ _) (j_stp n (qnq _));generalize hj:(stp t.mask n ?E).j=j at *;have I1:SI (t.put j).1 ?w:=put_ok I a0 u ⟨n,hj,λm v=>by obtain⟨i,hi,_⟩:=D m v; exact⟨i,hi⟩⟩ b0;refine Qq (Q9 H hd I.fits ?_);have W:(t.put j).2<=es.size:=by rw[qc3 I.tb,<- I.sz]; exact(qxh I.tb.up).2.2
  have r:(t.put j).1.mask=t.mask:=by rw[qc3 I.tb]
  have c:(?w).size=es.size+1:=qjz _ _ _ W;have z:∀e,e∈(?w).toList↔e∈es.toList\/e=(tupleKeyHash ?k k,Value.ref x):=λe=>qna W;have a5:∀(h':Heap) (d:Array (J×Y8)),Heap.SameBut a s.heap h'->(∀e,e∈d.toList↔e∈es.toList\/e=(tupleKeyHash ?k k,Value.ref x))->
    Els prog w h' d/\∀p,p∈S++[k]↔∃g b,(g,Value.ref b)∈d.toList/\IsTupleKey ?k h' p b:=λh' d R v=>by
   have kp:∀{b:Y7}{p:L J},IsTupleKey ?k s.heap p b->IsTupleKey ?k h' p b:=λq=>qd0 H hd R q;refine⟨λi e he=>?_,λp=>?_⟩
   ·rcases (v e).mp (Qqe (by rw[Qq1]; exact he)) with q|q
    ·obtain⟨i',G⟩:=F q;obtain⟨b,p,K,hb⟩:=y i' _ G;exact⟨b,p,K,kp hb⟩
    ·exact⟨x,k,q,kp U⟩
   ·constructor
    ·intro hk;rcases Qqi.mp hk with q|q
     ·obtain⟨g,b,q1,q2⟩:=(f p).mp q;exact⟨g,b,(v _).mpr (.inl q1),kp q2⟩
     ·rw[Qqb]at q;subst q;exact⟨_,x,(v _).mpr (.inr rfl),kp U⟩
    ·rintro⟨g,b,q1,q2⟩;rcases (v _).mp q1 with q|q
     ·obtain⟨i',G⟩:=F q;obtain⟨b',c0,K,hb⟩:=y i' _ G;have e2:=Value.ref.inj (congrArg Prod.snd K);subst e2;obtain rfl:=q2.inj (kp hb);exact Qzz _ ((f p).mpr ⟨g,b,q,hb⟩)
     ·have e2:=Value.ref.inj (congrArg Prod.snd q);subst e2;obtain rfl:=q2.inj (kp U);exact Qq0 _ (by simp)
  have C:∀(b:Ya) (l:Qa),SI l ?w->l.mask=t.mask->
    wpAny ?q A (do
     storeSet a ?w l
     if (!Y5&&l.tooFull)=O then do
      setRelay a (SetTable.grown (es.size+1))
      pure O
     else pure O) Q E s:=λb l I2 b1=>by
   refine Qq (wpAny_storeSet_of H hd ?_ (by rw[c,Q2]; lia));have hg:(s.heap.update a (Obj.putSet ?w l)).get? a=Y { o with data:=.set ?w (ep+1) l }:=by
    have:=Qx0 (Obj.putSet ?w l) H (by rw[putSet_of _ _ hd]; rfl);rw[putSet_of _ _ hd]at this; exact this
   have R:=Heap.SameBut.update s.heap a (Obj.putSet ?w l);obtain⟨fe,fm⟩:=a5 _ _ R z;have a4:l.tooFull=decide ((es.size+1)*5 >= t.mask*3):=by
    unfold SetTable.tooFull SetTable.fill;rw[I2.tb.dum,I2.sz,c,b1]; rfl
   rw[a4]
   by_cases a1:(es.size+1)*5 >= t.mask*3
   ·have m7:t.mask=7:=by
     rcases I.tb.mask with q|q
     ·exact q
     ·lia
    have e5:es.size+1=5:=by have:=h4 m7; lia
    simp only[Z5 a1,if_true];rw[e5];refine Qq (qgv hg rfl I2 (by rw[c,e5]) λh' o' d t' a6 a9 a2 b4 I' z' T a7=>Qx ?_);have P:=R.trans a6;obtain⟨b8,b7⟩:=a5 h' d P λe=>(T e).trans (z e);refine h O h' P ?_;rw[Z7 X];exact⟨o',d,_,t',a9,a2 a3,b4,I',b8,by rw[z',c,V]; simp,b7,λq=>by rw[a7]at q; cases q⟩
   ·simp only[Z6 a1,if_false];refine Qx (h O _ R ?_);rw[Z7 X];exact⟨_,_,_,l,hg,a3,rfl,I2,fe,by rw[c,V]; simp,fm,λq=>by rw[c]; lia⟩
  cases c1:(t.put j).1.plain with
  |true=>
   simp only[if_true];refine Qq (qa2 U ?_);simp only[if_true];exact C O _ I1 r
  |false=>
   simp only[ if_false];refine Qq (Qx ?_);simp only[if_true];exact C O _ I1 r
 ·-- it is there
  refine Qx ?_;obtain⟨i,b,g,hi,hb⟩:=a8;have hk:=(f k).mpr ⟨g,b,Qqe (by rw[Qq1]; exact hi),hb⟩;have e:s={ s with heap:=s.heap }:=by cases s; rfl
  rw[e];exact h Y5 s.heap (Heap.SameBut.refl a s.heap) (by rw[Z8 hk]; exact b6)
 ·have:t.mask<=31:=by rcases I.tb.mask with q|q<;>lia
  unfold SetTable.turns at hN
  lia
end
end ST
end
section
namespace ST
open PySem SetTable PyProof.Rows
noncomputable def addK(S:L (L J))(k:L J):L (L J):=if k∈S then S else S++[k]
noncomputable def distinct(ks:L (L J)):L (L J):=ks.foldl addK []
def qn3(S)(k):(addK S k).length<=S.length+1:=by unfold addK; split<;>simp
theorem foldK_le:∀(l S:L (L J)),(l.foldl addK S).length<=S.length+l.length
 |[],S=>by simp
 |k::l,S=>by
  have:=foldK_le l (addK S k);have:=qn3 S k;rw[Qjf,Qqg]; lia
section
variable {prog:Program}{w:Qj}{A:Qk}{R:Result->Qz->Prop}{I:Y7}{fp wr:L Y7}{G:Array GenState->Array GenState->Prop}{n:Y0}{P:Y0->Y8->Prop}{St:Y0->Qz->Prop}
def TS.keeps(x:TS prog w h a S)(hk:∀b o,(b=a\/∃k,IsTupleKey ?k h k b)->h.get? b=Y o->h'.get? b=Y o):TS prog w h' a S:=by
 obtain⟨o,es,D,t,y,u,hd,I,j,p,f,C⟩:=x;have kp:∀{b:Y7}{d:L J},IsTupleKey ?k h d b->IsTupleKey ?k h' d b:=λ{b d} q=>by
  obtain⟨o',c,n,s,r⟩:=id q;exact⟨o',c,n,hk b o' (.inr ⟨d,q⟩) s,r⟩
 refine⟨o,es,D,t,hk a o (.inl rfl) y,u,hd,I,λi e z=>?_,p,λk=>?_,C⟩
 ·obtain⟨b,k,v,q⟩:=j i e z;exact⟨b,k,v,kp q⟩
 ·rw[f k];constructor
  ·rintro⟨g,b,l,m⟩; exact⟨g,b,l,kp m⟩
  ·rintro⟨g,b,l,m⟩;obtain⟨i,hi,F⟩:=Qz9 l;obtain⟨H,d,v,q⟩:=j i (g,.ref b) (by rw[<- Qq1,Qqh hi,F]);have E:=Value.ref.inj (congrArg Prod.snd v);subst E;obtain rfl:=m.inj (kp q);exact⟨g,b,l,q⟩
def qm1(hu:A.in1.units<cLine)(W:WalksS prog w A.in1 I fp wr G n P St)(S)(T:S ∉ fp)(r:∀b∈wr,∀s i,St i s->¬ ∃k,IsTupleKey ?k s.heap k b)(ks)(hn:ks.length=n)(b0:n<=16)(u:∀i v,P i v->∃b,v=.ref b)(Kp:Qz->Prop)(a4:∀s i b,Kp s->P i (.ref b)->∃k,ks[i]?=Y k/\IsTupleKey ?k s.heap k b)(K:∀s s',Kp s->(∀b o,(∃k,IsTupleKey ?k s.heap k b)->s.heap.get? b=Y o->s'.heap.get? b=Y o)->Kp s'):
  ∀(k i:Y0) (s:Qz),n - i=k->i<=n->St i s->Kp s->TS prog w s.heap S ((ks.take i).foldl addK [])->
   (∀s',Moved (S::wr) G s s'->TS prog w s'.heap S (distinct ks)->R (.ok (.ret .none)) s')->
   Zd ?q A (.builtin "set.update.loop" ⟨[.ref S,.ref I],[]⟩) R s:=by
 have a7:=λh=>T (W.sub _ h);have d:∀b∈wr,b∈S::wr:=λb hb=>Qqp _ hb
 have p:∀{s s':Qz}{i:Y0}{Lq:L (L J)},St i s->Moved wr G s s'->TS prog w s.heap S Lq->TS prog w s'.heap S Lq:=λ{s s' i Lq} st f x=>x.keeps λb o hb C=>f.heap b o (λhw=>by
  rcases hb with rfl|hb
  ·exact a7 hw
  ·exact r b hw s i st hb) C
 intro k
 induction k with
 |zero=>
  intro i s hk hi a X hS hR;have a5:i=n:=by lia
  subst a5;refine Zb F.entry_set_update_loop ?_;rw[Around.under_plainId F.plain_set_update_loop _];refine Qq (W.done s _ _ a λs' f=>Qx (hR s' (f.mono d) (p a f ?_)));rw[<- hn,Qzm]at hS;exact hS
 |succ k ih=>
  intro i s hk hi a X hS hR;have E:i<n:=by lia
  refine Zb F.entry_set_update_loop ?_;rw[Around.under_plainId F.plain_set_update_loop _];refine Qq (W.item i s _ _ E a λv s' hP y f=>?_);obtain⟨b,rfl⟩:=u i v hP;have g:=K s s' X λj o hb C=>f.heap j o (λhw=>r j hw s i a hb) C;obtain⟨key,N,hb⟩:=a4 s' i b g hP;have V:=p a f hS;refine Qq (Qo ?_);unfold setAdd;refine Qo ?_;refine Qq (wpAny_pyHash_tuple hu hb ?_);have H:((ks.take i).foldl addK []).length<=15:=by
   have:=foldK_le (ks.take i) [];rw[Qzv]at this;simp at this
   lia
  have a3:(ks.take (i+1)).foldl addK []=addK ((ks.take i).foldl addK []) key:=by
   rw[Qjo,N,Qjk]; rfl
  refine add_ok hu V hb H λ_ h' l a9=>?_;have a8:TS prog w h' S ((ks.take (i+1)).foldl addK []):=by rw[a3]; exact a9
  have a1:∀{j:Y7},(∃k,IsTupleKey ?k s'.heap k j)->j≠S:=λ{j} ⟨k',q⟩ z=>by
   obtain⟨o,es,ep,t,C,_,hd,_⟩:=V;obtain⟨o',a2,m,c,_,Q,_⟩:=q;rw[z]at c;obtain rfl:o'=o:=Option.some.inj (c.symm.trans C);rw[hd]at Q; exact nomatch Q
  refine Qx ⟨plainId_quiet F.plain_set_update_loop _,ih (i+1) _ (by lia) E (W.frame _ s' _ _ y (Qja _ _) λb hb o e=>?_) (K s' _ g λj o a6 c=>(l.2 j (a1 a6)).trans c) a8 λa0 D U=>?_⟩
  ·rw[l.2 b (λh:b=S=>T (by rw[<- h]; exact hb))]; exact e
  ·refine hR a0 (Moved.trans W.gtrans ((f.mono d).then_heap (Qja _ _) λb o hb e=>?_) D) U;rw[l.2 b (λh:b=S=>hb (by rw[h]; exact Qq3))]; exact e
end
end ST
end
section
namespace ST
open PySem SetTable
def qfo:isSubtype (.type "tuple") (.type "set")=pure false:=by rw[Ze]; kernel_rfl
def qw5:isSubtype (.type "tuple") (.type "frozenset")=pure false:=by rw[Ze]; kernel_rfl
noncomputable abbrev bare(led:Ya):Obj:={ cls:=.type "set",dict:=B,data:=.set #[] 0 (.fresh 0 0 led) }
def Cells(prog:Program)(w:Qj)(h:Heap)(items:Array Y8)(ks:L (L J)):Prop:=∀(i:Y0) (v:Y8),items[i]?=Y v->∃b k,v=.ref b/\ks[i]?=Y k/\IsTupleKey ?k h k b
section
def qg9(calm:Bq.handled=B)(room:Bq.units+4<cLine)(tup:c.IsTuple l items)(d:Cells prog w c items ks)(X:ks.length=items.size)(W:items.size<=16)(hs:s.heap=c.push (bare a))(done:∀h1 k1,TS prog w h1 c.objs.size (distinct ks)->(∀b o,b<c.objs.size->c.get? b=Y o->h1.get? b=Y o)->K (.done (.ret .none)) { s with heap:=h1,toks:=k1 }):
  wpAny ?q Bq (Qt.«set.__init__» ⟨[.ref c.objs.size,.ref l],[]⟩) K E s:=by
 obtain⟨I,gs,dr,tk,os⟩:=s;subst hs;obtain⟨⟨tc,td,G,Q⟩,H,S,nl,R⟩:=id tup;subst S R;have t:(c.push (bare a)).get? c.objs.size=Y (bare a):=Qql _ rfl;have C:=Qqx (bare a) H;have a1:=qfo;have a2:=qw5;have a3:(Value.type "tuple" == Value.type "dict")=false:=by decide
 have a0:Shared.TypeIs ⟨c.push (bare a),gs,dr,tk,os⟩ (.ref c.objs.size) "set":=⟨_,t,rfl⟩
 have g:(c.push (bare a)).IsTuple l items:=⟨_,C,rfl,nl,rfl⟩
 unfold Qt.«set.__init__» noKeywords Builtin.Frozenset.updateFrom;generalize ei:pyIter=D
 wp_walk
 subst ei;refine wpAny_pyIter_tuple g (Qq (wpAny_runValue ?_));have p:=Qqf H;have sz:(c.push (bare a)).objs.size=c.objs.size+1:=Qxx ..;have V:l≠(c.push (bare a)).objs.size:=by rw[sz]; exact Qq4 (Qxu p)
 have U:c.objs.size ∉ [(c.push (bare a)).objs.size,l]:=by
  rw[sz];simp only[Qqy,Qzq,or_false,not_or];exact⟨Qq4 (Qzc _),Qxb p⟩
 refine qm1 (by show Bq.units+1<cLine; lia) ((Walks.tuple (by simp[calm]) _ l V items).toS) c.objs.size U ?f ks X W (λi v hv=>?isRef)
  (λz=>∀(i:Y0) (b:Y7),items[i]?=Y (.ref b)->∃k,ks[i]?=Y k/\IsTupleKey ?k z.heap k b) (λz i b q I=>q i b I) ?stay items.size 0 _ rfl (Qza _) ⟨⟨_,Qql _ rfl,rfl,rfl⟩,?j⟩ ?keys ?empty ?fin
 case isRef=>obtain⟨b,_,e,_⟩:=d i v hv; exact⟨b,e⟩
 case j=>obtain⟨ob,e1,e2⟩:=g; exact⟨ob,Qqx _ e1,e2⟩
 case f=>
  rintro b hb z i ⟨⟨ob,P,_,N⟩,_⟩ ⟨_,n,_,_,h,_,F,_⟩;rw[Qqb.mp hb,P]at h;cases h;rw[N]at F;cases F
 case stay=>
  intro z1 z2 q keep i b hb;obtain⟨k,e,y⟩:=q i b hb;obtain⟨n,it,m,h,r⟩:=id y;exact⟨k,e,n,it,m,keep b n ⟨k,y⟩ h,r⟩
 case keys=>
  intro i b hb;obtain⟨b',k,e,ek,n,it,m,h,r⟩:=d i _ hb;cases e;exact⟨k,ek,n,it,m,Qqx _ (Qqx _ h),r⟩
 case empty=>exact⟨_,#[],0,_,Qqx _ t,⟨rfl,rfl,rfl⟩,rfl,qhv a,λi e he=>by simp at he,rfl,λk=>by simp,λ_=>by simp⟩
 case fin=>
  intro z mv q;obtain⟨h1,a4,a5,u,T⟩:=z;obtain⟨m1,rfl,rfl,rfl,_⟩:=mv;refine Qx (Qx (done h1 u q λb o hb e=>m1 b o ?_ (Qqx _ (Qqx _ e))));have A:=Qq4 hb;have x:b≠(c.push (bare a)).objs.size:=by rw[sz]; exact Qq4 (Qxu hb)
  simp only[Qqy,Qzq,or_false,not_or];exact⟨A,x⟩
end
section
theorem TS.size(x:TS prog w h a S)(f:S.length<=16):∃o es c t,h.get? a=Y o/\o.ExactSet/\o.data=.set es c t/\t.fits es.size=O/\(es.size:J)<2 ^ 63/\es.size=S.length:=by
 obtain⟨o,es,c,t,e,b,hd,I,_,d,_⟩:=x;exact⟨o,es,c,t,e,b,hd,I.fits,by omega,d⟩
def set_call(calm:A.handled=B)(room:A.units+12<cLine)(tup:s.heap.IsTuple l c)(g:Cells prog w s.heap c ks)(m:ks.length=c.size)(j:c.size<=16)(k:∀h1 f,TS prog w h1 s.heap.objs.size (distinct ks)->(∀b o,b<s.heap.objs.size->s.heap.get? b=Y o->h1.get? b=Y o)->Q (.ref s.heap.objs.size) { s with heap:=h1,toks:=f }):
  wpAny ?q A (call (.type "set") [.ref l]) Q E s:=by
 have e:=F.called_set;obtain⟨_,_,D⟩:=e.mro;have C:=e.made;have y:=e.sub;have x:=e.notType;have v:=e.canCreate;have u:=F.typeCall_set_1 (.ref l);refine wpAny_call (codeAny_of_tree (Qx ⟨Code.quiet_builtin _ (by decide +kernel),Zb F.entry_type_call ?_⟩));rw[Around.under_plain (weight_type_call_type "set" [.ref l] []) rfl]
 repeat (any_goals (first|assumption|wp_step))
 refine Zq (code_set_new_1 (.ref l) (E:=E) (Q₁:=λob z=>∃d,ob=.ref s.heap.objs.size/\z={ s with heap:=s.heap.push (bare d) }) λd=>⟨d,rfl,rfl⟩) λr z hr=>?_
 match r,hr with
 |.error _,hr=>exact hr
 |.ok .next,hr=>exact hr.elim
 |.ok .brk,hr=>exact hr.elim
 |.ok .cont,hr=>exact hr.elim
 |.ok (.ret ob),hr=>
  obtain⟨d,rfl,rfl⟩:=hr;have h:Shared.TypeIs { s with heap:=s.heap.push (bare d) } (.ref s.heap.objs.size) "set":=⟨_,Qql _ rfl,rfl⟩
  have t:=e.init.lookup;have p:=e.init.bind (.ref s.heap.objs.size)
  repeat (any_goals (first|assumption|wp_step))
  refine Zq (codeAny_call_builtin (R:=wants (λr z=>r=.none/\∃h1 f,z={ s with heap:=h1,toks:=f }/\TS prog w h1 s.heap.objs.size (distinct ks)/\∀b o,b<s.heap.objs.size->s.heap.get? b=Y o->h1.get? b=Y o) E) e.init.plain F.entry_set_init (check_set_init_1 h ?_)) λi n a=>?_
  ·exact qg9 (by simp[calm]) (by show A.units+1+1+4<cLine; omega) tup g m j rfl λh1 f q keep=>⟨rfl,h1,f,rfl,q,keep⟩
  ·match i,a with
   |.error _,a=>exact a
   |.ok .next,a=>exact a.elim
   |.ok .brk,a=>exact a.elim
   |.ok .cont,a=>exact a.elim
   |.ok (.ret _),a=>
    obtain⟨rfl,h1,f,rfl,q,keep⟩:=a
    repeat (any_goals (first|assumption|wp_step))
    exact k h1 f q keep
end
end ST
end
section
namespace MS
open PySem PySem.Spec PyProof.Rows L2
noncomputable def setO(a:Y7)(n:Y0):HO:=.ext λh=>∃o es ep t,h.get? a=Y o/\o.ExactSet/\o.data=.set es ep t/\t.fits es.size=O/\(es.size:J)<2 ^ 63/\es.size=n
def qn5(K:Qqq)(H:Hp):L V->L (L J)->Prop:=Paired λy k=>∃q,y=.ref q/\SqT K H q (k.map V.int)
theorem items_int:∀{k}{a},Vals (k.map V.int) a->ItemsAre ?k k a
 |[],_,h=>by cases h; exact .nil
 |i::k,_,h=>by
  cases h with
  |cons r t=>
   obtain⟨b,rfl⟩:=r;exact .cons (intKind_is _ _ _ _) (items_int t)
section
def qlx(I:Inv X a c H s)(h:SqT X.K H q (k.map V.int)):IsTupleKey (intKind X.prog X.w) s.heap k q:=by
 obtain⟨b,r,⟨o,d,hc,n,hd⟩,_⟩:=I.tuple h;exact⟨o,b.toArray,n,d,hc,hd,items_int r⟩
theorem qat(I:Inv X a d H s):∀{ys}{ks}{c},qn5 X.K H ys ks->Vals ys c->
  ∀(i:Y0) (v:Y8),c[i]?=Y v->∃b k,v=.ref b/\ks[i]?=Y k/\IsTupleKey (intKind X.prog X.w) s.heap k b
 |_,_,_,.nil,r,i,v,e=>by cases r; simp at e
 |_,_,_,.cons (b:=k) h t,r,i,v,e=>by
  cases r with
  |cons g f=>
   obtain⟨q,rfl,j⟩:=h
   cases i with
   |zero=>
    simp at e;subst e;cases g;exact⟨q,k,rfl,rfl,qlx I j⟩
   |succ i=>
    simp only[Qkq]at e ⊢;exact qat I t f i v e
def qe2(calm:X.A.handled=B)(room:X.A.units+64<cLine):qqh X (.type "set") (λxs H Q=>∃p ys ks,xs=[.ref p]/\SqT X.K H p ys/\qn5 X.K H ys ks/\ys.length<=16/\∀l,H l=B->Q (.ref l) (upd H l (setO l (ST.distinct ks).length))):=by
 intro pins s σ H xs G Q I r h;obtain⟨p,ys,ks,rfl,x,hc,S,q⟩:=h;obtain⟨u,rfl,m⟩:=vals1 r;cases m;obtain⟨w,r',⟨o,y,a,n,hd⟩,R⟩:=I.tuple x;have N:=r'.length;have K:=Paired.length hc;refine ST.set_call calm (by lia) ⟨o,y,a,n,hd⟩ (λi v e=>qat I hc r' i v (by simpa using e)) (by simp; lia) (by simp; lia) λh1 P T keep=>?_;have le:=ST.foldK_le ks []
 obtain⟨g,es,z,t,j,F,E,D,C,A⟩:=T.size (by
  show(ks.foldl ST.addK []).length<=16
  simp at le; lia)
 refine⟨.ref s.heap.objs.size,_,I.laid (λb o e=>keep b o (Qqf e) e) (Qqv _) ?_,rfl,q _ (I.hok.fresh (Qqv _))⟩;exact⟨⟨g,es,z,t,j,F,E,D,C,A⟩,⟨g,j⟩,λh2 U ⟨f,c,d,k,b1,b2⟩ kp=>⟨f,c,d,k,kp f b1,b2⟩⟩
def qe6:qqh X (.builtin "len") (λxs H Q=>∃p n,xs=[.ref p]/\H p=Y (setO p n)/\Q (.int n) H):=by
 intro pins s σ H xs l Q I r h;obtain⟨p,n,rfl,c,q⟩:=h;obtain⟨u,rfl,a⟩:=vals1 r;cases a;obtain⟨⟨o,es,m,t,k,j,i,g,f,d⟩,_⟩:=(I.hok p _ c)
 refine call_len_set k j i g f ?_;exact⟨.int n,H,I.kept (λb o e=>e),⟨_,by rw[d]⟩,q⟩
end
end MS
end
section
namespace MS
open PySem PySem.Spec PyProof.Rows L2
open M (D Y3)
section
theorem qae{K:Qqq}:∀{ds}{xs}{k},IsDs K m H ds xs->(ds.mapM λd=>match d with|.int i=>Y i|_=>B)=Y k->xs=k.map V.int
 |[],xs,k,h,e=>by
  simp at e;subst e;exact Qz7.mp h.length.symm
 |d::ds,xs,k,h,e=>by
  rw[Qkb]at e
  cases d with
  |int i=>
   obtain⟨x,r,rfl,h1,h2⟩:=h.cons
   cases a:(ds.mapM λd=>match d with|M.D.int i=>Y i|_=>B) with
   |none=>rw[a]at e; cases e
   |some b=>
    rw[a]at e;cases e;rw[h1.int,qae h2 a]; rfl
  |_=>exact nn e
theorem qdu{K:Qqq}:∀{ds}{xs}{ks},IsDs K m H ds xs->ds.mapM M.keyD=Y ks->qn5 K H xs ks
 |[],xs,ks,h,e=>by
  simp at e;subst e;rw[Qz7.mp h.length.symm];exact .nil
 |d::ds,xs,ks,h,e=>by
  rw[Qkb]at e
  cases d with
  |tup cs=>
   obtain⟨x,r,rfl,h1,h2⟩:=h.cons
   cases a:M.keyD (.tup cs) with
   |none=>rw[a]at e; cases e
   |some k=>
    cases b:ds.mapM M.keyD with
    |none=>rw[a,b]at e; cases e
    |some f=>
     rw[a,b]at e;cases e;obtain⟨c,ys,rfl,i,g⟩:=h1.tup;refine .cons ⟨c,rfl,?_⟩ (qdu h2 b);rw[<- qae g a]; exact i
  |_=>exact nn e
end
end MS
end
section
namespace MS
open PySem PySem.Spec PyProof.Rows L2
open M (D Yb Y3 Sl E S T Src Fn Out R)
def qbk{E:TT}(hc:X.calm=O)(S:CompScope X N src c)(hi:PI X tg d A)(hg:∀C fp s H,PG (qzp X N c C fp s H) tg g)(V:∀C fp s H,qb3 (qzp X N c C fp s H) ifs E)(he:∀C fp s H,PE (qzp X N c C fp s H) elt F)(hs:∀x,foldedSetIterable d X.env x=pure x)(hN:X.N.Nodup)(U:X.N[i]?=Y x)(hl:Loc X.env.scope x)(hf:X.fn x=O\/X.env.scope.names.lookup x=Y .local)(p:swapsWith (.ListComp elt [⟨tg,d,ifs,0⟩] c j) (Y (.Name x f)) pos.line X.env=pure O):
  PS X (.Assign [.Name x f] (.ListComp elt [⟨tg,d,ifs,0⟩] c j) pos) (tAsg (qly src A g E F) (qyf i)):=by
 intro pins s σ H D I h;rw[exec_Assign_Name_used _ _ _ _ p];refine Qq (wpAny_standAt (Qq ?_));refine Qq (Qh (wpAny_comprehension_free rfl hs (qwm S I) S.kind S.loc (thn (hi pins s σ H _ I h) λv s1 h1=>thn h1 λR n h2=>?_)) (λ_ s' hq=>Qx (Qx hq)) λ_ _ e=>e);obtain⟨it,fp,tn,Jq,H2,e,I2,T,l,f2,W,G,k⟩:=h2;subst e;refine qk1 hc I2 T l f2 S (λC=>hg C fp n H2) (λC=>V C fp n H2) (λ_ C=>he C fp n H2) (λ_ _ _ _ _ z=>z.elim) W G k ?_;intro y C s' H' a0 u Q I' fC hm;obtain⟨m',hn⟩:=hm;obtain⟨c0,c1,c2,c3,c4,c5⟩:=fC;refine wpAny_assign_Name (qvr I' hN U hl (show RelV (.ref y) (.ref y) from rfl) (λP w r=>?_) hf);obtain⟨a,K,ha⟩:=r;have t:C≠a:=by
  rcases ha with z|z
  ·rw[z]; exact c1
  ·exact λq=>c4 x a z q.symm
 exact⟨m',hn.sameBut K t,λh' m=>⟨_,_,w.turned (λb o hb e=>(m.2 b hb).trans e) c0 c1 c3 c4 c5,u y Q⟩⟩
noncomputable def iSeq(K:Qqq)(tl:TE):TI:=λσ H R=>tl σ H λx H1=>(∃a,x=.ref a/\(((∃xs,SqL K H1 a xs)/\R (Itl K a) H1)\/((∃xs,SqT K H1 a xs)/\R (Itt K a) H1)))
def pi_seq(n:PE X l tl):PI X tg l (iSeq X.K tl):=by
 intro pins s σ H R I h;refine thn (n pins s σ H _ I h) λv d ⟨x,H1,c,j,k⟩=>?_;obtain⟨a,e,q⟩:=k;subst e;cases j;rcases q with⟨⟨xs,g⟩,q⟩|⟨⟨xs,g⟩,q⟩
 ·obtain⟨f,i,p,m⟩:=c.list g;refine Zf p.isList ?_;refine⟨d.heap.objs.size,[d.heap.objs.size],_,_,H1,rfl,c.kept λb o e=>Qqx _ e,qb5 a _,⟨_,Qql _ rfl,rfl,rfl⟩,λb hb=>?_,q⟩;have e:b=d.heap.objs.size:=by simpa using hb
  subst e;exact c.fpOk (Qqv _) (c.hok.fresh (Qqv _))
 ·obtain⟨f,i,p,m⟩:=c.tuple g;refine wpAny_pyIter_tuple (p) ?_;refine⟨d.heap.objs.size,[d.heap.objs.size],_,_,H1,rfl,c.kept λb o e=>Qqx _ e,qa3 a _,⟨_,Qql _ rfl,rfl,rfl⟩,λb hb=>?_,q⟩;have e:b=d.heap.objs.size:=by simpa using hb
  subst e;exact c.fpOk (Qqv _) (c.hok.fresh (Qqv _))
structure Glo where
 cs:L (Y4×D)
 ds:L (Y4×L Y4×L D)
 /-- a method's place among the functions,its class,its name -/
 ms:L (Y0×Y7×Y4)
 /-- the classes -/
 cl:L (Y4×Y7)
 /-- attributes of instances -/
 ats:L (Y7×Y4)
structure Ctx where
 N:L Y4
 sc:Scope
 fns:L Y4
 glo:Glo
noncomputable def qn1:M.Bq->String
 |.len=>"len"
 |.min=>"min"
 |.tuple=>"tuple"
 |.list=>"list"
 |.all=>"all"
 |.sorted=>"sorted"
 |.any=>"any"
 |.int=>"int"
noncomputable def bOk:M.Bq->Ya
 |.len=>O
 |.min=>O
 |.tuple=>O
 |.list=>O
 |.all=>O
 |.sorted=>O
 |.any=>O
 |.int=>O
noncomputable def qbj(scope sc:Scope):Scope:={ scope with names:=scope.names.map λ(n,k)=>if (k==NameKind.free&&sc.kind==.function&&sc.names.lookup n==Y .cell) then(n,NameKind.cell) else(n,k) }
noncomputable def tlOk(N:L Y4)(sc:Scope)(t:T):Bool:=t.slots.all λi=>match N[i]? with
 |some x=>sc.names.lookup x==Y .local
 |none=>Y5
def qcv(h:tlOk N sc t=O):∀i∈t.slots,∀x,N[i]?=Y x->sc.names.lookup x=Y .local:=by
 intro i hi x a;unfold tlOk at h;have:=Qzx.mp h i hi;rw[a]at this;simpa using this
noncomputable def qgt(x:Y4):Bool:=!x.cps.toList.contains 46
def MTree(pa:Expr)(m:Y4)(apos:Pos)(ps:L Expr)(pos:Pos):Prop:=∀env,∃pl:Sem Ya,Qw (.Call (.Attribute pa m apos) ps [] pos) env=(do
 let ov <- Qw pa env
 Zo apos.atName
 let (f,first) <- Q5 [ov] (Z2 ov m pl)
 callWith pos f first (backTo pos (starEach ps env)) (backToKw pos (keywordEach [] env)))
def Star(p:Expr):Prop:=∀es env,starEach (p::es) env=(Y5,Qw p env)::starEach es env
inductive CkTs (c:Ctx):L Y0->L Expr->Prop
 |nil:CkTs c [] []
 |cons {i x pos is es} (hN:c.N[i]?=Y x) (hl:c.sc.names.lookup x=Y .local\/c.sc.names.lookup x=Y .cell) (h:CkTs c is es):CkTs c (i::is) (.Name x pos::es)
inductive CkT (c:Ctx):T->Expr->Prop
 |tup {is es k pos} (h:CkTs c is es):CkT c (.tup is) (.Tuple es k pos)
 |var {i x pos} (hN:c.N[i]?=Y x) (hl:c.sc.names.lookup x=Y .local\/c.sc.names.lookup x=Y .cell):CkT c (.var i) (.Name x pos)
noncomputable def gcOk:Expr->Ya
 |.Call _ _ _ _=>O
 |.ListComp _ _ _ _=>O
 |.List _ _=>O
 |.BinOp _ _ _ _=>O
 |.Subscript _ _ _=>O
 |_=>Y5
inductive CkL (R:E->Expr->Prop):L E->L Expr->Prop
 |nil:CkL R [] []
 |cons {e es p ps} (h:R e p) (t:CkL R es ps):CkL R (e::es) (p::ps)
inductive CkP (R:E->Expr->Prop):L E->L (Y2 Expr)->L Expr->Prop
 |nil:CkP R [] [] []
 |cons {k v es pk pv ks vs} (hk:R k pk) (hv:R v pv) (t:CkP R es ks vs):CkP R (k::v::es) (Y pk::ks) (pv::vs)
inductive CkO (R:E->Expr->Prop):Y2 E->Y2 Expr->Prop
 |none:CkO R B B
 |some {e p} (h:R e p):CkO R (Y e) (Y p)
inductive CkI (R:E->Expr->Prop):Ctx->Expr->E->Expr->Prop
 |rng1 {c tg a pa p0 pos} (hg:c.sc.names.lookup ("range" : Y4)=Y .globalImplicit) (ha:R a pa):CkI R c tg (.rng1 a) (.Call (.Name "range" p0) [pa] [] pos)
 |rng2 {c tg a b pa pb p0 pos} (hg:c.sc.names.lookup ("range" : Y4)=Y .globalImplicit) (ha:R a pa) (hb:R b pb):CkI R c tg (.rng2 a b) (.Call (.Name "range" p0) [pa,pb] [] pos)
 |zip {c es k tp a b pa pb p0 pos} (hg:c.sc.names.lookup ("zip" : Y4)=Y .globalImplicit) (ha:R a pa) (hb:R b pb):CkI R c (.Tuple es k tp) (.zip a b) (.Call (.Name "zip" p0) [pa,pb] [] pos)
 |enu {c es k tp a pa p0 pos} (hg:c.sc.names.lookup ("enumerate" : Y4)=Y .globalImplicit) (ha:R a pa):CkI R c (.Tuple es k tp) (.enu a) (.Call (.Name "enumerate" p0) [pa] [] pos)
 |rev {c tg a pa p0 pos} (hg:c.sc.names.lookup ("reversed" : Y4)=Y .globalImplicit) (ha:R a pa):CkI R c tg (.rev a) (.Call (.Name "reversed" p0) [pa] [] pos)
 |seq {c tg e p} (h:R e p):CkI R c tg e p
noncomputable abbrev inOp(neg:Ya):CmpOp:=if neg then .NotIn else .In
noncomputable abbrev Ctx.inn(c:Ctx)(N:L Y4)(sc:Scope):Ctx:=⟨N,qbj sc c.sc,c.fns,c.glo⟩
structure CpOk (c:Ctx) (sc:Scope) (sr:L (Y2 Y0)) (N:L Y4) (iter:Expr) (t:T):Prop where
 kind:sc.kind=.function
 cell:∀y∈sc.names,y.2≠.cell
 free:∀y∈sc.names,y.2=.free->c.sc.names.lookup y.1=Y .cell\/c.sc.names.lookup y.1=Y .free
 loc:∀y∈sc.names,y.2=.local->sc.names.lookup y.1=Y .local
 len:sr.length=N.length
 src:∀(j i:Y0),sr[j]?=Y (Y i)->∃x,N[j]?=Y x/\c.N[i]?=Y x/\sc.names.lookup x=Y .free
 nd:N.Nodup
 fs:∀env x,foldedSetIterable iter env x=pure x
 tl:tlOk N (qbj sc c.sc) t=O
noncomputable def boT(op:BoolOp)(pos:Pos):L Expr->Expr
 |[p]=>p
 |ps=>.BoolOp op ps pos
noncomputable def mName:M.Mt->Y4
 |.append=>"append"
 |.extend=>"extend"
 |.index=>"index"
 |.insert=>"insert"
noncomputable def shOk:Expr->Ya
 |.Starred ..=>Y5
 |.Slice ..=>Y5
 |.Set ..=>Y5
 |.SetComp ..=>Y5
 |.DictComp ..=>Y5
 |.Call (.Name _ _) [] _ _=>Y5
 |_=>O
noncomputable def qv2:E->Ya
 |.rng1 _=>Y5
 |.rng2 _ _=>Y5
 |.zip _ _=>Y5
 |.enu _=>Y5
 |.rev _=>Y5
 |_=>O
inductive CkV:Ctx->E->Y4->Prop
 |var {c i x} (hN:c.N[i]?=Y x) (hv:Vis c.sc x) (hd:(x==("__debug__" : Y4))=Y5) (hcd:(x==("__classdict__" : Y4))=Y5):CkV c (.var i) x
 |glo {c x d} (hg:c.sc.names.lookup x=Y .globalImplicit) (hm:(x,d)∈c.glo.cs) (hd:(x==("__debug__" : Y4))=Y5):CkV c (.glo x d) x
inductive CkG (R:Ctx->E->Expr->Prop):Ctx->E->Expr->Prop
 |nm {c a x pos} (h:CkV c a x):CkG R c a (.Name x pos)
 |int {c i j pos}:CkG R c (.lit (.int i)) (.Constant (.int i) j pos)
 |bl {c i j pos}:CkG R c (.lit (.bl i)) (.Constant (.bool i) j pos)
 |non {c j pos}:CkG R c (.lit .non) (.Constant .none j pos)
 |str {c i j pos}:CkG R c (.lit (.str i)) (.Constant (.str i) j pos)
 |bin {c op a b pa pb pos} (ha:R c a pa) (hb:R c b pb):CkG R c (.bin op a b) (.BinOp pa op pb pos)
 |lenset {c a pa p0 p1 pos1 pos} (hg:c.sc.names.lookup ("len" : Y4)=Y .globalImplicit) (hs:c.sc.names.lookup ("set" : Y4)=Y .globalImplicit) (ha:R c a pa):CkG R c (.lenset a) (.Call (.Name "len" p0) [.Call (.Name "set" p1) [pa] [] pos1] [] pos)
 |neg {c a pa pos} (ha:R c a pa):CkG R c (.neg a) (.UnaryOp .USub pa pos)
 |not {c a pa pos} (ha:R c a pa):CkG R c (.not a) (.UnaryOp .Not pa pos)
 |cmp {c op a b pa pb pos} (ha:R c a pa) (hb:R c b pb):CkG R c (.cmp op a b) (.Compare pa [op] [pb] pos)
 |cmp2 {c op op' a b d pa pb pd pos} (ha:R c a pa) (hb:R c b pb) (hd:R c d pd):CkG R c (.cmp2 op op' a b d) (.Compare pa [op,op'] [pb,pd] pos)
 |tup {c es ps k pos} (h:CkL (R c) es ps):CkG R c (.tup es) (.Tuple ps k pos)
 |lst {c es ps pos} (h:CkL (R c) es ps):CkG R c (.lst es) (.List ps pos)
 |idx {c a b pa pb pos} (ha:R c a pa) (hb:R c b pb):CkG R c (.idx a b) (.Subscript pa pb pos)
 |call {c f x es p ps p0 pos} (hg:c.sc.names.lookup x=Y .globalImplicit) (hf:c.fns[f]?=Y x) (hd:(x==("__debug__" : Y4))=Y5) (hn:qgt x=O) (h:CkL (R c) es (p::ps)):CkG R c (.call f es) (.Call (.Name x p0) (p::ps) [] pos)
 |bcall {c b es p ps p0 pos} (hg:c.sc.names.lookup (Str.ofString (qn1 b))=Y .globalImplicit) (hb:bOk b=O) (h:CkL (R c) es (p::ps)):CkG R c (.bcall b es) (.Call (.Name (Str.ofString (qn1 b)) p0) (p::ps) [] pos)
 |isi1 {c t a pa p0 p1 pos} (hg:c.sc.names.lookup ("isinstance" : Y4)=Y .globalImplicit) (ht:t≠.non) (hgt:c.sc.names.lookup (Str.ofString t.name)=Y .globalImplicit) (ha:R c a pa):CkG R c (.isi a [t] Y5) (.Call (.Name "isinstance" p0) [pa,.Name (Str.ofString t.name) p1] [] pos)
 |dgt {c a b pa pb apos cpos} (ha:R c a pa) (hb:R c b pb) (hl:(apos.endLine==cpos.line)=O):CkG R c (.dgt a b) (.Call (.Attribute pa "get" apos) [pb] [] cpos)
 |dic0 {c pos}:CkG R c (.dic []) (.Dict [] [] pos)
 |dic {c es k v ks vs pos} (h:CkP (R c) es (k::ks) (v::vs)) (h15:(k::ks).length<=15):CkG R c (.dic es) (.Dict (k::ks) (v::vs) pos)
 |didx {c a b pa pb pos} (ha:R c a pa) (hb:R c b pb):CkG R c (.didx a b) (.Subscript pa pb pos)
 |gidx {c x ks ds b pb p0 pos} (hg:c.sc.names.lookup x=Y .globalImplicit) (hm:(x,ks,ds)∈c.glo.ds) (hd:(x==("__debug__" : Y4))=Y5) (hb:R c b pb):CkG R c (.gidx x ks ds b) (.Subscript (.Name x p0) pb pos)
 |sli {c a lo hi pa pl ph p2 pos} (ha:R c a pa) (hl:CkO (R c) lo pl) (hh:CkO (R c) hi ph):CkG R c (.sli a lo hi) (.Subscript pa (.Slice pl ph B p2) pos)
 |attr {c C a f pa pos} (ha:R c a pa) (hc:(C,f)∈c.glo.ats):CkG R c (.attr C a f) (.Attribute pa f pos)
 |mcall {c C f m x cn a es pa ps apos pos} (ha:R c a pa) (hf:c.fns[f]?=Y x) (hm:(f,C,m)∈c.glo.ms) (hc:(cn,C)∈c.glo.cl) (h:CkL (R c) es ps) (hn:ps.length<30) (hl:(apos.endLine==pos.line)=O):CkG R c (.mcall C f m a es) (.Call (.Attribute pa m apos) ps [] pos)
 |new {c C f x cn es p ps p0 pos} (hg:c.sc.names.lookup cn=Y .globalImplicit) (hf:c.fns[f]?=Y x) (hm:(f,C,("__init__" : Y4))∈c.glo.ms) (hc:(cn,C)∈c.glo.cl) (hd:(cn==("__debug__" : Y4))=Y5) (h:CkL (R c) es (p::ps)):CkG R c (.new C f es) (.Call (.Name cn p0) (p::ps) [] pos)
 |and {c a b pa pb r pos} (ha:R c a pa) (hb:R c b (boT .And pos (pb::r))):CkG R c (.and a b) (.BoolOp .And (pa::pb::r) pos)
 |or {c a b pa pb r pos} (ha:R c a pa) (hb:R c b (boT .Or pos (pb::r))):CkG R c (.or a b) (.BoolOp .Or (pa::pb::r) pos)
 |meth {c a k es pa p ps apos cpos} (ha:R c a pa) (h:CkL (R c) es (p::ps)) (hn:(p::ps).length<30) (hl:(apos.endLine==cpos.line)=O):CkG R c (.meth a k es) (.Call (.Attribute pa (mName k) apos) (p::ps) [] cpos)
 |comp {c t it q elt sr tg iter pq pelt scope pos N} (ok:CpOk c scope sr N iter t) (hi:CkI (R c) c tg it iter) (ht:CkT (c.inn N scope) t tg) (hq:CkO (R (c.inn N scope)) q pq) (he:R (c.inn N scope) elt pelt):CkG R c (.comp t it q elt sr) (.ListComp pelt [⟨tg,iter,pq.toList,0⟩] scope pos)
 |din {c neg a b pa pb pos} (ha:R c a pa) (hb:R c b pb):CkG R c (.din neg a b) (.Compare pa [inOp neg] [pb] pos)
 |gin {c neg x ks ds b pb p0 pos} (hg:c.sc.names.lookup x=Y .globalImplicit) (hm:(x,ks,ds)∈c.glo.ds) (hd:(x==("__debug__" : Y4))=Y5) (hb:R c b pb):CkG R c (.gin neg x ks b) (.Compare pb [inOp neg] [.Name x p0] pos)
inductive CkF (R:Ctx->E->Expr->Prop):Ctx->E->Expr->Prop
 |of {c e p} (hs:shOk p=O) (hq:qv2 e=O) (h:CkG R c e p):CkF R c e p
 |gc {c a p} (hs:shOk p=O) (hq:qv2 a=O) (hp:gcOk p=O) (hg:∀b,a≠.gc b) (h:CkG R c a p):CkF R c (.gc a) p
noncomputable def CkN:Y0->Ctx->E->Expr->Prop
 |0=>λ_ _ _=>False
 |j+1=>CkF (CkN j)
abbrev CkE:=CkN 30
mutual
inductive CkS:Ctx->S->Stmt->Prop
 |set {c i e x p pos pos'} (hN:c.N[i]?=Y x) (hl:c.sc.names.lookup x=Y .local\/c.sc.names.lookup x=Y .cell) (h:CkE c e p) (hs:∀env,swapsWith p (Y (.Name x pos')) pos.line env=pure Y5):CkS c (.set (.var i) e) (.Assign [.Name x pos'] p pos)
 |setC {c i e x p pos pos'} (hN:c.N[i]?=Y x) (hl:c.sc.names.lookup x=Y .local\/c.sc.names.lookup x=Y .cell) (h:CkE c e p) (hc:∃elt gs sc q,p=.ListComp elt gs sc q) (hs:∀env:Env,env.scope=c.sc->(swapsWith p (Y (.Name x pos')) pos.line env=pure Y5\/swapsWith p (Y (.Name x pos')) pos.line env=pure O)):CkS c (.set (.var i) e) (.Assign [.Name x pos'] p pos)
 |dset {c a i e pa pi pe tpos pos} (ha:CkE c a pa) (hi:CkE c i pi) (he:CkE c e pe):CkS c (.dset a i e) (.Assign [.Subscript pa pi tpos] pe pos)
 |expr {c e p pos} (h:CkE c e p) (hs:∀env,swapsWith p B pos.line env=pure Y5):CkS c (.expr e) (.Expr p pos)
 |ret {c e p pos} (h:CkE c e p):CkS c (.ret e) (.Return (Y p) pos)
 |ite {c q a b pq pa pb pos} (hq:CkE c q pq) (ha:CkSs c a pa) (hb:CkSs c b pb):CkS c (.ite q a b) (.If pq pa pb pos)
 |forr {c t it body tg iter pb pos} (ht:CkT c t tg) (hi:CkI (CkE c) c tg it iter) (hs:∀env x,foldedSetIterable iter env x=pure x) (hb:CkSs c body pb):CkS c (.forr t it body) (.For tg iter pb [] pos)
 |setA {c C a f e pa pe tpos pos} (ha:CkE c a pa) (he:CkE c e pe) (hc:(C,f)∈c.glo.ats):CkS c (.setA C a f e) (.Assign [.Attribute pa f tpos] pe pos)
 |ford {c t a body tg pa pb pos} (ht:CkT c t tg) (ha:CkE c a pa) (hb:CkSs c body pb):CkS c (.ford t a body) (.For tg pa pb [] pos)
 |bad {c p}:CkS c .bad p
 |whil {c q body pq pb pos} (hq:CkE c q pq) (hb:CkSs c body pb):CkS c (.whil q body) (.While pq pb [] pos)
 |setT {c is e es k p pos tpos} (ht:CkTs c is es) (h:CkE c e p) (hw:∀env,swappedStores [.Tuple es k tpos] p env=pure B):CkS c (.set (.tup is) e) (.Assign [.Tuple es k tpos] p pos)
 |six {c a i e pa pi pe tpos pos} (ha:CkE c a pa) (hi:CkE c i pi) (he:CkE c e pe):CkS c (.six a i e) (.Assign [.Subscript pa pi tpos] pe pos)
inductive CkSs:Ctx->L S->L Stmt->Prop
 |nil {c}:CkSs c [] []
 |cons {c s ss p ps} (h:CkS c s p) (t:CkSs c ss ps):CkSs c (s::ss) (p::ps)
 |doc {c ss x j pos pos' ps} (t:CkSs c ss ps):CkSs c ss (.Expr (.Constant (.str x) j pos) pos'::ps)
end
def qle(h:shOk p=O):Star p:=λes env=>by cases p<;>first|rfl|cases h
def CkN.sh(h:CkN j c e p):shOk p=true:=by
 cases j with
 |zero=>cases h
 |succ j=>
  cases h with
  |of hs=>exact hs
  |gc hs=>exact hs
def CkN.star(h:CkN j c e p):Star p:=qle h.sh
def sh_sw(h:shOk p=O)(l)(env):swapsWith p (Y (.Subscript a i tp)) l env=pure false:=by
 cases p<;>first|rfl|cases h
def sh_swT(h:shOk p=O)(l)(env):swapsWith p (Y (.Tuple es k tp)) l env=pure false:=by
 cases p<;>first|rfl|cases h
def sh_swA(h:shOk p=O)(l)(env):swapsWith p (Y (.Attribute a f tp)) l env=pure false:=by
 cases p<;>first|rfl|cases h
def qlf(h:shOk p=O)(o i):subscripted p Y5 o i=operate [o,i] (Zk o i):=by
 cases p<;>first|rfl|cases h
def qbz(h:shOk p=O)(a):Zh a p=false:=by
 cases p<;>first|rfl|cases h
def qlg(h:shOk p=O)(env)(x):foldedSetIterable p env x=pure x:=by
 cases p<;>first|rfl|cases h
def qvx(h:shOk p=O)(a)(env)(w):Zj p a env w=w:=by
 cases p with
 |Call f ps ks pos=>
  cases f with
  |Name x q=>
   cases ps with
   |nil=>cases h
   |cons _ _=>rfl
  |_=>rfl
 |_=>rfl
theorem qh3:∀{ps},ps.all shOk=O->(backTo pos (starEach ps env)).all (λx=>!x.1)=O
 |[],_=>rfl
 |p::r,h=>by
  rw[Qz5,Qqs]at h;have e:backTo pos (starEach (p::r) env)=(Y5,Qw p env)::backTo pos (starEach r env):=by
   cases p<;>first|rfl|cases h.1
  rw[e,Qz5,qh3 h.2]
  rfl
def sh_mt(h:shOk b=O)(hs:ps.all shOk=O)(g:ps.length<30)(d:(a.endLine==pos.line)=O):MTree b m a ps pos:=by
 intro env;refine⟨(do return (<- importBound b env).getD O),?_⟩
 have e:Qw (.Call (.Attribute b m a) ps [] pos) env=(do
  let c <- Zj b m env (Qw b env)
  Zo a.atName
  methodCall b m a pos env c (ps.length+0) (backTo pos (starEach ps env)) (backToKw pos (keywordEach [] env))):=rfl
 have f:methodCallForm (ps.length+0) (backTo pos (starEach ps env)) (backToKw pos (keywordEach [] env))=true:=by
  unfold methodCallForm;rw[qh3 hs];simpa[keywordEach,backToKw] using g
 rw[e,qvx h];unfold methodCall calleeOf methodCallPos;rw[f,d]
 rfl
theorem CkL.sh(h:CkL (CkN j c) es ps):ps.all shOk=true:=by
 induction h with
 |nil=>rfl
 |cons h _ t=>rw[Qz5,h.sh,t]; rfl
noncomputable def spN(K:Qqq)(fns:L Fn)(n f:Y0):Sp:=λvs H Q _=>∃m st ds d st',Rel K m st H/\IsDs K m H ds vs/\M.callD fns n f ds st=Y (d,st')/\Post K m H d st' Q
def Lc(K:Qqq)(mg:Y4->Y2 Y8)(glo:Glo)(f:Y0)(x:Y4)(fa:Y7):Prop:=(qgt x=O->mg x=Y (.ref fa))/\∀C m,(f,C,m)∈glo.ms->Meth K C m fa
def FTab(P:Program)(w:Qj)(K:Qqq)(mg:Y4->Y2 Y8)(base:Heap)(glo:Glo)(fns:L Fn)(names:L Y4)(n:Y0):Prop:=∀(f:Y0) (x:Y4),names[f]?=Y x->∃(fa:Y7) (fd:Qp) (ps:L Y4),
 Lc K mg glo f x fa/\FnOk P w K mg base CX0 (2*n) fa fd ps (spN K fns n f)/\Qzt K (.ref fa)=O/\Binds K fd ps []
noncomputable abbrev bNm:L Y4:=["len","min","max","tuple","list","all","sorted","isinstance","range","int","bool","str","zip","any","enumerate","reversed","set"]
structure Mo (K:Qqq) (mg:Y4->Y2 Y8) (glo:Glo) (prm:Qr):Prop where
 cls:∀cn C,(cn,C)∈glo.cl->mg cn=Y (.ref C)/\Cls K C/\PySem.W.makesIn K C=O/\Qzt K (.ref C)=O
 ats:∀C f,(C,f)∈glo.ats->Cls K C/\NoAttr K C f
 gds:∀x ks ds,(x,ks,ds)∈glo.ds->∃a,mg x=Y (.ref a)/\FDict prm K a ks ds
 glo:∀x d,(x,d)∈glo.cs->∃u v,mg x=Y u/\RelV v u/\∀m H,IsD K m H d v
 no:∀x∈bNm,mg x=B
structure Good (fns:L Fn) (dl:Y0) (c:Ctx) (X:Cx):Prop where
 room:Room (2*dl+1) X.A
 calm:X.calm=O
 N:X.N=c.N
 sc:X.env.scope=c.sc
 nd:c.N.Nodup
 kind:c.sc.kind=.function
 tab:FTab X.prog X.w X.K X.mg X.base c.glo fns c.fns dl
 mo:Mo X.K X.mg c.glo X.w.params
 xe:X.xe=λ_ _=>False
theorem Good.no{dl:Y0}(G:Good fns dl c X)(h:bNm.contains x=O):X.mg x=none:=G.mo.no x (List.contains_iff_mem.mp h)
end MS
end
section
namespace MS
open PySem PySem.Spec PyProof.Rows L2
open M (D Yb Y3 Sl E S T Src Fn Out R)
theorem qq1:∀{es}{ps},CkL (CkN j c) es ps->∀(pos:Pos) (env:Env),(backTo pos (starEach ps env)).any (·.1)=Y5
 |_,_,.nil,_,_=>rfl
 |_,_,.cons h t,pos,env=>by
  rw[h.star];show(Y5||(backTo pos (starEach _ env)).any (·.1))=Y5;rw[qq1 t pos env]
  rfl
def Good.gl{dl:Y0}(G:Good fns dl c X)(h:c.sc.names.lookup x=Y .globalImplicit):Gl X x:=by
 show X.env.scope.names.lookup x=_;rw[G.sc]; exact h
def qbx(h:env.scope=sc):relabel a env=qbj a sc:=by
 unfold relabel qbj Env.kindOf;rw[h]
def Good.inner{fns:L Fn}{dl:Y0}{c:Ctx}{X:Cx}(G:Good fns dl c X){N:L Y4}{a:Scope}{C:Y7}{fp:L Y7}{s:Qz}{H:Hp}(hk:a.kind=.function)(b:N.Nodup):Good fns dl ⟨N,qbj a c.sc,c.fns,c.glo⟩ (qzp X N a C fp s H):=
 ⟨G.room,G.calm,rfl,qbx G.sc,b,hk,G.tab,G.mo,rfl⟩
noncomputable def IsRow(K:Qqq)(m:L Y7)(H:Hp)(k:RK)(a:Y7):D->Prop
 |.tup ds=>k=.tup/\∃xs,SqT K H a xs/\IsDs K m H ds xs
 |.loc l=>k=.lst/\m[l]?=Y a
 |.lst ds=>k=.lst/\∃xs,SqF K H a xs/\IsDs K m H ds xs
 |_=>False
def IsRow.mono{K:Qqq}(h:IsRow K m H k a d)(b:Sub m c)(t:Tr H H'):IsRow K c H' k a d:=by
 cases d with
 |tup ds=>obtain⟨e,xs,q,r⟩:=h; exact⟨e,xs,t.sqT q,qzf b t ds xs r⟩
 |loc l=>exact⟨h.1,b l a h.2⟩
 |lst ds=>obtain⟨e,xs,q,r⟩:=h; exact⟨e,xs,t.sqF q,qzf b t ds xs r⟩
 |_=>exact h.elim
theorem IsRow.sq{K:Qqq}{st:Y3}(h:IsRow K m H k a d)(f:Rel K m st H)(e:M.rowAt st d=Y ds):∃xs,k.sq K H a xs/\IsDs K m H ds xs:=by
 cases d with
 |tup es=>
  cases e;obtain⟨rfl,xs,q,r⟩:=h;exact⟨xs,q,r⟩
 |loc l=>
  obtain⟨rfl,c⟩:=h;obtain⟨g,xs,b,z,q,r⟩:=f.list e (qg0 c);cases z;exact⟨xs,q,r⟩
 |lst es=>
  cases e;obtain⟨rfl,xs,q,r⟩:=h;exact⟨xs,q.sq,r⟩
 |_=>exact h.elim
def qvb{K:Qqq}{st:Y3}(b:MS.IsD K m H d v)(f:Rel K m st H)(e:M.rowAt st d=Y ds):∃k a,v=.ref a/\IsRow K m H k a d/\∃xs,k.sq K H a xs:=by
 cases d with
 |tup es=>
  obtain⟨a,xs,rfl,q,r⟩:=b.tup;exact⟨.tup,a,rfl,⟨rfl,xs,q,r⟩,xs,q⟩
 |loc l=>
  obtain⟨a,xs,c,rfl,q,r⟩:=f.list e b;exact⟨.lst,a,rfl,⟨rfl,c⟩,xs,q⟩
 |lst es=>
  obtain⟨a,xs,rfl,q,r⟩:=b.lst;exact⟨.lst,a,rfl,⟨rfl,xs,q,r⟩,xs,q.sq⟩
 |_=>exact nn e
def IsRow.sq'{K:Qqq}{st:Y3}(h:IsRow K m H .lst a d)(b:Rel K m st H)(e:M.seqAt st d=Y ds):∃xs,SqL K H a xs/\IsDs K m H ds xs:=by
 cases d with
 |loc l=>exact h.sq b e
 |lst l=>exact h.sq b e
 |_=>exact nn e
def qwa{K:Qqq}{st:Y3}(b:MS.IsD K m H d v)(f:Rel K m st H)(e:M.seqAt st d=Y ds):∃a,v=.ref a/\IsRow K m H .lst a d/\∃xs,SqL K H a xs:=by
 cases d with
 |loc l=>
  obtain⟨a,xs,c,rfl,q,r⟩:=f.list e b;exact⟨a,rfl,⟨rfl,c⟩,xs,q⟩
 |lst l=>
  obtain⟨a,xs,rfl,q,r⟩:=b.lst;exact⟨a,rfl,⟨rfl,xs,q,r⟩,xs,q.sq⟩
 |_=>exact nn e
noncomputable def IsSrc(K:Qqq)(m:L Y7)(H:Hp):Src->It->Prop
 |.rng lo n,Jq=>Jq=Itr lo n
 |.tup ds,Jq=>∃a xs,Jq=Itt K a/\SqT K H a xs/\IsDs K m H ds xs
 |.lst d,Jq=>∃a,IsRow K m H .lst a d/\Jq=Itl K a
 |.zip x y,Jq=>∃(k1 k2:RK) (a b:Y7),Jq=Itz K k1 k2 a b/\IsRow K m H k1 a x/\IsRow K m H k2 b y
 |.enu x,Jq=>∃(k:RK) (a:Y7),Jq=Ite K k a/\IsRow K m H k a x
 |.rev ds,Jq=>∃a xs,Jq=Itv K a xs.length/\SqT K H a xs/\IsDs K m H ds xs
theorem IsSrc.mono{K:Qqq}(h:IsSrc K m H s Jq)(b:Sub m c)(t:Tr H H'):IsSrc K c H' s Jq:=by
 cases s with
 |rng lo n=>exact h
 |tup ds=>obtain⟨a,xs,e,q,r⟩:=h; exact⟨a,xs,e,t.sqT q,qzf b t ds xs r⟩
 |lst l=>obtain⟨a,e,q⟩:=h; exact⟨a,e.mono b t,q⟩
 |zip x y=>obtain⟨f,d,a,g,e,h1,h2⟩:=h; exact⟨f,d,a,g,e,h1.mono b t,h2.mono b t⟩
 |enu x=>obtain⟨k,a,e,h⟩:=h; exact⟨k,a,e,h.mono b t⟩
 |rev ds=>obtain⟨a,xs,e,q,r⟩:=h; exact⟨a,xs,e,t.sqT q,qzf b t ds xs r⟩
def IsSrc.done{K:Qqq}{st:Y3}(h:IsSrc K m H s p)(f:Rel K m st H)(e:s.at st i=Y B):p.stop i H:=by
 cases s with
 |rng lo n=>
  cases h;simp only[Src.at]at e
  split at e
  ·cases e
  ·rename_i q;exact Nat.not_lt.mp q
 |tup ds=>
  obtain⟨a,xs,rfl,q,r⟩:=h;simp only[Src.at,Option.some.injEq]at e;exact⟨xs,q,by rw[<- r.length]; exact Qzn.mp e⟩
 |lst l=>
  obtain⟨a,z,rfl⟩:=h;simp only[Src.at]at e;refine qzh e λds d c=>?_;obtain⟨xs,q,r⟩:=z.sq' f d;exact⟨xs,q,by rw[<- r.length]; exact Qzn.mp c⟩
 |zip x y=>
  obtain⟨C,A,a,b,rfl,h1,h2⟩:=h;simp only[Src.at]at e;refine qzj e λds d e=>qzh e λes c g=>?_;obtain⟨xs,w,u⟩:=h1.sq f d;obtain⟨ys,v,t⟩:=h2.sq f c;refine⟨xs,ys,w,v,?_⟩;unfold M.pairAt at g;rw[<- u.length,<- t.length]
  cases o:ds[i]? with
  |none=>exact .inl (Qzn.mp o)
  |some E=>
   cases j:es[i]? with
   |none=>exact .inr (Qzn.mp j)
   |some D=>rw[o,j]at g; cases g
 |enu x=>
  obtain⟨k,a,rfl,h⟩:=h;simp only[Src.at]at e;refine qzh e λds d c=>?_;obtain⟨xs,q,r⟩:=h.sq f d;exact⟨xs,q,by rw[<- r.length]; exact Qzn.mp (Option.map_eq_none_iff.mp c)⟩
 |rev ds=>
  obtain⟨a,xs,rfl,q,r⟩:=h;simp only[Src.at]at e;show xs.length<=i;rw[<- r.length]
  split at e
  ·rw[Qqh (by omega)]at e; cases e
  ·omega
def IsSrc.next{K:Qqq}{st:Y3}(h:IsSrc K m H s N)(E:Rel K m st H)(e:s.at st i=Y (Y d)):N.go i H/\∀x H',N.yld i H x H'->Same H H'/\MS.IsD K m H' d x:=by
 cases s with
 |rng lo n=>
  cases h;simp only[Src.at]at e
  split at e
  ·rename_i q;cases e;refine⟨q,?_⟩;rintro x H' ⟨rfl,rfl⟩;exact⟨λ_ _ z=>z,mkInt _⟩
  ·cases e
 |tup ds=>
  obtain⟨a,xs,rfl,q,r⟩:=h;simp only[Src.at,Option.some.injEq]at e;obtain⟨x,ex,c⟩:=r.get e;refine⟨⟨xs,x,q,ex⟩,?_⟩;rintro y H' ⟨rfl,z⟩;have:=z xs q;rw[ex]at this;cases this;exact⟨λ_ _ z=>z,c⟩
 |lst l=>
  obtain⟨a,X,rfl⟩:=h;simp only[Src.at]at e;refine qzh e λds A t=>?_;obtain⟨xs,q,r⟩:=X.sq' E A;obtain⟨x,ex,c⟩:=r.get t;refine⟨⟨xs,x,q,ex⟩,?_⟩;rintro y H' ⟨rfl,z⟩;have:=z xs q;rw[ex]at this;cases this;exact⟨λ_ _ z=>z,c⟩
 |zip u v=>
  obtain⟨k1,k2,a,b,rfl,h1,h2⟩:=h;simp only[Src.at]at e;refine qzj e λds A e=>qzh e λes t f=>?_;obtain⟨xs,Q,V⟩:=h1.sq E A;obtain⟨ys,P,U⟩:=h2.sq E t;unfold M.pairAt at f
  cases C:ds[i]? with
  |none=>rw[C]at f; cases f
  |some d1=>
   cases F:es[i]? with
   |none=>rw[C,F]at f; cases f
   |some d2=>
    rw[C,F]at f;cases f;obtain⟨x,ex,c⟩:=V.get C;obtain⟨y,S,W⟩:=U.get F;refine⟨⟨xs,ys,x,y,Q,P,ex,S⟩,?_⟩;rintro w H' ⟨p,T,y',rfl,G,rfl,I,f2⟩;have j:=I xs Q;rw[ex]at j;cases j;have R:=f2 ys P;rw[S]at R;cases R;have g:=qzc (o:=.tup [x,y]) G;exact⟨g,qq2 (SqT.of qzy) (qzf (Sub.refl _) (Tr.of_same g) _ _ (qzm c (qzm W qz8)))⟩
 |enu u=>
  obtain⟨k,a,rfl,h⟩:=h;simp only[Src.at]at e;refine qzh e λds A t=>qzh t λd0 f e4=>?_;cases e4;obtain⟨xs,q,r⟩:=h.sq E A;obtain⟨x,ex,c⟩:=r.get f;refine⟨⟨xs,x,q,ex⟩,?_⟩;rintro w H' ⟨p,T,rfl,G,rfl,I⟩;have j:=I xs q;rw[ex]at j;cases j;have g:=qzc (o:=.tup [.int i,x]) G;exact⟨g,qq2 (SqT.of qzy) (qzf (Sub.refl _) (Tr.of_same g) _ _ (qzm (mkInt _) (qzm c qz8)))⟩
 |rev ds=>
  obtain⟨a,xs,rfl,q,r⟩:=h;simp only[Src.at,Option.some.injEq]at e;have rl:=r.length
  split at e
  ·obtain⟨x,ex,c⟩:=r.get e;rw[rl]at ex;refine⟨⟨xs,x,q,rfl,by omega,ex⟩,?_⟩;rintro y H' ⟨rfl,z⟩;have:=z xs q;rw[ex]at this;cases this;exact⟨λ_ _ z=>z,c⟩
  ·exact nn e
noncomputable def tI(K:Qqq)(f:Sl->Y3->Y2 (Src×Y3)):TI:=λσ H R=>∃m st τ s st',Rel K m st H/\SlotOk K m H τ σ/\f τ st=Y (s,st')/\∀m' H' Jq,Sub m m'->Tr H H'->Rel K m' st' H'->IsSrc K m' H' s Jq->R Jq H'
def tI.el{K:Qqq}{P:Prop}(h:tI K f g H Q)(k:∀m st τ s st',Rel K m st H->SlotOk K m H τ g->f τ st=Y (s,st')->(∀m' H' i,Sub m m'->Tr H H'->Rel K m' st' H'->IsSrc K m' H' s i->Q i H')->P):P:=by
 rcases h with⟨m,st,τ,d,st',a,b,c,e⟩
 exact k m st τ d st' a b c e
def _root_.L2.PI.imp(h:PI X tg e t)(f:∀σ H R,t' σ H R->t σ H R):PI X tg e t':=λpins s σ H Q I q=>h pins s σ H Q I (f σ H Q q)
def PostO(K:Qqq)(m:L Y7)(H:Hp)(o:Out)(st':Y3)(Dn:Ends):Prop:=∀m' H',Sub m m'->Tr H H'->Rel K m' st' H'->match o with
 |.nx τ=>∀σ',SlotOk K m' H' τ σ'->Dn.nx σ' H'
 |.rt d=>∀v,IsD K m' H' d v->Dn.rt v H'
def PostO.mono{K:Qqq}(p:PostO K m H o st' Dn)(s:Sub m a)(t:Tr H b):PostO K a b o st' Dn:=λm' H' s' c r=>p m' H' (s.trans s') (t.trans c) r
noncomputable def tS(K:Qqq)(f:Sl->Y3->Y2 (Out×Y3)):TS:=λDn σ H=>∃m st τ o st',Rel K m st H/\SlotOk K m H τ σ/\f τ st=Y (o,st')/\PostO K m H o st' Dn
def PostO.of{K:Qqq}(q:PostO K m H d s Q)(e:Y (d',a)=Y (d,s)):PostO K m H d' a Q:=by cases e; exact q
def tS.el{K:Qqq}{P:Prop}(h:tS K f i g H)(k:∀m st τ o st',Rel K m st H->SlotOk K m H τ g->f τ st=Y (o,st')->PostO K m H o st' i->P):P:=by
 rcases h with⟨m,st,τ,d,st',a,b,c,e⟩
 exact k m st τ d st' a b c e
structure AllOk (fns:L Fn) (dl n:Y0):Prop where
 e:∀c X,Good fns dl c X->∀{j} e p,CkN j c e p->PE X p (tD X.K λτ st=>(M.rn fns dl n).ev τ st e)
 t:∀c X,Good fns dl c X->∀{j} e p,CkN j c e p->PT X p (tTs X.K λτ st=>(M.rn fns dl n).tst τ st e)
 w:∀c X,Good fns dl c X->∀{j} e op ps pos,CkN j c e (.BoolOp op ps pos)->PW X (.BoolOp op ps pos) (tTs X.K λτ st=>(M.rn fns dl n).tst τ st e)
 s:∀c X,Good fns dl c X->(∀x,X.fn x=O)->∀ss ps,CkSs c ss ps->PSs X ps (tS X.K λτ st=>(M.rn fns dl n).ex τ st ss)
def qb1(fns)(dl):AllOk fns dl 0 where
 e:=λc X G j e p h pins s σ H Q I q=>by obtain⟨m,st,τ,d,st',_,_,z,_⟩:=q; cases z
 t:=λc X G j e p h pins s σ H Q I q=>by obtain⟨m,st,τ,d,st',_,_,z,_⟩:=q; cases z
 w:=λc X G j e f ps pos h a pins s σ H Q I q=>by obtain⟨m,st,τ,d,st',_,_,z,_⟩:=q; cases z
 s:=λc X G hf b ps h pins s σ H Q I q=>by obtain⟨m,st,τ,d,st',_,_,z,_⟩:=q; cases z
section
variable {fns:L Fn}{dl n j:Y0}{c:Ctx}{X:Cx}
theorem qzs(A:AllOk fns dl n)(G:Good fns dl c X):∀{es}{ps},CkL (CkN j c) es ps->PA X ps (tL X.K λτ st=>M.evs ((?v).ev τ) es st)
 |_,_,.nil=>pa_nil.imp λ_ _ _ h=>tL_nil h
 |_,_,.cons h t=>(qjh (A.e c X G _ _ h) (qzs A G t) (h.star _ _)).imp λ_ _ _ q=>
   qlw q
def CkN.plain(h:CkN j c e p):qv2 e=true:=by
 cases j with
 |zero=>cases h
 |succ j=>
  cases h with
  |of _ a=>exact a
  |gc=>rfl
def qcl(h:qv2 e=O)(r)(τ)(st):M.src r τ st e=(r.ev τ st e).bind λp=>match p.1 with
   |.tup ds=>Y (.tup ds,p.2)
   |d=>(M.seqAt p.2 d).map λ_=>(.lst d,p.2):=by
 cases e with
 |rng1 _=>cases h
 |rng2 _ _=>cases h
 |zip _ _=>cases h
 |enu _=>cases h
 |rev _=>cases h
 |_=>rfl
def qyb(A:AllOk fns dl n)(G:Good fns dl c X)(h:CkI (CkN j c) c tg it I):PI X tg I (tI X.K λτ st=>M.src ?v τ st it):=by
 have seq:∀{e p},CkN j c e p->(∀τ st,M.src ?v τ st e=((?v).ev τ st e).bind λp=>match p.1 with
   |.tup ds=>Y (.tup ds,p.2)
   |d=>(M.seqAt p.2 d).map λ_=>(.lst d,p.2))->PI X tg p (tI X.K λτ st=>M.src ?v τ st e):=by
  intro e p V S;refine(pi_seq (A.e c X G e p V)).imp λσ H R q=>q.el λm st τ s st' z w f q=>?_;have f:=(S τ st).symm.trans f;refine qzk f λd C v f=>rsI z w v λx m1 H1 b1 r o t=>?_
  cases d with
  |tup ds=>
   cases f;obtain⟨a,xs,rfl,F,u⟩:=t.tup;exact⟨a,rfl,.inr ⟨⟨xs,F⟩,q m1 H1 _ b1 r o ⟨a,xs,rfl,F,u⟩⟩⟩
  |loc l=>
   refine qzh f λds N K=>?_;cases K;obtain⟨a,rfl,g,xs,F⟩:=qwa t o N;exact⟨a,rfl,.inl ⟨⟨xs,F⟩,q m1 H1 _ b1 r o ⟨a,g,rfl⟩⟩⟩
  |lst l=>
   refine qzh f λds N K=>?_;cases K;obtain⟨a,rfl,g,xs,F⟩:=qwa t o N;exact⟨a,rfl,.inl ⟨⟨xs,F⟩,q m1 H1 _ b1 r o ⟨a,g,rfl⟩⟩⟩
  |_=>exact nn f
 cases h with
 |@rng1 _ a U p0 pos hg g=>
  refine(qc8 (G.gl hg) (G.no rfl) (qzs A G (.cons g .nil)) (by rw[g.star]; rfl)).imp λσ H R q=>?_;refine q.el λm st τ s st' z w f q=>qzk f λd C v f=>?_
  cases d with
  |int k=>
   dsimp only at f
   split at f
   ·exact nn f
   ·rename_i hb;cases f;unfold M.big at hb;simp only[Qxd,decide_eq_true_eq]at hb;refine rsI (d:=[.int k]) (st':=st') z w ?_ λxs m1 H1 b1 r o t=>?_
    ·show(((?v).ev τ st a).bind λp=>(Y (([]:L D),p.2)).bind λq=>Y (p.1::q.1,q.2))=_;rw[v]; rfl
    ·obtain⟨x,rfl,u⟩:=t.one;cases u.int;exact⟨k,rfl,by omega,by omega,q m1 H1 _ b1 r o rfl⟩
  |_=>exact nn f
 |@rng2 _ a b U pb p0 pos hg g hb=>
  refine(qc7 (G.gl hg) (G.no rfl) (qzs A G (.cons g (.cons hb .nil))) (by rw[g.star,hb.star]; rfl) (by rw[hb.star]; rfl)).imp λσ H R q=>?_;refine q.el λm st τ s st' z w f q=>qzk f λd C v f=>qzk f λd' s2 N f=>?_;dsimp only at f
  split at f
  ·rename_i i j _
   split at f
   ·exact nn f
   ·rename_i hb;cases f;unfold M.big at hb;simp only[Qxd,decide_eq_true_eq]at hb;refine rsI (d:=[.int i,.int j]) (st':=st') z w ?_ λxs m1 H1 b1 r o t=>?_
    ·show(((?v).ev τ st a).bind λp=>(((?v).ev τ p.2 b).bind λp=>(Y (([]:L D),p.2)).bind λq=>Y (p.1::q.1,q.2)).bind λq=>Y (p.1::q.1,q.2))=_;rw[v];show(((?v).ev τ C b).bind λp=>(Y (([]:L D),p.2)).bind λq=>Y (p.1::q.1,q.2)).bind _=_;rw[N]; rfl
    ·obtain⟨x,y,rfl,u,Q⟩:=t.two;cases u.int;cases Q.int;exact⟨i,j,rfl,⟨by omega,by omega,by omega,by omega⟩,q m1 H1 _ b1 r o rfl⟩
  ·exact nn f
 |@zip ts k tp a b U pb p0 pos hg g hb=>
  refine(pi_zip (G.gl hg) (G.no rfl) (qzs A G (.cons g (.cons hb .nil))) (by rw[g.star,hb.star]; rfl) (by rw[hb.star]; rfl)).imp λσ H R q=>?_;obtain⟨m,st,τ,s,st',z,w,f,q⟩:=q;refine qzk f λd C v f=>qzk f λd' s2 N f=>qzj f λds K f=>qzh f λes e5 W=>?_;cases W;refine rsI (d:=[d,d']) (st':=s2) z w ?_ λxs m1 H1 b1 r o t=>?_
  ·show(((?v).ev τ st a).bind λp=>(((?v).ev τ p.2 b).bind λp=>(Y (([]:L D),p.2)).bind λq=>Y (p.1::q.1,q.2)).bind λq=>Y (p.1::q.1,q.2))=_;rw[v];show(((?v).ev τ C b).bind λp=>(Y (([]:L D),p.2)).bind λq=>Y (p.1::q.1,q.2)).bind _=_;rw[N]; rfl
  ·obtain⟨x,y,rfl,u,Q⟩:=t.two;obtain⟨P,T,rfl,h1,w1⟩:=qvb u o K;obtain⟨k2,a2,rfl,h2,w2⟩:=qvb Q o e5;exact⟨P,k2,T,a2,rfl,w1,w2,q m1 H1 _ b1 r o ⟨P,k2,T,a2,rfl,h1,h2⟩⟩
 |@enu ts k tp a U p0 pos hg g=>
  refine(ql7 (G.gl hg) (G.no rfl) (qzs A G (.cons g .nil)) (by rw[g.star]; rfl)).imp λσ H R q=>?_;refine q.el λm st τ s st' z w f q=>qzk f λd C v f=>qzh f λds K W=>?_;cases W;refine rsI (d:=[d]) (st':=C) z w ?_ λxs m1 H1 b1 r o t=>?_
  ·show(((?v).ev τ st a).bind λp=>(Y (([]:L D),p.2)).bind λq=>Y (p.1::q.1,q.2))=_;rw[v]; rfl
  ·obtain⟨x,rfl,u⟩:=t.one;obtain⟨P,T,rfl,h1,w1⟩:=qvb u o K;exact⟨P,T,rfl,w1,q m1 H1 _ b1 r o ⟨P,T,rfl,h1⟩⟩
 |@rev _ a U p0 pos hg g=>
  refine(pi_rev (G.gl hg) (G.no rfl) (qzs A G (.cons g .nil)) (by rw[g.star]; rfl)).imp λσ H R q=>?_;refine q.el λm st τ s st' z w f q=>qzk f λd C v f=>?_
  cases d with
  |tup ds=>
   cases f;refine rsI (d:=[.tup ds]) (st':=C) z w ?_ λxs m1 H1 b1 r o t=>?_
   ·show(((?v).ev τ st a).bind λp=>(Y (([]:L D),p.2)).bind λq=>Y (p.1::q.1,q.2))=_;rw[v]; rfl
   ·obtain⟨x,rfl,u⟩:=t.one;obtain⟨a,xs,rfl,F,Q⟩:=u.tup;exact⟨a,xs,rfl,F,q m1 H1 _ b1 r o ⟨a,xs,rfl,F,Q⟩⟩
  |_=>exact nn f
 |@seq _ e p V=>
  exact seq V (qcl (CkN.plain V) _)
def po_ok(A:AllOk fns dl n)(G:Good fns dl c X)(h:CkO (CkN j c) o p):PO X p (λσ H Q=>∃m st τ l st',Rel X.K m st H/\SlotOk X.K m H τ σ/\M.part ?v τ st o=Y (l,st')/\∀m' H',Sub m m'->Tr H H'->Rel X.K m' st' H'->Q l H'):=by
 cases h with
 |none=>
  intro pins s σ H Q I q;obtain⟨m,st,τ,l,st',a,g,e,k⟩:=q;cases e;exact ql5 pins s σ H Q I (k m H ?H (Tr.refl H) a)
 |@some e p h=>
  intro pins s σ H Q I q;obtain⟨m,st,τ,l,st',a,g,w,k⟩:=q;refine qzk w λd y u f=>?_
  cases d with
  |int i=>
   cases f;exact ql4 (A.e c X G e p h) pins s σ H Q I (rsI a g u λv m' H' b t x r=>⟨i,r.int,k m' H' b t x⟩)
  |_=>exact nn f
noncomputable def gIs:L Y0->TGs
 |[]=>gNil
 |i::is=>gCons (qyf i) (gIs is)
noncomputable def gT(K:Qqq):T->TG
 |.var i=>qyf i
 |.tup is=>gTup K is.length (gIs is)
theorem qib{K:Qqq}:∀{is}{ds}{xs}{τ a}{f},IsDs K m H ds xs->SlotOk K m H τ f->M.setIs is ds τ=Y a->(∀b,SlotOk K m H a b->Q b H)->gIs is xs f H Q
 |[],[],xs,τ,a,f,g,S0,e,k=>by
  cases e;exact⟨g.nil,k f S0⟩
 |i::is,d::ds,xs,τ,a,f,g,S0,e,k=>by
  obtain⟨x,r,rfl,q,t⟩:=g.cons;unfold M.setIs at e
  split at e
  ·exact⟨x,r,rfl,qib t (S0.put q) e k⟩
  ·exact nn e
 |[],_::_,_,_,_,_,_,_,e,_=>by cases e
 |_::_,[],_,_,_,_,_,_,e,_=>by cases e
theorem qvu:∀{is}{ds}{τ a},M.setIs is ds τ=Y a->is.length=ds.length
 |[],[],_,_,_=>rfl
 |i::is,d::ds,τ,a,e=>by
  unfold M.setIs at e
  split at e
  ·rw[Qqg,Qqg,qvu e]
  ·exact nn e
 |[],_::_,_,_,e=>by cases e
 |_::_,[],_,_,e=>by cases e
def qhk{K:Qqq}(h:IsD K m H d v)(l:SlotOk K m H τ f)(e:M.setT t d τ=Y τ')(k:∀b,SlotOk K m H τ' b->Q b H):gT K t v f H Q:=by
 cases t with
 |var i=>
  have e:(if i<τ.length then Y (τ.set i (Y d)) else B)=Y τ':=e
  split at e
  ·cases e;exact k _ (l.put h)
  ·exact nn e
 |tup p=>
  cases d with
  |tup ds=>
   obtain⟨a,xs,rfl,o,g⟩:=h.tup;exact⟨a,xs,rfl,o,by rw[<- g.length,qvu e],qib g l e k⟩
  |_=>exact nn e
def qjv(G:Good fns dl c X){i:Y0}(h:c.N[i]?=Y x):X.N[i]?=Y x:=by rw[G.N]; exact h
def qfy:Qc ("any" : Y4)=Y (.builtin "any"):=by decide +kernel
def qfa:Qc ("all" : Y4)=Y (.builtin "all"):=by decide +kernel
def qwt:Qc ("int" : Y4)=Y (.type "int"):=by decide +kernel
def qb0:Qc ("bool" : Y4)=Y (.type "bool"):=by decide +kernel
def qfj:Qc ("str" : Y4)=Y (.type "str"):=by decide +kernel
def qfw:Qc ("isinstance" : Y4)=Y (.builtin "isinstance"):=by decide +kernel
def qwr:Qc ("sorted" : Y4)=Y (.builtin "sorted"):=by decide +kernel
def qfk:Qc ("set" : Y4)=Y (.type "set"):=by decide +kernel
def qws:Qc ("len" : Y4)=Y (.builtin "len"):=by decide +kernel
def qfv:Qc ("min" : Y4)=Y (.builtin "min"):=by decide +kernel
def qk3:Qc ("list" : Y4)=Y (.type "list"):=by decide +kernel
def qj7:Qc ("tuple" : Y4)=Y (.type "tuple"):=by decide +kernel
def ty_ok(G:Good fns dl c X){t:M.Ty}(b:t≠.non)(a:c.sc.names.lookup (Str.ofString t.name)=Y .globalImplicit):PE X (.Name (Str.ofString t.name) pos) (tC (.ty t.name)):=by
 cases t with
 |non=>exact absurd rfl b
 |bl=>exact qjg (G.gl a) (G.no rfl) qb0 rfl (by decide) (by decide)
 |int=>exact qjg (G.gl a) (G.no rfl) qwt rfl (by decide) (by decide)
 |str=>exact qjg (G.gl a) (G.no rfl) qfj rfl (by decide) (by decide)
 |tup=>exact qjg (G.gl a) (G.no rfl) qj7 rfl (by decide) (by decide)
 |lst=>exact qjg (G.gl a) (G.no rfl) qk3 rfl (by decide) (by decide)
end
section
variable {fns:L Fn}{dl n j:Y0}{c:Ctx}{X:Cx}
def qi5:UnR X (unaryOp .USub) (rU1 X.K λst d=>match d with|.int i=>Y (.int (-i),st)|_=>B):=by
 intro pins s σ H x v Q I b h;refine h.el λm st a d st' g f e q=>?_
 cases a with
 |int i=>
  have q:=q.of e;exact un_neg pins s σ H x v Q I b ⟨i,f.int,q.here g (mkInt _)⟩
 |_=>exact nn e
def qk0(G:Good fns dl c X)(h:CpOk c scope sr N e t):CompScope X N sr scope:=
 ⟨h.kind,h.cell,λy f hf=>by
  have:=h.free y f hf;show X.env.scope.names.lookup y.1=_\/X.env.scope.names.lookup y.1=_;rw[G.sc]; exact this,h.loc,h.len,λj i q=>by
  obtain⟨x,a,b,d⟩:=h.src j i q
  exact⟨x,a,qjv G b,d⟩⟩
noncomputable def tOpt(K:Qqq)(r:R):Y2 E->TT
 |none=>λ_ H Q=>Q O H
 |some c=>tTs K λτ st=>r.tst τ st c
def qhp(A:AllOk fns dl n)(G:Good fns dl c X)(h:CkO (CkN j c) q a):qb3 X a.toList (tOpt X.K ?v q):=by
 cases h with
 |none=>exact qf1
 |some h=>exact qf0 (A.t _ _ G _ _ h)
def qg8{K:Qqq}(sr)(h:SlotOk K m H τ f):SlotOk K m H (M.inner sr τ) (qq0 sr f):=by
 refine⟨by unfold M.inner qq0; rw[Qqz,Qqz],λj d e=>?_⟩;unfold M.inner at e;rw[Qqw]at e;unfold qq0;rw[Qqw]
 cases q:sr[j]? with
 |none=>rw[q]at e; cases e
 |some o=>
  rw[q]at e
  cases o with
  |none=>cases e
  |some i=>
   have hi:τ[i]?=Y (Y d):=by
    cases z:τ[i]? with
    |none=>simp[z]at e
    |some w=>
     cases w with
     |none=>simp[z]at e
     |some w=>simpa[z] using e
   obtain⟨v,a,b⟩:=h.at_ i d hi;refine⟨v,?_,b⟩;simp[a]
def comp_W{K:Qqq}{Q:VK}{S:L2.St}(R1:Rel K I G P)(hJ:IsSrc K I P s Jq)(S1:SlotOk K I P C S)(e2:M.loopC s (M.turnC r t q elt) k0 0 [] C G=Y u)(a2:∀l H' a,Sub I l->Tr P H'->Rel K l u.2 H'->IsDs K l H' u.1 a->∀U,H' U=B->Q (.ref U) (upd H' U (.lst a))):
  ∃W:Y0->Y0->L V->L2.St->Hp->Prop,(∃k,W 0 k [] S P)/\
 ∀i k a f H',W i k a f H'->(Jq.stop i H'/\a.length<=sizeLine/\∀p,H' p=B->Q (.ref p) (upd H' p (.lst a)))\/(Jq.go i H'/\a.length<sizeLine/\∀x H2,Jq.yld i H' x H2->gT K t x f H2 λm H3=>tOpt K r q m H3 λb H4=>
  if b=O then tD K (λτ st=>r.ev τ st elt) m H4 λv H5=>∃k',k'<k/\W (i+1) k' (a++[v]) m H5 else ∃k',k'<k/\W (i+1) k' a m H4):=by
 refine⟨λi' k a f H'=>∃l F A d,Sub I l/\Tr P H'/\Rel K l F H'/\SlotOk K l H' A f/\IsDs K l H' d a/\M.loopC s (M.turnC r t q elt) k i' d A F=Y u,
  ⟨_,I,G,C,[],Sub.refl _,Tr.refl _,R1,S1,qz8,e2⟩,?_⟩
 rintro j k a f H' ⟨l,F,A,d,b2,w,R2,S2,H,e⟩
 cases k with
 |zero=>exact nn e
 |succ k=>
  have e:=e;refine qzj e λo e5 e=>?_;have l1:=H.length;have l2:=qqa
  cases o with
  |none=>
   dsimp only at e
   split at e
   ·exact nn e
   ·rename_i hl;cases e;refine .inl ⟨(hJ.mono b2 w).done R2 e5,by lia,λU hp=>?_⟩;exact a2 l H' a b2 w R2 H U hp
  |some d'=>
   dsimp only at e
   split at e
   ·exact nn e
   ·rename_i hl;obtain⟨a1,hy⟩:=(hJ.mono b2 w).next R2 e5;refine .inr ⟨a1,by lia,λx H2 a0=>?_⟩;obtain⟨sm,ix⟩:=hy x H2 a0;have w:=w.trans (Tr.of_same sm);have R2:=R2.same sm;have S2:=S2.mono (Sub.refl _) (Tr.of_same sm);have H:=qzf (Sub.refl _) (Tr.of_same sm) _ _ H;refine qzj e λz h e=>?_;unfold M.turnC at h;refine qzj h λa4 e7 h=>qhk ix S2 e7 λa5 N=>?_
    ·cases q with
     |none=>
      unfold tOpt;dsimp only at h ⊢;refine qzh h λy e8 e9=>?_;cases e9;rw[Z8 rfl];refine rsI R2 N e8 λv m3 H3 b3 g R3 i3=>⟨k,Qzc k,m3,y.2,_,d++[y.1],b2.trans b3,w.trans g,R3,N.mono b3 g,(qzf b3 g _ _ H).append (qzm i3 qz8),e⟩
     |some cq=>
      unfold tOpt;refine qzj h λbb e8 h=>rsI R2 N e8 λm3 H3 b3 g R3=>?_
      cases hb:bb.1 with
      |true=>
       rw[hb,Z8 rfl]at h;rw[Z8 rfl];refine qzh h λy e9 a3=>?_;cases a3;refine rsI R3 (N.mono b3 g) e9 λv m4 H4 b4 t4 R4 i4=>⟨k,Qzc k,m4,y.2,_,d++[y.1],b2.trans (b3.trans b4),w.trans (g.trans t4),R4,N.mono (b3.trans b4) (g.trans t4),(qzf (b3.trans b4) (g.trans t4) _ _ H).append (qzm i4 qz8),e⟩
      |false=>
       rw[hb,Z7 Qqu]at h;cases h;rw[Z7 Qqu];exact⟨k,Qzc k,m3,bb.2,_,d,b2.trans b3,w.trans g,R3,N.mono b3 g,qzf b3 g _ _ H,e⟩
def qcy{K:Qqq}(h:tD K (λτ st=>M.stepEv r τ st (.comp t it q elt sr)) b H Q):
  qly sr (tI K λτ st=>M.src r τ st it) (gT K t) (tOpt K r q) (tD K λτ st=>r.ev τ st elt) b H Q:=by
 refine h.el λm st τ d st' C i e a=>?_;have e:=e;refine qzj e λp y e=>qzh e λl x w=>rsI C i y λm1 H1 D b1 f A v=>comp_W A v (qg8 sr (i.mono b1 f)) x λs H' z b2 k R2 u o g=>?_;cases w;exact a _ (s++[o]) _ (b1.trans (b2.trans (Sub.app _ _))) (f.trans (k.trans (Tr.of_same (qzc g)))) (R2.new g u) R2.newLoc
theorem qke(G:Good fns dl c X):∀{is}{es},CkTs c is es->(∀i∈is,∀x,c.N[i]?=Y x->X.fn x=O\/c.sc.names.lookup x=Y .local)->PGs X es (gIs is)/\(Qu es X.env).length=is.length/\(Qu es X.env).findIdx? (·.1)=B
 |_,_,.nil,_=>⟨ql9,rfl,rfl⟩
 |_,_,.cons (i:=i) (x:=x) (pos:=pos) (is:=is) (es:=es) a b h,hf=>by
  obtain⟨h1,h2,d⟩:=qke G h λj hj=>hf j (Qqp _ hj);have hg:PG X (.Name x pos) (qyf i):=qc9 (by rw[G.N]; exact G.nd) (qjv G a) (by rw[G.sc]; exact b) (by rw[G.sc]; exact hf i Qq3 x a);refine⟨qgf hg h1 rfl,?_,?_⟩
  ·show(Qu es X.env).length+1=is.length+1;rw[h2]
  ·show List.findIdx? (·.1) ((Y5,assign (.Name x pos) X.env)::Qu es X.env)=B;rw[List.findIdx?_cons,d]
   rfl
def qqm(G:Good fns dl c X)(h:CkT c t tg)(hf:∀i∈t.slots,∀x,c.N[i]?=Y x->X.fn x=O\/c.sc.names.lookup x=Y .local):PG X tg (gT X.K t):=by
 cases h with
 |@var i x pos a b=>exact qc9 (by rw[G.N]; exact G.nd) (qjv G a) (by rw[G.sc]; exact b) (by rw[G.sc]; exact hf i (by simp[T.slots]) x a)
 |@tup e es k pos h=>
  obtain⟨h1,h2,d⟩:=qke G h hf;exact pg_tup G.calm h1 h2 d
noncomputable def qlz(r:R)(K:Qqq):L E->L (TE×TE)
 |k::v::es=>(tD K λτ st=>r.ev τ st k,tD K λτ st=>r.ev τ st v)::qlz r K es
 |_=>[]
noncomputable def twos:L V->L (V×V)
 |x::y::r=>(x,y)::twos r
 |_=>[]
theorem qv6(A:AllOk fns dl n)(G:Good fns dl c X):∀{es}{ks}{vs},CkP (CkN j c) es ks vs->PPs X pos ks vs (qlz ?v X.K es)/\ks.all (·.isSome)=O/\ks.length=vs.length
 |_,_,_,.nil=>⟨ql3,rfl,rfl⟩
 |_,_,_,.cons hk hv t=>by
  obtain⟨h1,h2,a⟩:=qv6 A G t;refine⟨qgc (A.e c X G _ _ hk) (A.e c X G _ _ hv) h1,?_,?_⟩
  ·rw[Qz5,h2]; rfl
  ·rw[Qqg,Qqg,a]
theorem qv5{K:Qqq}:∀{es}{ks}{vs}{c}{m}{st st'}{H}{τ}{b}{ds}{Q},CkP (CkN j c) es ks vs->Rel K m st H->SlotOk K m H τ b->M.evs (r.ev τ) es st=Y (ds,st')->
  (∀xs m' H',Sub m m'->Tr H H'->Rel K m' st' H'->IsDs K m' H' ds xs->Q (twos xs) H')->qyt (qlz r K es) b H Q
 |_,_,_,c,m,st,st',H,τ,b,ds,Q,.nil,h,S0,e,q=>by
  cases e;exact q [] m H ?H (Tr.refl H) h qz8
 |_,_,_,c,m,st,st',H,τ,b,ds,Q,.cons hk hv t,h,S0,e,q=>by
  have e:=e;refine qzk e λP G v e=>qzj e λw a e=>qzk a λN F s a=>qzj a λu p a=>?_;cases a;cases e;exact rsI h S0 v λx m1 H1 b1 g A o=>rsI A (S0.mono b1 g) s λy I H2 b2 f R2 l=>qv5 t R2 (S0.mono (b1.trans b2) (g.trans f)) p λxs i C b3 d z k=>q (x::y::xs) i C (b1.trans (b2.trans b3)) (g.trans (f.trans d)) z (qzm (qza (b2.trans b3) (f.trans d) _ _ o) (qzm (qza b3 d _ _ l) k))
theorem qax{K:Qqq}:∀{ds}{xs}{kvs},IsDs K m H ds xs->M.pairUp ds=Y kvs->∃ys:L (Key×V),IsKV K m H kvs ys/\twos xs=ys.map λf=>(kV f.1,f.2)
 |[],xs,kvs,b,e=>by
  cases e;rw[b.nil];exact⟨[],rfl,rfl⟩
 |[d],xs,kvs,b,e=>by cases e
 |d::d'::ds,xs,kvs,b,e=>by
  have e:(if M.isKey d then(M.pairUp ds).map ((d,d')::·) else B)=Y kvs:=e
  split at e
  ·rename_i hk;refine qzh e λt r q=>?_;subst q;obtain⟨x,s,rfl,o,l⟩:=b.cons;obtain⟨y,g,rfl,i,h⟩:=l.cons;obtain⟨k,a⟩:=qqu hk;have p:=qm9 a o;subst p;obtain⟨ys,h1,h2⟩:=qax h r;refine⟨(k,y)::ys,⟨k,y,ys,rfl,a,i,h1⟩,?_⟩;show(kV k,y)::twos g=_;rw[h2]
   rfl
  ·exact nn e
def qk9{K:Qqq}(h:tD K (λτ st=>M.stepEv r τ st (.meth a k es)) o H Q):
  tBM K "list" (λx xs H Q=>∃m st a ds d st',Rel K m st H/\IsD K m H a x/\IsDs K m H ds xs/\M.mfun st k a ds=Y (d,st')/\Post K m H d st' Q) (tD K λτ st=>r.ev τ st a) (tL K λτ st=>M.evs (r.ev τ) es st) o H Q:=by
 refine h.el λm st τ d st' G u b e=>qzk b λi y F b=>?_
 split at b
 ·rename_i f;refine qzj b λq D b=>rsI G u F λv m1 H1 b1 s w t=>⟨?_,rsI w (u.mono b1 s) D λxs z H2 b2 p R2 A=>⟨z,q.2,i,q.1,d,st',R2,qza b2 p _ _ t,A,b,e.mono (b1.trans b2) (s.trans p)⟩⟩
  have hs:∃ds,M.seqAt y i=Y ds:=by
   cases i with
   |loc l=>exact Qz4.mp ((Bool.true_and _).symm.trans f)
   |lst l=>exact Qz4.mp ((Bool.true_and _).symm.trans f)
   |_=>cases f
  obtain⟨ds,g⟩:=hs;obtain⟨I,xs,_,rfl,C,_⟩:=w.seq g t;exact .inl ⟨rfl,xs,C⟩
 ·exact nn b
def e_ok(A:AllOk fns dl n)(G':Good fns dl c X)(h:CkN j c e p):PE X p (tD X.K λτ st=>M.stepEv ?v τ st e):=by
 have G:=G';have hu:=G'.room.units
 cases j with
 |zero=>cases h
 |succ j=>
 cases h with
 |gc hs hq U hg I=>exact(pe_gc (A.e (j:=j+1) c X G _ _ (.of hs hq I))).imp λ_ _ _ h=>h
 |of hs hq h=>
 clear hs hq
 cases h with
 |nm h=>
  cases h with
  |@var i x hN hv hd c4=>
  refine(pe_var (qjv G hN) (by rw[G.sc]; exact hv) hd c4).imp λσ H Q h=>?_;refine h.el λm st τ d st' K P e q=>?_;simp only[M.stepEv]at e
  split at e
  ·rename_i d' c3;cases e;obtain⟨v,a,b⟩:=P.at_ i d c3;exact⟨v,a,q.here K b⟩
  ·exact nn e
  |@glo x d hg hm hd=>
  obtain⟨u,v,h1,h2,h3⟩:=G.mo.glo _ _ hm;exact(qyx (G.gl hg) h1 h2 hd).imp λσ H Q h=>h.el λm st τ d st' K P e q=>by cases e; exact q.here K (h3 m H)
 |int=>exact pe_int.imp λσ H Q h=>h.el λm st τ d st' K P e q=>by cases e; exact q.here K (mkInt _)
 |bl=>exact pe_bl.imp λσ H Q h=>h.el λm st τ d st' K P e q=>by cases e; exact q.here K (mkBl _)
 |non=>exact pe_non.imp λσ H Q h=>h.el λm st τ d st' K P e q=>by cases e; exact q.here K qvw
 |str=>exact pe_str.imp λσ H Q h=>h.el λm st τ d st' K P e q=>by cases e; exact q.here K (mkStr _)
 |@bin op a b T pb pos I hb=>
  exact(pe_op (qml op) (A.e c X G a T I) (A.e c X G b pb hb)).imp λσ H Q h=>qca h
 |@lenset a T p0 p1 c8 pos hg hs I=>
  refine(qqf qe6 (G.gl hg) (G.no rfl) qws (qjh (qq9 (qe2 G.room.hd G.room.units) (G.gl hs) (G.no rfl) qfk (qjh (A.e c X G a T I) pa_nil (I.star _ _)) (by decide) (by decide) (I.star _ _) rfl) pa_nil rfl) (by decide) (by decide) rfl rfl).imp λσ H Q h=>?_;refine h.el λm st τ d st' K P e g=>qzk e λd1 s1 V e=>qzh e λd2 e2 e3=>?_;cases e3;refine rsI K P V λx m1 H1 b1 R S ix=>?_
  cases d1 with
  |tup ds=>
   obtain⟨ks,k1,k2⟩:=Option.bind_eq_some_iff.mp (e2)
   split at k2
   ·rename_i c6;cases k2;obtain⟨pt,ys,rfl,hq,iy⟩:=ix.tup;refine⟨pt,ys,ks,rfl,hq,qdu iy k1,by rw[<- iy.length]; exact c6,λl hl=>?_⟩;refine⟨l,_,rfl,qzy,?_⟩;have sm:=qzc (o:=setO l (ST.distinct ks).length) hl;exact g _ m1 _ b1 (R.trans (Tr.of_same sm)) (S.same sm) (mkInt _)
   ·exact nn k2
  |_=>exact nn e2
 |@neg a T pos I=>
  exact(pe_un qi5 (A.e c X G a T I)).imp λσ H Q h=>tD_un h
 |@not a T pos I=>
  refine(pe_not (A.e c X G a T I)).imp λσ H Q h=>h.el λm st τ d st' K P e q=>qzk e λd1 s1 V e=>rsI K P V λv m1 H1 b1 R S i1=>?_
  cases d1 with
  |bl k=>
   have q:=q.of e;exact⟨k,i1.bl,q _ m1 H1 b1 R S (mkBl _)⟩
  |_=>exact nn e
 |@cmp op a b T pb pos I hb=>
  exact(qmy (qxc hu op) (A.e c X G a T I) (A.e c X G b pb hb) (qbz hb.sh _)).imp λσ H Q h=>qca h
 |@cmp2 op b0 a b d T pb pd pos I hb hd=>
  refine(qgn (qxc hu op) (qxc hu b0) (A.e c X G a T I) (A.e c X G b pb hb) (A.e c X G d pd hd) (qbz hd.sh _)).imp λσ H Q h=>h.el λm st τ dd st' K P e q=>qzk e λd1 s1 V e=>qzk e λd2 s2 e2 e=>qzj e λk e3 e=>rsI K P V λx m1 H1 b1 R S i1=>rsI S (P.mono b1 R) e2 λy m2 H2 b2 t2 R2 i2=>
   ⟨m2,s2,d1,d2,.bl k,s2,R2,qza b2 t2 _ _ i1,i2,by show Option.map _ (M.cmpD s2 op d1 d2)=_; rw[e3]; rfl,λz m3 H3 b3 t3 R3 i3=>⟨k,i3.bl,?_⟩⟩
  cases k with
  |true=>
   rw[Z8 rfl]at e ⊢;exact qzk e λd3 s3 e4 e=>rsI R3 (P.mono (b1.trans (b2.trans b3)) (R.trans (t2.trans t3))) e4 λy' m4 H4 b4 t4 R4 i4=>
    ⟨m4,s3,d2,d3,dd,st',R4,qza (b3.trans b4) (t3.trans t4) _ _ i2,i4,e,q.mono (b1.trans (b2.trans (b3.trans b4))) (R.trans (t2.trans (t3.trans t4)))⟩
  |false=>
   rw[Z7 Qqu]at e ⊢;have q:=q.of e;exact q _ m3 H3 (b1.trans (b2.trans b3)) (R.trans (t2.trans t3)) R3 (mkBl _)
 |@and a b T pb r pos I hb=>
  have hb:PE X (.BoolOp .And (pb::r) pos) (tD X.K λτ st=>(?v).ev τ st b):=by
   cases r with
   |nil=>exact qh8 (A.e c X G b pb hb)
   |cons=>exact A.e c X G b _ hb
  refine(pe_and (A.e c X G a T I) hb).imp λσ H Q h=>h.el λm st τ d st' K P e q=>qzk e λd1 s1 V e=>rsI K P V λv m1 H1 b1 R S i1=>?_
  cases d1 with
  |bl k=>
   cases k with
   |true=>exact⟨O,i1.bl,rsI S (P.mono b1 R) e (q.mono b1 R)⟩
   |false=>cases e; exact⟨Y5,i1.bl,q _ m1 H1 b1 R S (mkBl _)⟩
  |_=>exact nn e
 |@or a b T pb r pos I hb=>
  have hb:PE X (.BoolOp .Or (pb::r) pos) (tD X.K λτ st=>(?v).ev τ st b):=by
   cases r with
   |nil=>exact qh8 (A.e c X G b pb hb)
   |cons=>exact A.e c X G b _ hb
  refine(pe_or (A.e c X G a T I) hb).imp λσ H Q h=>h.el λm st τ d st' K P e q=>qzk e λd1 s1 V e=>rsI K P V λv m1 H1 b1 R S i1=>?_
  cases d1 with
  |bl k=>
   cases k with
   |false=>exact⟨Y5,i1.bl,rsI S (P.mono b1 R) e (q.mono b1 R)⟩
   |true=>cases e; exact⟨O,i1.bl,q _ m1 H1 b1 R S (mkBl _)⟩
  |_=>exact nn e
 |@tup es ps k pos hs=>
  refine(pe_tup (qzs A G hs)).imp λσ H Q h=>h.el λm st τ d st' K P e g=>qzj e λp V e=>?_
  split at e
  ·exact nn e
  ·rename_i hl;have g:=g.of e;refine rsI K P V λxs m1 H1 b1 R S ix=>?_;have l1:=ix.length;have l2:=qqa;refine⟨by lia,λpp U=>?_⟩;have sm:=qzc (o:=.tup xs) U;exact g _ m1 _ b1 (R.trans (Tr.of_same sm)) (S.same sm) (qq2 (SqT.of qzy) (qzf (Sub.refl _) (Tr.of_same sm) _ _ ix))
 |@lst es ps pos hs=>
  refine(pe_lst (qzs A G hs)).imp λσ H Q h=>h.el λm st τ d st' K P e g=>qzj e λp V e=>?_
  split at e
  ·exact nn e
  ·rename_i hl;have g:=g.of e;refine rsI K P V λxs m1 H1 b1 R S ix=>?_;have l1:=ix.length;have l2:=qqa;refine⟨by lia,λpp U=>?_⟩;exact g _ (m1++[pp]) _ (b1.trans (Sub.app _ _)) (R.trans (Tr.of_same (qzc U))) (S.new U ix) S.newLoc
 |@idx a b T pb pos I hb=>
  exact(pe_ix ix_D (A.e c X G a T I) (A.e c X G b pb hb) (qlf hb.sh)).imp λσ H Q h=>qca h
 |@call f x es p ps p0 pos hg hf hd hn hs=>
  obtain⟨fa,fd,a0,hm,F,hk,hb⟩:=G'.tab f x hf;have U:Star p:=by cases hs with|cons h _=>exact h.star
  have W:(backTo pos (starEach ps X.env)).any (·.1)=false:=by cases hs with|cons _ t=>exact qq1 t pos X.env
  refine(qma F (G.room.mono (by lia)) (G.gl hg) (hm.1 hn) hk hb .nil qgp (qzs A G hs) hd (U _ _) W).imp λσ H Q h=>?_;refine h.el λm st τ d st' K P e g=>qzj e λq V e=>rsI K P V λxs m1 H1 b1 R S ix=>?_;show spN X.K fns dl f (xs++[]) H1 Q E0;have e:=e;rw[M.runK_call]at e;rw[Qzj];exact⟨m1,q.2,q.1,d,st',S,ix,e,g.mono b1 R⟩
 |@bcall b es p ps p0 pos hg d5 hs=>
  have U:Star p:=by cases hs with|cons h _=>exact h.star
  have W:(backTo pos (starEach ps X.env)).any (·.1)=false:=by cases hs with|cons _ t=>exact qq1 t pos X.env
  have hA:=qzs A G hs
  cases b with
  |len=>exact(qqf qe7 (G.gl hg) (G.no rfl) qws hA (by decide) (by decide) (U _ _) W).imp λσ H Q h=>qqn h
  |min=>exact(qqf (qe4 G.calm) (G.gl hg) (G.no rfl) qfv hA (by decide) (by decide) (U _ _) W).imp λσ H Q h=>qqn h
  |tuple=>exact(qq9 qyn (G.gl hg) (G.no rfl) qj7 hA (by decide) (by decide) (U _ _) W).imp λσ H Q h=>qqn h
  |list=>exact(qq9 (qbt G.room.hd) (G.gl hg) (G.no rfl) qk3 hA (by decide) (by decide) (U _ _) W).imp λσ H Q h=>qqn h
  |any=>exact(qqf (qfz G.calm) (G.gl hg) (G.no rfl) qfy hA (by decide) (by decide) (U _ _) W).imp λσ H Q h=>qqn h
  |all=>exact(qqf (qfq G.calm) (G.gl hg) (G.no rfl) qfa hA (by decide) (by decide) (U _ _) W).imp λσ H Q h=>qqn h
  |sorted=>exact(qqf (qwo G.room.hd) (G.gl hg) (G.no rfl) qwr hA (by decide) (by decide) (U _ _) W).imp λσ H Q h=>qqn h
  |int=>exact(qq9 qe9 (G.gl hg) (G.no rfl) qwt hA (by decide) (by decide) (U _ _) W).imp λσ H Q h=>qqn h
 |@isi1 t a T p0 p1 pos hg W c1 I=>
  refine(qqf (qe8 t W) (G.gl hg) (G.no rfl) qfw (qjh (A.e c X G a T I) (qjh (ty_ok G W c1) pa_nil rfl) (I.star _ _)) (by decide) (by decide) (I.star _ _) rfl).imp λσ H Q h=>?_;refine h.el λm st τ d st' K P e g=>qzk e λd1 s1 V e=>qzh e λnm e2 e3=>?_;cases e3;refine rsI K P V λx m1 H1 b1 R S ix=>⟨m1,s1,d1,nm,x,rfl,S,ix,e2,g _ m1 H1 b1 R S ?_⟩
  have:([t].any λt=>M.tyIs t nm)=M.tyIs t nm:=by simp
  rw[this];exact mkBl _
 |@meth a k es T p ps apos cpos I hs hn hl=>
  have U:Star p:=by cases hs with|cons h _=>exact h.star
  have W:(backTo cpos (starEach ps X.env)).any (·.1)=false:=by cases hs with|cons _ t=>exact qq1 t cpos X.env
  have few:((backTo cpos (starEach (p::ps) X.env)).all (λx=>!x.1)&&(backToKw cpos (keywordEach [] X.env)).all (λx=>x.1.isSome)&&decide ((p::ps).length+([]:L Zs).length+(if ([]:L Zs).isEmpty then 0 else 1)<30))=true:=by
   rw[List.all_eq_not_any_not];simp only[Bool.not_not,qq1 hs cpos X.env];exact Z5 hn
  have hb:=λx=>qvx I.sh x X.env (Qw T X.env)
  cases k with
  |append=>exact(qgo PySem.F.plainAttrs_list PySem.F.slot_list_append PySem.F.type_list_append qbc (A.e c X G a _ I) (qzs A G hs) (hb _) few hl (U _ _) W).imp λ_ _ _ h=>qk9 h
  |extend=>exact(qgo PySem.F.plainAttrs_list PySem.F.slot_list_extend PySem.F.type_list_extend qbb (A.e c X G a _ I) (qzs A G hs) (hb _) few hl (U _ _) W).imp λ_ _ _ h=>qk9 h
  |index=>exact(qgo PySem.F.plainAttrs_list PySem.F.slot_list_index PySem.F.type_list_index (qdf hu) (A.e c X G a _ I) (qzs A G hs) (hb _) few hl (U _ _) W).imp λ_ _ _ h=>qk9 h
  |insert=>exact(qgo PySem.F.plainAttrs_list PySem.F.slot_list_insert PySem.F.type_list_insert qba (A.e c X G a _ I) (qzs A G hs) (hb _) few hl (U _ _) W).imp λ_ _ _ h=>qk9 h
 |@dic0 pos=>
  refine pe_dnewK.imp λσ H Q h=>h.el λm st τ d st' K P e g=>?_;have e0:M.wdicAt (st++[Yb.dic O []]) st.length=Y []:=by simp[M.wdicAt]
  have e:(match M.wdicAt (st++[Yb.dic O []]) st.length with
   |some []=>(M.pairUp []).bind λkvs=>if kvs.length<=15 then Y (D.loc st.length,(st++[Yb.dic O []]).set st.length (Yb.dic O (M.dall kvs))) else B
   |_=>B)=Y (d,st'):=e
  rw[e0]at e;have e2:(st++[Yb.dic O []]).set st.length (.dic O [])=st++[.dic O []]:=by simp
  have e:Y (D.loc st.length,(st++[Yb.dic O []]).set st.length (.dic O []))=Y (d,st'):=e;rw[e2]at e;have g:=g.of e;intro pp U;exact g _ (m++[pp]) _ (Sub.app _ _) (Tr.of_same (qzc U)) (K.newD U rfl) K.newLoc
 |@dic es k v ks vs pos hP c7=>
  obtain⟨h1,h2,h3⟩:=qv6 A G hP;refine(qmj h1 h2 h3 (by simp) c7).imp λσ H Q h=>?_;refine h.el λm st τ d st' K P e g=>?_;have e:=e;refine qzj e λp V e=>?_
  split at e
  ·rename_i a8;refine qzj e λkvs e2 e=>?_
   split at e
   ·rename_i hl;have g:=g.of e;intro pp U;have sm:=qzc (o:=.dK []) U;refine qv5 hP (K.newD (kvs:=[]) U rfl) (P.mono (Sub.app _ _) (Tr.of_same sm)) V λxs m1 H1 b1 R S ix=>?_;obtain⟨ys,a7,b6⟩:=qax ix e2;have a1:=qza b1 (Tr.refl H1) _ _ (K.newLoc);obtain⟨a',d4,c5,ea,hH,a6,b7⟩:=S.wdict a8 a1;cases ea;have b5:=a6;subst b5;have l1:=a7.length;refine⟨hH,ys,b6,by lia,?_⟩;exact g _ m1 _ ((Sub.app _ _).trans b1) ((Tr.of_same sm).trans (R.trans (Tr.putD hH))) (S.putD b7 c5 hH (a7.merge (rfl))) (qza (Sub.refl _) (Tr.putD hH) _ _ a1)
   ·exact nn e
  ·exact nn e
 |@didx a b T pb pos I hb=>exact qgl (by lia) (A.e c X G a T I) (A.e c X G b pb hb) (qlf hb.sh)
 |@din neg a b T pb pos I hb=>exact qh9 (qdx (by lia) neg (A.e c X G a T I) (A.e c X G b pb hb)) (qbz hb.sh _)
 |@gidx x ks ds b pb p0 pos hg hm hd hb=>
  obtain⟨ad,h1,h2⟩:=G.mo.gds x ks ds hm;exact qgi (G.gl hg) h1 h2 hd (A.e c X G b pb hb) (qlf hb.sh)
 |@gin neg x ks ds b pb p0 pos hg hm hd hb=>
  obtain⟨ad,h1,h2⟩:=G.mo.gds x ks ds hm;exact qh9 (qdz neg (G.gl hg) h1 h2 hd (A.e c X G b pb hb)) (by cases neg<;>rfl)
 |@sli a lo hi T pl ph p2 pos I hl hh=>
  refine(qgg sl_D (A.e c X G a T I) (po_ok A G hl) (po_ok A G hh)).imp λσ H Q h=>h.el λm st τ d st' K P e g=>?_;have e:=e;exact qzk e λd1 s1 V e=>qzj e λl e2 e=>qzj e λu e3 e=>rsI K P V λx m1 H1 b1 R S i1=>rsI S (P.mono b1 R) e2 λm2 H2 b2 t2 R2=>rsI R2 (P.mono (b1.trans b2) (R.trans t2)) e3 λm3 H3 b3 t3 R3=>
   ⟨m3,u.2,d1,d,st',R3,qza (b2.trans b3) (t2.trans t3) _ _ i1,e,g.mono (b1.trans (b2.trans b3)) (R.trans (t2.trans t3))⟩
 |@comp t it q elt sr tg c9 pq a3 a9 pos N ok hi W hq he=>
  have GI:=λ{C fp s H}=>G.inner (C:=C) (fp:=fp) (s:=s) (H:=H) ok.kind ok.nd;exact(qmw G.calm (qk0 G ok) (qyb A G hi) (λC fp s H=>qqm GI W λi c0 x hx=>.inr (qcv ok.tl i c0 x hx)) (λC fp s H=>qhp A GI hq) (λC fp s H=>A.e _ _ GI elt a3 he) (ok.fs X.env)).imp λσ H Q h=>qcy h
 |@dgt a b T pb apos cpos I hb hl=>
  exact qmk (by lia) (A.e c X G a T I) (A.e c X G b pb hb) ⟨qvx I.sh _ _ _,by rw[hb.star]; rfl,hl,by rw[hb.star]; rfl⟩
 |@attr C a f T pos I hc=>
  obtain⟨h1,h2⟩:=G.mo.ats C f hc;refine(pe_fld (A.e c X G a T I) (qvx I.sh _ _ _)).imp λσ H Q h=>h.el λm st τ d st' K P e g=>qzk e λd1 s1 V e=>qzj e λfs e2 e=>qzh e λd2 e3 e4=>?_;cases e4;refine rsI K P V λx m1 H1 b1 R S ix=>?_;obtain⟨l,p,dx,ys,rfl,_,rfl,hH,a2,_⟩:=S.inst e2 ix;rcases a2.get f with⟨z,_⟩|⟨d',v,z1,z2,iv⟩
  ·rw[z]at e3; cases e3
  ·rw[z1]at e3;cases e3;exact⟨p,C,dx,ys,v,rfl,hH,h1,h2,z2,g _ m1 H1 b1 R S iv⟩
 |@mcall C f m' x cn a es T ps apos pos I hf hm hc hs hn b9=>
  obtain⟨fa,fd,a0,hl,F,hk,hb⟩:=G'.tab f x hf;obtain⟨_,hC,_,_⟩:=G.mo.cls cn C hc;have hM:=hl.2 C m' hm;obtain⟨pl,W⟩:=sh_mt I.sh hs.sh hn b9 X.env;have a4:∀σ H Q,tD X.K (λτ st=>M.stepEv ?v τ st (.mcall C f m' a es)) σ H Q->qlv C m' (spN X.K fns dl f) [] E0 (tD X.K λτ st=>(?v).ev τ st a) (tL X.K λτ st=>M.evs ((?v).ev τ) es st) σ H Q:=by
   intro σ H Q h;refine h.el λm st τ d st' K P e g=>qzk e λd1 s1 V e=>qzj e λfs e2 e=>rsI K P V λv m1 H1 b1 R S ix=>?_;obtain⟨l,p,dx,ys,rfl,_,rfl,hH,a2,_⟩:=S.inst e2 ix
   split at e
   ·exact nn e
   ·rename_i a5;refine qzj e λq e3 e=>?_;rcases a2.get m' with⟨_,z⟩|⟨d',v,z1,_,_⟩
    ·refine⟨p,dx,ys,rfl,hH,z,rsI S (P.mono b1 R) e3 λxs m2 H2 b2 t2 R2 i2=>?_⟩;have e:=e;rw[M.runK_call]at e;show spN X.K fns dl f (.ref p::(xs++[])) H2 Q E0;rw[Qzj];exact⟨m2,q.2,_,d,st',R2,qzm (qza b2 t2 _ _ ix) i2,e,g.mono (b1.trans b2) (R.trans t2)⟩
    ·rw[z1]at a5;exact absurd rfl a5
  have hr:Room (2*dl) X.A:=G.room.mono (by lia)
  cases hs with
  |nil=>
   refine(qgh (A.e c X G a T I) hC hM F hr hb .nil qgp W).imp λσ H Q h=>?_
   ·obtain⟨m,st,τ,d1,s1,K,P,V,k⟩:=a4 σ H Q h;refine rsI K P V λv m1 H1 b1 R S ix=>?_;obtain⟨p,dx,ys,rfl,hH,z,m2,s2,d0,ds,s3,R2,S2,e2,k2⟩:=k v m1 H1 b1 R S ix;cases e2;exact⟨p,dx,ys,rfl,hH,z,k2 [] m2 H1 (Sub.refl _) (Tr.refl _) R2 qz8⟩
  |cons h1 h2=>exact(qmz (A.e c X G a T I) hC hM F hr hb .nil qgp (qzs A G (.cons h1 h2)) (h1.star _ _) (qq1 h2 pos X.env) W).imp a4
 |@new C f x cn es p ps p0 pos hg hf hm hc hd hs=>
  obtain⟨fa,fd,a0,hl,F,hk,hb⟩:=G'.tab f x hf;obtain⟨h1,_,h3,h4⟩:=G.mo.cls cn C hc;have hM:=hl.2 C _ hm;have U:Star p:=by cases hs with|cons h _=>exact h.star
  have W:(backTo pos (starEach ps X.env)).any (·.1)=false:=by cases hs with|cons _ t=>exact qq1 t pos X.env
  refine(qmq ⟨h3,hM.at_,hM.fn,h4⟩ F G.room (G.gl hg) h1 hb .nil qgp (qzs A G hs) hd (U _ _) W).imp λσ H Q h=>h.el λm st τ d st' K P e g=>qzj e λq V e=>qzj e λw e2 e=>rsI K P V λxs m1 H1 b1 R S ix x dx hx c2 b8=>?_;have e2:=e2;rw[M.runK_call]at e2;obtain⟨sm,R2⟩:=S.newI hx c2 b8;have lc:=S.newLoc (p:=x) (H':=upd (upd H1 dx (.own x)) x (.ins C dx []))
  split at e
  ·rename_i hn;have g:=g.of e;rw[Qzj];refine⟨m1++[x],_,_,w.1,w.2,R2,qzm lc (qzf (Sub.app m1 [x]) (Tr.of_same sm) _ _ ix),e2,λv m2 H2 b2 t2 R3 iv=>?_⟩;have hw:w.1=.non:=by
    cases hq:w.1 with
    |non=>rfl
    |_=>rw[hq]at hn; cases hn
   rw[hw]at iv;exact⟨iv.non,g _ m2 H2 (b1.trans ((Sub.app m1 [x]).trans b2)) (R.trans ((Tr.of_same sm).trans t2)) R3 (qza b2 t2 _ _ lc)⟩
  ·exact nn e
end
section
variable {fns:L Fn}{dl n j:Y0}{c:Ctx}{X:Cx}
def tt_val{K:Qqq}(hr:∀τ st,M.stepTst r τ st e=(r.ev τ st e).bind λp=>(M.truth p.2 p.1).map λk=>(k,p.2))(h:tTs K (λτ st=>M.stepTst r τ st e) b H Q):(tD K λτ st=>r.ev τ st e) b H λx H'=>∃k,TruV K x H' k/\Q k H':=by
 refine h.el λm st τ d st' u t a q=>?_;have a:=(hr τ st).symm.trans a;refine qzk a λw v s a=>qzh a λk o l=>?_;cases l;exact rsI u t s λx m1 H1 b1 g f i=>⟨_,qi9 f i o,q m1 H1 b1 g f⟩
def tt_bl{K:Qqq}(hr:∀τ st,M.stepTst r τ st e=(f τ st).bind λp=>(M.truth p.2 p.1).map λk=>(k,p.2))(hf:∀τ st d st',f τ st=Y (d,st')->∃k,d=.bl k)(h:tTs K (λτ st=>M.stepTst r τ st e) b H Q):tB (tD K f) b H Q:=by
 refine h.el λm st τ d st' t o a q=>?_;have a:=(hr τ st).symm.trans a;refine qzk a λv u g a=>?_;obtain⟨k,rfl⟩:=hf _ _ _ _ g;have q:=q.of a;exact rsI t o g λx m1 H1 b1 i s l=>⟨_,l.bl,q m1 H1 b1 i s⟩
def din_bl{st:Y3}(h:M.dinR r τ st neg a b=Y (d,st')):∃k,d=.bl k:=by
 unfold M.dinR at h;refine qzk h λp g o h=>qzk h λe f m h=>?_
 cases e with
 |loc l=>
  refine qzj h λkvs i h=>?_
  split at h
  ·cases h; exact⟨_,rfl⟩
  ·exact nn h
 |_=>exact nn h
def gin_bl{st:Y3}(h:M.ginR r τ st neg ks b=Y (d,st')):∃k,d=.bl k:=by
 unfold M.ginR at h;refine qzk h λa e f h=>?_
 cases a with
 |str z=>cases h; exact⟨_,rfl⟩
 |_=>exact nn h
def tt_and{K:Qqq}(h:tTs K (λτ st=>M.stepTst r τ st (.and a b)) g H Q):tAnd (tTs K λτ st=>r.tst τ st a) (tTs K λτ st=>r.tst τ st b) g H Q:=by
 refine h.el λm st τ d st' u k e q=>?_;have e:=e;refine qzj e λp t e=>rsI u k t λm1 H1 b1 f l=>?_
 cases i:p.1 with
 |true=>
  rw[i,Z8 rfl]at e;rw[Z8 rfl];exact rsI l (k.mono b1 f) e λs H2 b2 o R2=>q s H2 (b1.trans b2) (f.trans o) R2
 |false=>
  rw[i,Z7 Qqu]at e;have q:=q.of e;rw[Z7 Qqu];exact q m1 H1 b1 f l
def tt_or{K:Qqq}(h:tTs K (λτ st=>M.stepTst r τ st (.or a b)) g H Q):tOr (tTs K λτ st=>r.tst τ st a) (tTs K λτ st=>r.tst τ st b) g H Q:=by
 refine h.el λm st τ d st' u k e q=>?_;have e:=e;refine qzj e λp t e=>rsI u k t λm1 H1 b1 f l=>?_
 cases i:p.1 with
 |false=>
  rw[i,Z7 Qqu]at e;rw[Z7 Qqu];exact rsI l (k.mono b1 f) e λs H2 b2 o R2=>q s H2 (b1.trans b2) (f.trans o) R2
 |true=>
  rw[i,Z8 rfl]at e;have q:=q.of e;rw[Z8 rfl];exact q m1 H1 b1 f l
def qvs{K:Qqq}(r:SlotOk K m H τ o)(h:SlotOk K b l (τ.set i (Y g)) σ')(s:Sub m b)(t:Tr l k)(hd:∀v,MS.IsD K b l g v->MS.IsD K m k d v):SlotOk K m k (τ.set i (Y d)) σ':=by
 refine⟨by have:=h.len; rwa [Qzs]at this ⊢,λj e a=>?_⟩
 by_cases hj:i=j
 ·subst hj;have hi:i<τ.length:=by
   have:=(Qqk.mp a).1;rwa [Qzs]at this
  rw[Qq5 hi]at a;cases a;obtain⟨v,f,q⟩:=h.at_ i g (Qq5 hi);exact⟨v,f,hd v q⟩
 ·rw[Qqr hj]at a;obtain⟨u,_,p⟩:=r.at_ j e a;obtain⟨v,f,q⟩:=h.at_ j e (by rw[Qqr hj]; exact a);exact⟨v,f,qza ?H t _ _ (qx8 s _ _ _ p q)⟩
def qgb{f:Sl->Y3->Y2 (D×Y3)}(h:PS X p (tS X.K λτ st=>(f τ st).bind λq=>(M.setT (.var i) q.1 τ).map λτ'=>(Out.nx τ',q.2))):
  PS X p (tS X.K λτ st=>((f τ st).map λq=>M.gcD st q).bind λq=>(M.setT (.var i) q.1 τ).map λτ'=>(Out.nx τ',q.2)):=by
 intro pins s σ H Dn I q;refine q.el λm st τ o st' Q P e k=>qzk e λd V e1 e=>?_;obtain⟨⟨F,r⟩,e2,e3⟩:=mapD e1;refine qzh e λτ' A e5=>?_;cases e5;have A:(if i<τ.length then Y (τ.set i (Y d)) else B)=Y τ':=A
 split at A
 case isFalse=>exact nn A
 case isTrue hi=>
  cases A;refine thn (h pins s σ H ⟨λg H1=>∃m1,Sub m m1/\Tr H H1/\Rel X.K m1 r H1/\SlotOk X.K m1 H1 (τ.set i (Y F)) g,λ_ _=>False,λ_ _=>False,λ_ _=>False⟩ I (rsI (d:=.nx (τ.set i (Y F))) (st':=r) Q P (by show(f τ st).bind _=_; rw[e2]; show Option.map _ (if i<τ.length then Y (τ.set i (Y F)) else B)=_; rw[Z8 hi]; rfl) λm1 H1 b t R g C=>⟨m1,b,t,R,C⟩)) λfl s2 hf=>?_
  cases fl with
  |next=>
   obtain⟨g,H1,S,m1,b1,G,x,C⟩:=hf;have plain:(F,r)=(d,V)->SP X pins Dn .next s2:=λz=>by
    cases z;exact⟨g,H1,S,k m1 H1 b1 G x g C⟩
   rcases gc_el e3 with z|⟨ok,z⟩
   ·exact plain z
   ·unfold M.gcX at z
    split at z
    ·rename_i hn;cases z;exact⟨g,H1,S,k m H1 ?H G (Q.cut x b1 ok (Tr.refl H1) λ_ _ _ _ _ _=>rfl) g (qvs P C b1 (Tr.refl H1) λv q=>qd5 _ _ hn q)⟩
    ·split at z
     ·rename_i l hd;simp only at hd
      split at z
      ·rename_i hl
       split at z
       ·rename_i ds hc
        split at z
        ·rename_i hn;cases z;subst hd;obtain⟨a,K⟩:=x.addr hc;obtain⟨xs,U,W⟩:=x.cell l _ a hc K;obtain⟨o,I2⟩:=qks S U;have E:=Tr.lay (o:=o) U;refine⟨g,_,I2,k m _ ?H (G.trans E) (Q.cut x b1 ok E λT c N e ea w=>?_) g (qvs P C b1 E λv q=>?_)⟩
         ·refine qzx λz=>?_;subst z;have h3:=qjw e;have:=x.nd T l N c _ (b1 T N ea) K h3.2 hc w rfl;omega
         ·obtain⟨N,y,rfl⟩:=q.loc;rw[K]at y;cases y;exact qbd (.inl ⟨o,qzy⟩) (qju _ _ hn (qzf (Sub.refl m1) E _ _ W))
        ·exact plain z
       ·exact plain z
      ·exact plain z
     ·exact plain z
  |brk=>obtain⟨_,_,_,z⟩:=hf; exact z.elim
  |cont=>obtain⟨_,_,_,z⟩:=hf; exact z.elim
  |ret u=>obtain⟨_,_,_,_,_,z⟩:=hf; exact z.elim
def w_ok(A:AllOk fns dl n)(G:Good fns dl c X)(h:CkN j c e (.BoolOp i ps pos)):PW X (.BoolOp i ps pos) (tTs X.K λτ st=>M.stepTst ?v τ st e):=by
 cases j with
 |zero=>cases h
 |succ j=>
 cases h with
 |gc _ _ l=>cases l
 |of hs k h=>
 clear hs k
 cases h with
 |@and a b f d r pos g hb=>
  refine(pw_and (A.t c X G a f g) ?_).imp λσ H Q h=>tt_and h
  cases r with
  |nil=>exact qls (A.t c X G b d hb)
  |cons=>exact A.w c X G b _ _ _ hb
 |@or a b f d r pos g hb=>
  refine(pw_or (A.t c X G a f g) ?_).imp λσ H Q h=>tt_or h
  cases r with
  |nil=>exact pw_or1 (A.t c X G b d hb)
  |cons=>exact A.w c X G b _ _ _ hb
def qxo(d:PE X p (tD X.K λτ st=>r.ev τ st e))(a:∀w,isTrue p X.env w=(do let v <- w; Zo p.pos; Q5 [v] (truthy v)))(b:∀τ st,M.stepTst r τ st e=(r.ev τ st e).bind λp=>(M.truth p.2 p.1).map λk=>(k,p.2)):PT X p (tTs X.K λτ st=>M.stepTst r τ st e):=(qgw d a).imp λ_ _ _ h=>tt_val b h
def t_ok(A:AllOk fns dl n)(G':Good fns dl c X)(h:CkN j c e p):PT X p (tTs X.K λτ st=>M.stepTst ?v τ st e):=by
 have G:=G';have hu:=G'.room.units;have f:=A.e c X G e p h
 cases j with
 |zero=>cases h
 |succ j=>
 revert f
 cases h with
 |gc hs hq hp hg g=>
  intro f
  cases p with
  |Call=>exact qxo f (λ_=>rfl) λ_ _=>rfl
  |ListComp=>exact qxo f (λ_=>rfl) λ_ _=>rfl
  |List=>exact qxo f (λ_=>rfl) λ_ _=>rfl
  |BinOp=>exact qxo f (λ_=>rfl) λ_ _=>rfl
  |Subscript=>exact qxo f (λ_=>rfl) λ_ _=>rfl
  |_=>cases hp
 |of hs hq h=>
 clear hs hq
 cases h with
 |nm h=>
  cases h with
  |var=>exact λf=>qxo f (λ_=>rfl) λ_ _=>rfl
  |glo=>exact λf=>qxo f (λ_=>rfl) λ_ _=>rfl
 |@not a u pos g=>
  intro _;refine(pt_not (A.t c X G a u g)).imp λσ H Q h=>h.el λm st τ d st' P r C q=>qzh C λp K I=>?_;cases I;exact rsI P r K λm1 H1 b1 l N=>q m1 H1 b1 l N
 |and g hb=>exact λ_=>(w_ok A G (j:=j+1) (.of rfl rfl (.and g hb))).pt
 |or g hb=>exact λ_=>(w_ok A G (j:=j+1) (.of rfl rfl (.or g hb))).pt
 |@cmp w a b u t pos g hb=>
  intro _;refine(qlt (qxc hu w) (A.e c X G a u g) (A.e c X G b t hb) (qbz hb.sh _)).imp λσ H Q h=>h.el λm st τ d st' P r C q=>qzk C λD s1 K C=>qzk C λi o I C=>qzh C λk e3 e4=>?_;cases e4;exact rsI P r K λx m1 H1 b1 l N i1=>rsI N (r.mono b1 l) I λy V H2 b2 s R2 S=>
   ⟨V,o,D,i,.bl d,o,R2,qza b2 s _ _ i1,S,by show Option.map _ (M.cmpD o w D i)=_; rw[show M.cmpD o w D i=Y d from e3]; rfl,λz U H3 b3 F T W=>⟨d,W.bl,q U H3 (b1.trans (b2.trans b3)) (l.trans (s.trans F)) T⟩⟩
 |@cmp2 w v a b d u t pd pos g hb hd=>
  intro _;refine(qgy (qxc hu w) (qxc hu v) (A.e c X G a u g) (A.e c X G b t hb) (A.e c X G d pd hd) (qbz hd.sh _)).imp λσ H Q h=>h.el λm st τ dd st' P r e q=>qzk e λD s1 K e=>qzk e λi o I e=>qzj e λk e3 e=>rsI P r K λx m1 H1 b1 l N i1=>rsI N (r.mono b1 l) I λy V H2 b2 s R2 S=>
   ⟨V,o,D,i,.bl k,o,R2,qza b2 s _ _ i1,S,by show Option.map _ (M.cmpD o w D i)=_; rw[show M.cmpD o w D i=Y k from e3]; rfl,λz U H3 b3 F T W=>⟨k,W.bl,?_⟩⟩
  cases k with
  |true=>
   rw[Z8 rfl]at e ⊢;refine qzk e λd3 R e4 e=>qzh e λk' e5 e6=>?_;cases e6;exact rsI T (r.mono (b1.trans (b2.trans b3)) (l.trans (s.trans F))) e4 λy' m4 H4 b4 t4 R4 i4=>
    ⟨m4,R,i,d3,.bl dd,R,R4,qza (b3.trans b4) (F.trans t4) _ _ S,i4,by show Option.map _ (M.cmpD R v i d3)=_; rw[show M.cmpD R v i d3=Y dd from e5]; rfl,
     λz m5 H5 b5 t5 R5 i5=>⟨dd,i5.bl,q m5 H5 (b1.trans (b2.trans (b3.trans (b4.trans b5)))) (l.trans (s.trans (F.trans (t4.trans t5)))) R5⟩⟩
  |false=>
   rw[Z7 Qqu]at e ⊢;have q:=q.of e;exact⟨Y5,rfl,q U H3 (b1.trans (b2.trans b3)) (l.trans (s.trans F)) T⟩
 |@din neg a b u t pos g hb=>exact λ_=>(qh4 (qdx (by omega) neg (A.e c X G a u g) (A.e c X G b t hb)) (qbz hb.sh _)).imp λσ H Q h=>tt_bl (λ_ _=>rfl) (λ_ _ _ _ z=>din_bl z) h
 |@gin neg x ks ds b t p0 pos hg hm hd hb=>
  intro _;obtain⟨ad,h1,h2⟩:=G.mo.gds x ks ds hm;exact(qh4 (qdz neg (G.gl hg) h1 h2 hd (A.e c X G b t hb)) (by cases neg<;>rfl)).imp λσ H Q h=>tt_bl (λ_ _=>rfl) (λ_ _ _ _ z=>gin_bl z) h
 |_=>exact λf=>qxo f (λ_=>rfl) λ_ _=>rfl
def S_nx{K:Qqq}(p:PostO K m H (.nx τ) st' e)(b:Sub m a)(t:Tr H H')(g:Rel K a st' H')(f:SlotOk K a H' τ d):e.nx d H':=p a H' b t g d f
def qco{K:Qqq}(d:∀Q,(tD K λτ st=>r.ev τ st e) b H Q->g b H Q)(h:tS K (λτ st=>M.stepEx r τ st (.set (.var i) e)) p b H):tAsg g (qyf i) p b H:=by
 refine h.el λm st τ o st' y l f q=>qzk f λv z u f=>qzh f λτ' a t=>?_;cases t;have a:(if i<τ.length then Y (τ.set i (Y v)) else B)=Y τ':=a
 split at a
 ·cases a;exact d _ (rsI y l u λx m1 H1 b1 k w s=>S_nx q b1 k w ((l.mono b1 k).put s))
 ·exact nn a
def qcp(R:∀j,j<=n->AllOk fns dl j)(G:Good fns dl c X)(hf:∀x,X.fn x=O)(hi:c.N[i]?=Y x)(F:c.sc.names.lookup x=Y .local\/c.sc.names.lookup x=Y .cell)(f:CkE c e p)(U:∀a,e≠.gc a)(hc:∃elt P sc q,p=.ListComp elt P sc q)(hs:∀env:Env,env.scope=c.sc->(swapsWith p (Y (.Name x b)) pos.line env=pure Y5\/swapsWith p (Y (.Name x b)) pos.line env=pure O)):
  PS X (.Assign [.Name x b] p pos) (tS X.K λτ st=>M.stepEx ?v τ st (.set (.var i) e)):=by
 have A:=R n (Qqv n);have K:X.N.Nodup:=by rw[G.N]; exact G.nd
 have loc:∀{x:Y4},(c.sc.names.lookup x=Y .local\/c.sc.names.lookup x=Y .cell)->Loc X.env.scope x:=λ{x} h=>by rw[G.sc]; exact h
 rcases hs X.env G.sc with z|z
 ·exact(qh5 K (qjv G hi) (loc F) (A.e c X G e p f) z (.inl (hf x))).imp λD σ H h=>qco (λ_ q=>q) h
 ·cases n with
  |zero=>exact λpins s σ H W I q=>by obtain⟨m,st,τ,d,st',_,_,w,_⟩:=q; cases w
  |succ n=>
   have u:=R n (Qzl n);obtain⟨elt,P,sc,q,rfl⟩:=hc
   cases f with
   |gc=>exact(U _ rfl).elim
   |of hs l f=>
   clear hs l
   cases f with
   |@comp t it q g sr tg y V v k cpos N ok hit T l f=>
    have r:=λ{C fp s H}=>G.inner (C:=C) (fp:=fp) (s:=s) (H:=H) ok.kind ok.nd;exact(qbk G.calm (qk0 G ok) (qyb u G hit) (λC fp s H=>qqm r T λi o x S=>.inr (qcv ok.tl i o x S)) (λC fp s H=>qhp u r l) (λC fp s H=>u.e _ _ r g _ f) (ok.fs X.env) K (qjv G hi) (loc F) (.inl (hf x)) z).imp λD σ H h=>qco (λQ q=>qcy q) h
def sh_six(h:shOk b=O)(env)(v):assign (.Subscript f b a) env v=(do
    let d <- Q5 [v] (Qw f env)
    let e <- Q5 [v,d] (Qw b env)
    Zo a
    Q5 [v,d,e] (setItem d e v)
    release [v,d,e] []):=by
 cases b<;>first|rfl|cases h
def s1_ok(IH:∀j,j<=n->AllOk fns dl j)(G:Good fns dl c X)(hf:∀x,X.fn x=O)(h:CkS c s p):PS X p (tS X.K λτ st=>M.stepEx ?v τ st s):=by
 have A:=IH n (Qqv n);have hN:X.N.Nodup:=by rw[G.N]; exact G.nd
 have loc:∀{x:Y4},(c.sc.names.lookup x=Y .local\/c.sc.names.lookup x=Y .cell)->Loc X.env.scope x:=λ{x} h=>by rw[G.sc]; exact h
 cases h with
 |@set i e x p pos pos' hi hl T hs=>exact(qh5 hN (qjv G hi) (loc hl) (A.e c X G e p T) (hs X.env) (.inl (hf x))).imp λD σ H h=>qco (λ_ q=>q) h
 |@setC i e x p pos pos' hi hl T hc hs=>
  by_cases b0:∃a,e=.gc a
  ·obtain⟨a,rfl⟩:=b0
   cases T with
   |of _ _ T=>
    cases T with
    |nm h=>cases h
   |gc ws wq hp hg ha=>
    cases n with
    |zero=>exact λpins s σ H Dn I q=>by obtain⟨m,st,τ,d,st',_,_,w,_⟩:=q; cases w
    |succ n=>exact(qgb (qcp (λj hj=>IH j (Nat.le_succ_of_le hj)) G hf hi hl (.of ws wq ha) hg hc hs)).imp λ_ _ _ q=>q
  ·exact qcp IH G hf hi hl T (λa z=>b0 ⟨a,z⟩) hc hs
 |@dset a i e pa pi pe tpos pos ha hi T=>
  refine(ql2 (by have:=G.room.units; omega) (A.e c X G a pa ha) (A.e c X G i pi hi) (A.e c X G e pe T) (sh_sw T.sh _ _)).imp λDn σ H h=>?_;refine h.el λm st τ o st' W K g q=>qzk g λd1 s1 e1 g=>qzk g λd2 s2 e2 g=>qzk g λd3 s3 e3 g=>?_
  cases d2 with
  |loc l=>
   have g:=g;refine qzj g λkvs u g=>?_
   split at g
   ·rename_i hk;have q:=q.of g;rw[Qqs,decide_eq_true_eq]at hk;obtain⟨k,a9⟩:=qqu hk.1;refine rsI W K e1 λx m1 H1 b1 F V i1=>rsI V (K.mono b1 F) e2 λy m2 H2 b2 E R2 i2=>rsI R2 (K.mono (b1.trans b2) (F.trans E)) e3 λz m3 H3 b3 R R3 i3=>?_;obtain⟨a',xs,a7,rfl,hH,a6,a5⟩:=R3.wdict u (qza b3 R _ _ i2);have hz:=qm9 a9 i3;subst hz;have l1:=a6.length;have l2:=qqa;refine⟨a',_,rfl,DPut.k hH (by omega),?_⟩;have iv:=qza (b2.trans b3) (E.trans R) _ _ i1;exact S_nx q (b1.trans (b2.trans b3)) (F.trans (E.trans (R.trans (Tr.putD hH)))) (R3.putD a5 a7 hH (a6.put a9 iv)) (K.mono (b1.trans (b2.trans b3)) (F.trans (E.trans (R.trans (Tr.putD hH)))))
   ·exact nn g
  |_=>exact nn g
 |@expr e p pos T hs=>
  refine(ql1 (A.e c X G e p T) (hs X.env)).imp λDn σ H h=>h.el λm st τ o st' W K g q=>qzh g λp e1 e2=>?_;cases e2;exact rsI W K e1 λx m1 H1 b1 F V i1=>S_nx q b1 F V (K.mono b1 F)
 |@ret e p pos T=>
  refine(ps_ret (A.e c X G e p T)).imp λDn σ H h=>h.el λm st τ o st' W K g q=>qzh g λp e1 e2=>?_;cases e2;exact rsI W K e1 λx m1 H1 b1 F V i1=>q m1 H1 b1 F V x i1
 |@ite q a b pq pa pb pos hq ha hb=>
  refine(ps_if (A.t c X G q pq hq) (A.s c X G hf a pa ha) (A.s c X G hf b pb hb)).imp λDn σ H h=>h.el λm st τ o st' W K g r=>qzj g λp e1 g=>rsI W K e1 λm1 H1 b1 F V=>?_
  cases hp:p.1 with
  |true=>
   rw[hp,Z8 rfl]at g;rw[Z8 rfl];exact rsI V (K.mono b1 F) g (r.mono b1 F)
  |false=>
   rw[hp,Z7 Qqu]at g;rw[Z7 Qqu];exact rsI V (K.mono b1 F) g (r.mono b1 F)
 |@forr t it body tg b9 pb pos ht hi hs hb=>
   refine(qh6 (by rw[G.xe]; exact PassesOwn.never) G.calm (qyb A G hi) (qqm G ht λi _ x _=>.inl (hf x)) (A.s c X G hf body pb hb) (hs X.env)).imp λDn σ H h=>?_
   refine h.el λm st τ o st' W K g r=>qzj g λp e1 g=>rsI W K e1 λm1 H1 Jq b1 F V hJ=>⟨λj k U H'=>∃m2 Q P,Sub m1 m2/\Tr H1 H'/\Rel X.K m2 Q H'/\SlotOk X.K m2 H' P U/\M.loop p.1 (λτ st d=>(M.setT t d τ).bind λN=>(?v).ex N st body) k j P Q=Y (o,st'),
    ⟨_,m1,p.2,τ,Sub.refl _,Tr.refl _,V,K.mono b1 F,g⟩,?_⟩
   rintro j k U H' ⟨m2,Q,P,b2,E,R2,S2,u⟩
   cases k with
   |zero=>exact nn u
   |succ k=>
    have u:=u;refine qzj u λoo e5 u=>?_
    cases oo with
    |none=>
     have r:=r.of u;exact .inl ⟨(hJ.mono b2 E).done R2 e5,S_nx r (b1.trans b2) (F.trans E) R2 S2⟩
    |some d=>
     obtain⟨b7,hy⟩:=(hJ.mono b2 E).next R2 e5;refine qzj u λz e6 u=>qzj e6 λa1 e7 e6=>.inr ⟨b7,λa2 H3=>∃m3 a4 a1,Sub m1 m3/\Tr H1 H3/\Rel X.K m3 a4 H3/\SlotOk X.K m3 H3 a1 a2/\M.loop p.1 (λτ st d=>(M.setT t d τ).bind λN=>(?v).ex N st body) k (j+1) a1 a4=Y (o,st'),λa2 H3 w3=>⟨k,Qzc k,w3⟩,λx H2 b6=>?_⟩;obtain⟨sm,ix⟩:=hy x H2 b6;have E:=E.trans (Tr.of_same sm);have R2:=R2.same sm;have S2:=S2.mono (Sub.refl _) (Tr.of_same sm);refine qhk ix S2 e7 λa2 S3=>rsI R2 S3 e6 λm3 H3 b3 R R3=>?_
     cases hz:z.1 with
     |nx a0=>
      rw[hz]at u;exact λa3 S4=>⟨m3,z.2,a0,b2.trans b3,E.trans R,R3,S4,u⟩
     |rt v=>
      rw[hz]at u;have r:=r.of u;exact λw iw=>r m3 H3 (b1.trans (b2.trans b3)) (F.trans (E.trans R)) R3 w iw
 |bad=>exact λpins s σ H Dn I q=>by obtain⟨m,st,τ,d,st',_,_,z,_⟩:=q; cases z
 |@whil q body pq pb pos hq hb=>
  refine(qga (by rw[G.xe]; exact PassesOwn.never) (A.t c X G q pq hq) (A.s c X G hf body pb hb)).imp λDn σ H h=>h.el λm st τ o st' W K g r=>?_
  refine⟨λk U H'=>∃m2 Q P,Sub m m2/\Tr H H'/\Rel X.K m2 Q H'/\SlotOk X.K m2 H' P U/\M.loopW (λτ st=>(?v).tst τ st q) (λτ st=>(?v).ex τ st body) k P Q=Y (o,st'),
   ⟨_,m,st,τ,Sub.refl _,Tr.refl _,W,K,g⟩,?_⟩
  rintro k U H' ⟨m2,Q,P,b2,E,R2,S2,u⟩
  cases k with
  |zero=>exact nn u
  |succ k=>
   have u:=u;refine qzj u λb e5 u=>rsI R2 S2 e5 λm3 H3 b3 R R3=>?_
   cases hb:b.1 with
   |false=>
    rw[hb,Z7 Qqu]at u;have r:=r.of u;rw[Z7 Qqu];exact S_nx r (b2.trans b3) (E.trans R) R3 (S2.mono b3 R)
   |true=>
    rw[hb,Z8 rfl]at u;rw[Z8 rfl];refine qzj u λz e6 u=>⟨λa3 H4=>∃m4 a8 a0,Sub m m4/\Tr H H4/\Rel X.K m4 a8 H4/\SlotOk X.K m4 H4 a0 a3/\M.loopW (λτ st=>(?v).tst τ st q) (λτ st=>(?v).ex τ st body) k a0 a8=Y (o,st'),λa3 H4 w4=>⟨k,Qzc k,w4⟩,rsI R3 (S2.mono b3 R) e6 λm4 H4 b4 t4 R4=>?_⟩
    cases hz:z.1 with
    |nx a0=>
     rw[hz]at u;exact λa3 S4=>⟨m4,z.2,a0,b2.trans (b3.trans b4),E.trans (R.trans t4),R4,S4,u⟩
    |rt v=>
     rw[hz]at u;have r:=r.of u;exact λw iw=>r m4 H4 (b2.trans (b3.trans b4)) (E.trans (R.trans t4)) R4 w iw
 |@setT is e es k p pos tpos ht T hw=>
  refine(qh7 (A.e c X G e p T) (qqm (t:=.tup is) G (.tup ht) λi _ x _=>.inl (hf x)) (sh_swT (es:=es) (k:=k) (tp:=tpos) T.sh pos.line X.env) (hw X.env) rfl).imp λDn σ H h=>h.el λm st τ o st' W K g q=>qzk g λd1 s1 e1 g=>qzh g λN e2 e3=>?_;cases e3;exact rsI W K e1 λx m1 H1 b1 F V i1=>qhk i1 (K.mono b1 F) e2 λU S1=>S_nx q b1 F V S1
 |@six a i e pa pi pe tpos pos ha hi T=>
  refine(qh7 (A.e c X G e pe T) (pg_sub (A.e c X G a pa ha) (A.e c X G i pi hi) six_D (sh_six hi.sh _)) (sh_sw (a:=pa) (i:=pi) (tp:=tpos) T.sh pos.line X.env) rfl rfl).imp λDn σ H h=>h.el λm st τ o st' W K g q=>qzk g λd1 s1 e1 g=>qzk g λd2 s2 e2 g=>qzk g λd3 s3 e3 g=>qzh g λs4 u e5=>?_;cases e5;exact rsI W K e1 λx m1 H1 b1 F V i1=>rsI V (K.mono b1 F) e2 λy m2 H2 b2 E R2 i2=>rsI R2 (K.mono (b1.trans b2) (F.trans E)) e3 λz m3 H3 b3 R R3 i3=>
   ⟨m3,s3,d2,d3,d1,_,R3,qza b3 R _ _ i2,i3,qza (b2.trans b3) (E.trans R) _ _ i1,u,λm4 H4 b4 t4 R4=>S_nx q (b1.trans (b2.trans (b3.trans b4))) (F.trans (E.trans (R.trans t4))) R4 (K.mono (b1.trans (b2.trans (b3.trans b4))) (F.trans (E.trans (R.trans t4))))⟩
 |@setA C a f e pa pe tpos pos ha T hc=>
  obtain⟨h1,h2⟩:=G.mo.ats C f hc;refine(ps_fld (A.e c X G a pa ha) (A.e c X G e pe T) (sh_swA T.sh _ _)).imp λDn σ H h=>h.el λm st τ o st' W K g q=>qzk g λd1 s1 e1 g=>qzk g λd2 s2 e2 g=>qzj g λfs e3 g=>rsI W K e1 λx m1 H1 b1 F V i1=>rsI V (K.mono b1 F) e2 λy m2 H2 b2 E R2 i2=>?_;obtain⟨l,p,dx,ys,rfl,hl,rfl,hH,b5,a5⟩:=R2.inst e3 i2;dsimp only at g
  split at g
  ·rename_i c0;have q:=q.of g;have l1:=b5.length;exact⟨p,C,dx,ys,rfl,hH,h1,h2,by omega,S_nx q (b1.trans b2) (F.trans (E.trans (Tr.putI hH))) (R2.putI a5 hl hH (b5.put (qza b2 E _ _ i1))) (K.mono (b1.trans b2) (F.trans (E.trans (Tr.putI hH))))⟩
  ·exact nn g
 |@ford t a body tg pa pb pos ht ha hb=>
  refine(ql0 (by rw[G.xe]; exact PassesOwn.never) G.calm (A.e c X G a pa ha) (qqm G ht λi _ x _=>.inl (hf x)) (A.s c X G hf body pb hb) (qlg ha.sh X.env)).imp λDn σ H h=>?_;refine h.el λm st τ o st' W K g r=>qzk g λd1 s1 e1 g=>?_
  cases d1 with
  |loc l=>
   have g:=g;refine qzj g λkvs e2 g=>qzj g λw e3 g=>?_
   split at g
   case h_2=>exact nn g
   case h_1 b8 hw=>
   have r:=r.of g;refine rsI W K e1 λx m1 H1 b1 F V i1=>?_;obtain⟨a',xs,a7,rfl,hH,a6,a5⟩:=V.wdict e2 i1;refine⟨a',xs,rfl,hH,λob nf=>?_⟩;have R2:=V.ice (o:=ob) a5 a7 hH a6;have ti:=Tr.ice (o:=ob) hH;have IK:=a6.keys;have lk:=IK.length;rw[Qqz]at lk;have fz:∀{H':Hp},Tr (upd H1 a' (.frz ob (.dK xs))) H'->H' a'=Y (.frz ob (.dK xs)):=λE=>E.frz a' ob _ qzy
   refine⟨λj k U H'=>∃m2 Q P,Sub m1 m2/\Tr (upd H1 a' (.frz ob (.dK xs))) H'/\Rel X.K m2 Q H'/\SlotOk X.K m2 H' P U/\M.loop (.tup (M.keysOf kvs)) (λτ st d=>(M.setT t d τ).bind λN=>(?v).ex N st body) k j P Q=Y w,
    ⟨_,m1,_,τ,Sub.refl _,Tr.refl _,R2,K.mono b1 (F.trans ti),e3⟩,?_⟩
   rintro j k U H' ⟨m2,Q,P,b2,E,R3,S2,u⟩
   cases k with
   |zero=>exact nn u
   |succ k=>
    have u:(Y (M.keysOf kvs)[j]?:Y2 (Y2 D)).bind (λo=>match o with
     |none=>Y (Out.nx P,Q)
     |some d=>((M.setT t d P).bind λN=>(?v).ex N Q body).bind λz=>match z.1 with
      |.nx N=>M.loop (.tup (M.keysOf kvs)) (λτ st d=>(M.setT t d τ).bind λN=>(?v).ex N st body) k (j+1) N z.2
      |.rt v=>Y (.rt v,z.2))=Y w:=u
    rw[oBs]at u
    cases e5:(M.keysOf kvs)[j]? with
    |none=>
     rw[e5]at u;cases u;refine .inl ⟨⟨fz E,by rw[<- lk]; exact Qzn.mp e5⟩,a',ob,xs,nf,fz E,?_⟩;exact S_nx r (b1.trans b2) (F.trans (Tr.thaw hH E)) (R3.thaw hw (b2 l a' a7) (fz E)) (S2.monoW (Sub.refl _) (Tw.thaw (fz E)))
    |some d=>
     rw[e5]at u;have hj:=(Qqk.mp e5).1;refine qzj u λz e6 u=>qzj e6 λa1 e7 e6=>.inr ⟨⟨fz E,by omega⟩,λa2 H3=>∃m3 a4 a1,Sub m1 m3/\Tr (upd H1 a' (.frz ob (.dK xs))) H3/\Rel X.K m3 a4 H3/\SlotOk X.K m3 H3 a1 a2/\M.loop (.tup (M.keysOf kvs)) (λτ st d=>(M.setT t d τ).bind λN=>(?v).ex N st body) k (j+1) a1 a4=Y w,λa2 H3 w3=>⟨k,Qzc k,w3⟩,?_⟩;rintro x H2 ⟨rfl,p,hp,rfl⟩;obtain⟨x',ex,ix⟩:=IK.get e5;rw[Qqw,hp]at ex;cases ex;refine qhk (qza b2 (ti.trans E) _ _ ix) S2 e7 λa2 S3=>rsI R3 S3 e6 λm3 H3 b3 R R4=>?_
     cases hz:z.1 with
     |nx a0=>
      rw[hz]at u;exact λa3 S4=>⟨m3,z.2,a0,b2.trans b3,E.trans R,R4,S4,u⟩
     |rt v=>
      rw[hz]at u;cases u;exact λv' iv=>⟨a',ob,xs,nf,fz (E.trans R),r m3 _ (b1.trans (b2.trans b3)) (F.trans (Tr.thaw hH (E.trans R))) (R4.thaw hw ((b2.trans b3) l a' a7) (fz (E.trans R))) v' (qqc (Sub.refl _) (Tw.thaw (fz (E.trans R))) _ _ iv)⟩
  |_=>exact nn g
theorem qla(f:∀j,j<=n->AllOk fns dl j)(G:Good fns dl c X)(hf:∀x,X.fn x=O):∀{i}{ps},CkSs c i ps->PSs X ps (tS X.K λτ st=>M.exs (M.stepEx ?v) i τ st)
 |_,_,.nil=>pss_nil.imp λr σ H h=>by
  refine h.el λm st τ o st' e b a q=>?_;have q:=q.of a;exact q m H ?H (Tr.refl H) e _ b
 |_,_,.doc t=>(qaz ps_doc (qla f G hf t)).imp λr σ H h=>h
 |_,_,.cons h t=>(qaz (s1_ok f G hf h) (qla f G hf t)).imp λr σ H v=>by
  refine v.el λm st τ o st' e b a q=>qzj a λp w a=>rsI e b w λm1 H1 b1 g l=>?_
  cases k:p.1 with
  |nx s=>
   rw[k]at a;exact λu y=>rsI l y a (q.mono b1 g)
  |rt d=>
   rw[k]at a;have q:=q.of a;exact q m1 H1 b1 g l
end
def allOk(fns)(dl):∀n j,j<=n->AllOk fns dl j:=by
 intro n
 induction n with
 |zero=>intro j h; rw[Nat.le_zero.mp h]; exact qb1 fns dl
 |succ n a=>
  intro j h;rcases Qxq j (n+1) with z|z
  ·exact a j (by omega)
  ·have e:j=n+1:=by omega
   subst e;have A:=a n (Qqv n);exact⟨λc X G _ e p h=>e_ok A G h,λc X G _ e p h=>t_ok A G h,λc X G _ e d ps pos h=>w_ok A G h,λc X G hf b ps h=>qla a G hf h⟩
structure FText (K:Qqq) (mg:Y4->Y2 Y8) (fns:L Fn) (names:L Y4) (glo:Glo) (f:Y0) (x:Y4):Prop where
 ex:∃(nm:Y4) (fa:Y7) (fd:Qp) (st:Stmt) (N ps:L Y4) (F:Fn),fns[f]?=Y F/\Fun K nm x st fa fd/\Lc K mg glo f x fa/\Binds K fd ps []/\FnScope N ps (qzd st)/\CkSs ⟨N,qzd st,names,glo⟩ F.body (qz0 st)/\F.np=ps.length/\F.nl=N.length
def qic{K:Qqq}{st:Stmt}(ih:FTab P w K mg base glo fns names n)(Mg:Mo K mg glo w.params)(hF:fns[f]?=Y F)(l:Fun K nm x st I fd)(b:FnScope N ps (qzd st))(C:CkSs ⟨N,qzd st,names,glo⟩ F.body (qz0 st))(t:F.np=ps.length)(u:F.nl=N.length):FnOk P w K mg base CX0 (2*(n+1)) I fd ps (spN K fns (n+1) f):=by
 have g:∀{ds:L D}{a st':Y3}{d:D},M.callD fns (n+1) f ds a=Y (d,st')->ds.length=F.np/\((M.Lv fns n).ex (ds.map Y++List.replicate (F.nl - ds.length) B) a F.body).bind (λp=>match p.1 with
   |.rt d=>Y (d,p.2)
   |.nx _=>Y (D.non,p.2))=Y (d,st'):=λ{ds a st' d} e=>by
  have e:M.stepCall fns (M.Lv fns n) f ds a=Y (d,st'):=e;unfold M.stepCall at e;rw[hF]at e;dsimp only at e
  split at e
  ·rename_i V;exact⟨V,e⟩
  ·exact nn e
 refine l.ok b (λvs H Q E h=>?_) (λS A outer s H vs Q E hr h=>?_)
 ·obtain⟨m,a,ds,d,st',_,j,e,_⟩:=h;rw[<- j.length,(g e).1,t]
 ·obtain⟨m,a,ds,d,st',R0,j,e,q⟩:=h;obtain⟨V,e⟩:=g e;refine qzj e λp R o=>?_;obtain⟨k,R⟩:=M.lim1_is R;have G:Good fns n ⟨N,qzd st,names,glo⟩ (cxOf CX0 P w K mg base N x (qzd st) I S A outer s H E).nox:=⟨hr,rfl,rfl,rfl,b.nd,b.kind,ih,Mg,rfl⟩
  refine⟨_,(allOk fns n k k (Qqv k)).s _ _ G (λ_=>rfl) F.body (qz0 st) C,⟨m,a,ds.map Y++List.replicate (F.nl - ds.length) B,p.1,p.2,R0,⟨?_,λi d0 hi=>?_⟩,R,λm1 H1 b1 T W=>?_⟩⟩
  ·unfold L2.start;rw[Qqn,Qqn,Qqz,Qqz,Qjc,Qjc,u,j.length]
  ·unfold L2.start
   by_cases c:i<ds.length
   ·rw[Qq2 (by simpa using c),Qqw]at hi;have e3:ds[i]?=Y d0:=by
     cases z:ds[i]? with
     |none=>rw[z]at hi; cases hi
     |some y=>rw[z]at hi; cases hi; rfl
    obtain⟨v,e4,r⟩:=j.get e3;refine⟨v,?_,r⟩;rw[Qq2 (by rw[Qqz,<- j.length]; exact c),Qqw,e4]
    rfl
   ·rw[Qzg (by simpa using c),Qj9]at hi
    split at hi<;>cases hi
  ·cases U:p.1 with
   |rt d1=>
    rw[U]at o;cases o;exact λv r=>q v m1 H1 b1 T W r
   |nx X=>
    rw[U]at o;cases o;exact λa0 S1=>q _ m1 H1 b1 T W qvw
def tab_ok{K:Qqq}(T:∀f x,names[f]?=Y x->FText K mg fns names glo f x)(t:Mo K mg glo w.params):
  ∀n,FTab P w K mg base glo fns names n:=by
 intro n
 induction n with
 |zero=>
  intro f x j;obtain⟨nm,l,fd,st,N,ps,F,o,a,k,hb,b,i,c,g⟩:=(T f x j).ex;refine⟨l,fd,ps,k,?_,a.kp,hb⟩;refine⟨λvs H Q E h=>?_,λA outer s H p u vs Q E hr v r hv h=>?_⟩
  ·obtain⟨m,st,ds,d,st',_,_,e,_⟩:=h; cases e
  ·obtain⟨m,st,ds,d,st',_,_,e,_⟩:=h; cases e
 |succ n q=>
  intro f x j;obtain⟨nm,l,fd,st,N,ps,F,o,a,k,hb,b,i,c,g⟩:=(T f x j).ex;exact⟨l,fd,ps,k,qic q t o a b i c g,a.kp,hb⟩
noncomputable def qlb(K:Qqq):Sp:=λvs H Q _=>∃(a:Y7) (ns:L J),vs=[.ref a]/\SqF K H a (ns.map V.int)/\ns.length<=63/\∀H',Q (.bl O) H'
def law_sp{K:Qqq}(h:∀ns:L J,ns.length<=63->∃st',M.callD fns n f [.lst (ns.map D.int)] []=Y (.bl O,st'))(vs)(H)(Q)(E)(q:qlb K vs H Q E):spN K fns n f vs H Q E:=by
 obtain⟨a,ns,rfl,j,g,k⟩:=q;obtain⟨st',e⟩:=h ns g;refine⟨[],[],[.lst (ns.map D.int)],.bl O,st',⟨rfl,λl r b c t d o m s w p=>?_,λl c b d o=>?_⟩,qzm (qbd j (qxj ns)) qz8,e,λv m' H' _ _ _ i=>?_⟩
 ·simp at m
 ·simp at d
 ·rw[i.bl]; exact k H'
def qmm{K:Qqq}(b:Only H)(h:SqL K H a xs):SqF K H a xs:=by
 rcases h with (h|⟨o,h⟩)|h
 ·rcases b a with z|⟨ob,ys,z⟩
  ·rw[h]at z; cases z
  ·rw[h]at z; cases z
 ·exact .inl ⟨o,h⟩
 ·exact .inr h
def walk_law{l:PySem.W.OpenLaw}{K:Qr->Qqq}(e:l.most=Y 63)(b:d.params.defaults=[])(hr:Room k Z1)(i:∀(w:Qj) (h:Heap),YP w h->(K w.params).In h)(F:∀(w:Qj) (mg:Y4->Y2 Y8) (c:Y7) (h:Heap),(K w.params).In h->h.Ns mainGlobals mg->mg d.name=Y (.ref c)->
   ∃fd:Qp,(∀(s:Qz) (u:Y8),BindsTo s fd ⟨[u],[]⟩ [(x,u)])/\∀base:Heap,(K w.params).In base->base.Ns mainGlobals mg->FnOk l.prog w (K w.params) mg base CX0 k c fd [x] (qlb (K w.params))):
  PySem.W.WalkO q loose XP YP l.row.toRowW d [] (λf vs=>PySem.call f vs):=
 L2.walk_of e (by decide) b hr i F (λ_ _ a ns g m j=>⟨a,ns,rfl,qmm m j,g,λ_=>rfl⟩) λ_ _ _ _ _ z=>z
def qf3(elt)(gs)(sc)(q)(t)(p)(line)(env):swapsWith (.ListComp elt gs sc q) (Y (.Name t p)) line env=pure Y5\/swapsWith (.ListComp elt gs sc q) (Y (.Name t p)) line env=pure true:=by
 have e:swapsWith (.ListComp elt gs sc q) (Y (.Name t p)) line env=pure (env.blockKind==.function&&env.kindOf t==Y .local&&p.line==q.line && !(sc.names.any λ(n,k)=>n==t&&(k==.local||k==.cell))):=rfl;rw[e]
 cases (env.blockKind==.function&&env.kindOf t==Y .local&&p.line==q.line && !(sc.names.any λ(n,k)=>n==t&&(k==.local||k==.cell))) with
 |false=>exact .inl rfl
 |true=>exact .inr rfl
inductive ClK (K:Qqq) (cn:Y4) (C:Y7):Prop
 |mk (a:Qx9 K mainGlobals cn=Y (Y (.ref C))) (pg:PySem.W.plainGet K C Str.empty=O) (hd:PySem.W.hasDictIn K C=O) (po:PySem.W.plainOver K C=O) (sa:PySem.W.findIn K (.ref C) "__setattr__" = Y (Y (.builtin "object.__setattr__"))) (mk:PySem.W.makesIn K C=O) (kp:Qzt K (.ref C)=O):ClK K cn C
def ClK.cls{K:Qqq}(h:ClK K b C):Cls K C:=by
 cases h with
 |mk a pg hd po sa mk kp=>exact⟨pg,hd,po,sa⟩
def ClK.mo{K:Qqq}(q:ClK K b C)(X:K.In h)(G:h.Ns mainGlobals mg):mg b=Y (.ref C)/\Cls K C/\PySem.W.makesIn K C=O/\Qzt K (.ref C)=true:=by
 have c:=q.cls
 cases q with
 |mk a pg hd po sa mk kp=>exact⟨Qjv X G a,c,mk,kp⟩
noncomputable def sq(a b:Y4):Bool:=a.cps.toList==b.cps.toList
def qqy(h:sq a b=O):a=b:=by
 obtain⟨⟨a⟩⟩:=a;obtain⟨⟨b⟩⟩:=b;have:a=b:=by simpa[sq] using h
 rw[this]
def qw8(a):sq a a=true:=by simp[sq]
def qa7(h:(!sq a b)=O):(a==b)=false:=by
 cases e:a==b with
 |false=>rfl
 |true=>
  rw[beq_iff_eq]at e;rw[e,qw8]at h;cases h
noncomputable def gd{α:Type}(b:Ya)(x:Y2 α):Y2 α:=bif b then x else B
def gd_iff:gd b x=Y e↔b=O/\x=Y e:=by cases b<;>simp[gd]
noncomputable def lk:L (Y4×Ql)->Y4->Y2 Ql
 |[],_=>B
 |(y,k)::r,x=>bif sq x y then Y k else lk r x
theorem qwj:∀{l}{x},lk l x=l.lookup x
 |[],_=>rfl
 |(y,k)::r,x=>by
  unfold lk;rw[Qzy]
  cases e:sq x y with
  |true=>rw[qqy e,beq_self_eq_true]; rfl
  |false=>
   have:(x==y)=false:=by
    cases a:x==y with
    |false=>rfl
    |true=>rw[beq_iff_eq]at a; rw[a,qw8]at e; cases e
   rw[this];exact qwj
noncomputable def ixS(x:Y4):L Y4->Y2 Y0
 |[]=>B
 |y::r=>bif sq y x then Y 0 else(ixS x r).map (· + 1)
theorem ixS_eq:∀{N}{i},ixS x N=Y i->N[i]?=Y x
 |[],_,h=>nomatch h
 |y::r,i,h=>by
  unfold ixS at h
  cases e:sq y x with
  |true=>rw[e]at h; cases h; rw[qqy e]; rfl
  |false=>
   rw[e]at h;obtain⟨j,hj,rfl⟩:=Qqd.mp (h);exact(ixS_eq hj :)
noncomputable def kG:Y2 Ql->Ya
 |some .globalImplicit=>O
 |_=>Y5
noncomputable def kL:Y2 Ql->Ya
 |some .local=>O
 |some .cell=>O
 |_=>Y5
noncomputable def kV:Y2 Ql->Ya
 |some .local=>O
 |some .cell=>O
 |some .free=>O
 |_=>Y5
def kG_eq(h:kG o=O):o=Y .globalImplicit:=by
 unfold kG at h; split at h
 ·rfl
 ·cases h
def kL_eq(h:kL o=O):o=Y .local\/o=Y .cell:=by
 unfold kL at h; split at h
 ·exact .inl rfl
 ·exact .inr rfl
 ·cases h
def qnz(h:kV o=O):o=Y .local\/o=Y .cell\/o=Y .free:=by
 unfold kV at h; split at h
 ·exact .inl rfl
 ·exact .inr (.inl rfl)
 ·exact .inr (.inr rfl)
 ·cases h
noncomputable def isG(c:Ctx)(x:Y4):Bool:=kG (lk c.sc.names x)
noncomputable def isL(c:Ctx)(x:Y4):Bool:=kL (lk c.sc.names x)
def qqx(h:isG c x=O):c.sc.names.lookup x=Y .globalImplicit:=qwj▸kG_eq h
def qah(h:isL c x=O):c.sc.names.lookup x=Y .local\/c.sc.names.lookup x=Y .cell:=qwj▸kL_eq h
noncomputable def noD(x:Y4):Bool:=!sq x ("__debug__" : Y4)
noncomputable def swOk:Expr->Ya
 |.ListComp ..=>Y5
 |.SetComp ..=>Y5
 |.DictComp ..=>Y5
 |_=>O
def sw_ok(h:swOk p=O)(t)(l)(env):swapsWith p t l env=pure false:=by
 cases p<;>first|rfl|cases h
noncomputable def qji{α:Type}(k:Y4->Pos->Y2 α):Expr->Y2 α
 |.Name x q=>k x q
 |_=>B
noncomputable def qgs{α:Type}(k:L Expr->Y2 α):Expr->Y2 α
 |.Tuple es _ _=>k es
 |_=>B
noncomputable def onSl{α:Type}(k:Y2 Expr->Y2 Expr->Y2 α):Expr->Y2 α
 |.Slice lo hi s _=>gd s.isNone (k lo hi)
 |_=>B
noncomputable def qda{α:Type}(k:Y4->Pos->L Expr->Pos->Y2 α):Expr->Y2 α
 |.Call g ps ks pos=>gd ks.isEmpty (qji (λx q=>k x q ps pos) g)
 |_=>B
noncomputable def onAt{α:Type}(k:Expr->Y4->Pos->Y2 α):Expr->Y2 α
 |.Attribute a m q=>k a m q
 |_=>B
noncomputable def onC{α β:Type}(k:β->L β->Y2 α):L β->Y2 α
 |[]=>B
 |p::r=>k p r
noncomputable def on1{α β:Type}(k:β->Y2 α):L β->Y2 α:=onC λa r=>gd r.isEmpty (k a)
noncomputable def on2{α β:Type}(k:β->β->Y2 α):L β->Y2 α:=onC λa=>on1 (k a)
abbrev TrE:=Ctx->Expr->Y2 E
noncomputable def qcx(c:Ctx)(x:Y4):Y2 E:=
 bif isG c x then(c.glo.cs.find? λq=>sq q.1 x).bind λq=>gd (noD x) (Y (.glo q.1 q.2))
 else(ixS x c.N).bind λi=>gd (kV (lk c.sc.names x)&&noD x && !sq x ("__classdict__" : Y4)) (Y (.var i))
noncomputable def trL(f:Expr->Y2 E):L Expr->Y2 (L E)
 |[]=>Y []
 |p::r=>(f p).bind λe=>(trL f r).map (e::·)
noncomputable def trP(f:Expr->Y2 E):L (Y2 Expr)->L Expr->Y2 (L E)
 |[],vs=>gd vs.isEmpty (Y [])
 |k::ks,vs=>k.bind λk=>onC (λv vs=>(f k).bind λa=>(f v).bind λb=>(trP f ks vs).map λr=>a::b::r) vs
noncomputable def trO(f:Expr->Y2 E):Y2 Expr->Y2 (Y2 E)
 |none=>Y B
 |some p=>(f p).map Y
noncomputable def qng(c:Ctx):Expr->Y2 (Y4×L Y4×L D):=
 qji λx _=>gd (isG c x&&noD x) (c.glo.ds.find? λq=>sq q.1 x)
noncomputable def inNeg:CmpOp->Y2 Ya
 |.In=>Y Y5
 |.NotIn=>Y O
 |_=>B
noncomputable def trCmp(o:Y0)(f:Expr->Y2 E)(c:Ctx)(a:Expr)(op:CmpOp)(b:Expr):Y2 E:=
 ((inNeg op).bind λneg=>((qng c b).bind λq=>(f a).map λx=>.gin neg q.1 q.2.1 x).or
  (gd (o==1) ((f a).bind λx=>(f b).map λy=>.din neg x y))).or
 ((f a).bind λx=>(f b).map λy=>.cmp op x y)
noncomputable def trSub(o:Y0)(f:Expr->Y2 E)(c:Ctx)(a b:Expr):Y2 E:=
 (onSl (λlo hi=>(f a).bind λx=>(trO f lo).bind λl=>(trO f hi).map λh=>.sli x l h) b).or
 (((qng c a).bind λq=>(f b).map λy=>.gidx q.1 q.2.1 q.2.2 y).or
 ((f a).bind λx=>(f b).map λy=>bif o==1 then .didx x y else .idx x y))
noncomputable def bOf(x:Y4):Y2 M.Bq:=[M.Bq.len,.min,.tuple,.list,.all,.sorted,.any,.int].find? λb=>sq (Str.ofString (qn1 b)) x
noncomputable def tyOf(x:Y4):Y2 M.Ty:=[M.Ty.bl,.int,.str,.tup,.lst].find? λt=>sq (Str.ofString t.name) x
noncomputable def mOf(x:Y4):Y2 M.Mt:=[M.Mt.append,.extend,.index,.insert].find? λk=>sq (mName k) x
noncomputable def trIsi(f:Expr->Y2 E)(c:Ctx)(a t:Expr):Y2 E:=
 qji (λx _=>(tyOf x).bind λt=>gd (isG c x) ((f a).map λe=>.isi e [t] Y5)) t
noncomputable def trFun(f:Expr->Y2 E)(c:Ctx)(x:Y4)(p:Expr)(r:L Expr):Y2 E:=
 ((ixS x c.fns).bind λk=>gd (qgt x) ((trL f (p::r)).map (.call k))).or
 (((c.glo.cl.find? λq=>sq q.1 x).bind λq=>(c.glo.ms.find? λz=>z.2.1==q.2&&sq z.2.2 ("__init__" : Y4)).bind λz=>gd (c.fns[z.1]?).isSome ((trL f (p::r)).map (.new q.2 z.1))).or
 ((gd (sq x ("isinstance" : Y4)) (on1 (λt=>trIsi f c p t) r)).or
 ((bOf x).bind λb=>gd (bOk b) ((trL f (p::r)).map (.bcall b)))))
noncomputable def qik(c:Ctx)(x:Y4):L Expr->Y2 Expr:=
 on1 (qda λy _ as _=>on1 (λa=>gd (sq x ("len" : Y4)&&sq y ("set" : Y4)&&isG c y) (Y a)) as)
noncomputable def qck(o:Y0)(f:Expr->Y2 E)(c:Ctx)(a:Expr)(m:Y4)(apos:Pos)(ps:L Expr)(pos:Pos):Y2 E:=
 gd (apos.endLine==pos.line) (bif Nat.ble 3 o then
  (c.glo.ms.find? λz=>z.2.1==o - 3&&sq z.2.2 m).bind λz=>(c.glo.cl.find? λq=>q.2==o - 3).bind λ_=>
   gd ((c.fns[z.1]?).isSome&&decide (ps.length<30)) ((f a).bind λe=>(trL f ps).map λes=>.mcall z.2.1 z.1 z.2.2 e es)
 else onC (λp r=>bif sq m ("get" : Y4) then(f a).bind λe=>(f p).bind λy=>gd r.isEmpty (Y (.dgt e y))
   else(mOf m).bind λk=>gd (decide ((p::r).length<30)) ((f a).bind λe=>(trL f (p::r)).map λes=>.meth e k es)) ps)
noncomputable def trTs(c:Ctx):L Expr->Y2 (L Y0)
 |[]=>Y []
 |p::r=>qji (λx _=>(ixS x c.N).bind λi=>gd (isL c x) ((trTs c r).map (i::·))) p
noncomputable def trT(c:Ctx)(p:Expr):Y2 T:=
 (qji (λx _=>(ixS x c.N).bind λi=>gd (isL c x) (Y (.var i))) p).or (qgs (λes=>(trTs c es).map .tup) p)
noncomputable def trR(f:Expr->Y2 E)(tg:Expr)(x:Y4)(ps:L Expr):Y2 E:=
 bif sq x ("range" : Y4) then(on1 (λa=>(f a).map .rng1) ps).or (on2 (λa b=>(f a).bind λx=>(f b).map λy=>.rng2 x y) ps)
 else bif sq x ("zip" : Y4) then qgs (λ_=>on2 (λa b=>(f a).bind λx=>(f b).map λy=>.zip x y) ps) tg
 else bif sq x ("enumerate" : Y4) then qgs (λ_=>on1 (λa=>(f a).map .enu) ps) tg
 else gd (sq x ("reversed" : Y4)) (on1 (λa=>(f a).map .rev) ps)
noncomputable def trI(f:Expr->Y2 E)(c:Ctx)(tg e:Expr):Y2 E:=
 (qda (λx _ ps _=>gd (isG c x) (trR f tg x ps)) e).or (f e)
noncomputable def ndB:L Y4->Ya
 |[]=>O
 |x::r=>!(r.any (sq x))&&ndB r
noncomputable def inN(sc:Scope):L Y4:=(sc.names.filter λy=>y.2==.local && !sq y.1 (".0" : Y4)).map (·.1)++(sc.names.filter λy=>y.2==.free).map (·.1)
noncomputable def inS(sc:Scope)(N:L Y4):L (Y2 Y0):=(inN sc).map λx=>bif kV (lk sc.names x) && !kL (lk sc.names x) then ixS x N else B
noncomputable def compOk(c:Ctx)(sc:Scope):Bool:=sc.kind==.function&&sc.names.all (λy=>y.2 != .cell)&&sc.names.all (λy=>y.2 != .free||(kV (lk c.sc.names y.1)&&lk c.sc.names y.1 != Y .local))&&sc.names.all (λy=>y.2 != .local||lk sc.names y.1==Y .local)&&ndB (inN sc)
noncomputable def qys(R:TrE)(c:Ctx)(elt tg iter:Expr)(ifs:Y2 Expr)(sc:Scope):Y2 E:=
 gd (compOk c sc&&shOk iter) ((trI (R c) c tg iter).bind λi=>(trT (c.inn (inN sc) sc) tg).bind λt=>gd (tlOk (inN sc) (qbj sc c.sc) t)
  ((trO (R (c.inn (inN sc) sc)) ifs).bind λk=>(R (c.inn (inN sc) sc) elt).map λe=>.comp t i k e (inS sc c.N)))
noncomputable def trC:Const->Y2 E
 |.int i=>Y (.lit (.int i))
 |.bool i=>Y (.lit (.bl i))
 |.none=>Y (.lit .non)
 |.str i=>Y (.lit (.str i))
 |_=>B
noncomputable def trU(f:Expr->Y2 E)(a:Expr):UnaryOp->Y2 E
 |.USub=>(f a).map .neg
 |.Not=>(f a).map .not
 |_=>B
noncomputable def bo:BoolOp->E->E->E
 |.And=>.and
 |.Or=>.or
noncomputable def trBo(f:Expr->Y2 E)(op:BoolOp)(pos:Pos):L Expr->Y2 E:=
 onC λa r=>(f a).bind λx=>onC (λb r=>(f (bif r.isEmpty then b else .BoolOp op (b::r) pos)).map λy=>bo op x y) r
noncomputable def trCp(o:Y0)(f:Expr->Y2 E)(c:Ctx)(a:Expr)(os:L CmpOp)(bs:L Expr):Y2 E:=
 (on1 (λop=>on1 (λb=>trCmp o f c a op b) bs) os).or
 (on2 (λop op'=>on2 (λb d=>(f a).bind λx=>(f b).bind λy=>(f d).map λz=>.cmp2 op op' x y z) bs) os)
noncomputable def trCl(o:Y0)(f:Expr->Y2 E)(c:Ctx)(pos:Pos)(g:Expr)(ps:L Expr)(ks:L Zs):Y2 E:=
 gd ks.isEmpty ((qji (λx _=>onC (λp r=>gd (isG c x&&noD x) (((qik c x (p::r)).bind λa=>(f a).map .lenset).or (trFun f c x p r))) ps) g).or
 (onAt (λa m apos=>qck o f c a m apos ps pos) g))
noncomputable def trDi(o:Y0)(f:Expr->Y2 E)(ks:L (Y2 Expr))(vs:L Expr):Y2 E:=
 gd (decide (ks.length<=15)) ((trP f ks vs).map .dic)
noncomputable def trLc(o:Y0)(R:TrE)(c:Ctx)(elt:Expr)(sc:Scope):L Comprehension->Y2 E:=
 on1 λg=>gd (g.is_async==0) ((gd g.ifs.isEmpty (qys R c elt g.target g.iter B sc)).or (on1 (λq=>qys R c elt g.target g.iter (Y q) sc) g.ifs))
noncomputable def trX(o:Y0)(R:TrE)(c:Ctx):Expr->Y2 E
 |.Name x _=>qcx c x
 |.Constant k _ _=>trC k
 |.BinOp a op b _=>(R c a).bind λx=>(R c b).map λy=>.bin op x y
 |.UnaryOp op a _=>trU (R c) a op
 |.BoolOp op ps pos=>trBo (R c) op pos ps
 |.Compare a os bs _=>trCp o (R c) c a os bs
 |.Tuple ps _ _=>(trL (R c) ps).map .tup
 |.List ps _=>(trL (R c) ps).map .lst
 |.Subscript a b _=>trSub o (R c) c a b
 |.Call g ps ks pos=>trCl o (R c) c pos g ps ks
 |.Attribute a f _=>gd (Nat.ble 3 o) ((c.glo.ats.find? λz=>z.1==o - 3&&sq z.2 f).bind λz=>(R c a).map λe=>.attr z.1 e z.2)
 |.Dict ks vs _=>trDi o (R c) ks vs
 |.ListComp elt gs sc _=>trLc o R c elt sc gs
 |_=>B
noncomputable def isGc:E->Ya
 |.gc _=>O
 |_=>Y5
noncomputable def pk(p:Pos):Nat:=(p.line*1000+p.col)*1000+p.endCol
noncomputable def trF(o:Y0->Y0)(R:TrE):TrE:=λc p=>gd (shOk p) (match o (pk p.pos) with
 |n=>(trX (n / 2) R c p).bind λe=>gd (qv2 e) (Y (bif (n % 2==1)&&gcOk p && !isGc e then .gc e else e)))
noncomputable def trE(o:Y0->Y0):Y0->TrE
 |0=>λ_ _=>B
 |n+1=>trF o (trE o n)
def mD{α c:Type}{o:Y2 α}{f:α->c}{b:c}(h:o.map f=Y b):∃a,o=Y a/\f a=b:=Qqd.mp h
def aD(h:(a&&b)=O):a=O/\b=true:=(Qqs _ _).mp h
def bDk{α c:Type}{o:Y2 α}{f:α->Y2 c}{b:c}{P:Prop}(h:o.bind f=Y b)(k:∀a,o=Y a->f a=Y b->P):P:=qzj h k
def mDk{α c:Type}{o:Y2 α}{f:α->c}{b:c}{P:Prop}(h:o.map f=Y b)(k:∀a,o=Y a->f a=b->P):P:=qzh h k
def gDk{x:Y2 α}{e:α}{P:Prop}(h:gd b x=Y e)(k:b=O->x=Y e->P):P:=k (gd_iff.mp h).1 (gd_iff.mp h).2
def aDk{P:Prop}(h:(a&&b)=O)(k:a=O->b=O->P):P:=k ((Qqs _ _).mp h).1 ((Qqs _ _).mp h).2
def fD{α:Type}{p:α->Ya}{l:L α}{a:α}(h:l.find? p=Y a):a∈l/\p a=true:=⟨Qxj h,Qx6 h⟩
def oDk{α:Type}{a b:Y2 α}{x:α}{P:Prop}(h:a.or b=Y x)(k:a=Y x->P)(c:b=Y x->P):P:=by
 cases a with
 |none=>exact c h
 |some y=>exact k h
def nmDk{k:Y4->Pos->Y2 α}{e:α}{P:Prop}(h:qji k p=Y e)(g:∀x q,p=.Name x q->k x q=Y e->P):P:=by
 cases p with
 |Name x q=>exact g x q rfl h
 |_=>exact nn h
def tuDk{k:L Expr->Y2 α}{e:α}{P:Prop}(h:qgs k p=Y e)(g:∀es j q,p=.Tuple es j q->k es=Y e->P):P:=by
 cases p with
 |Tuple x j q=>exact g x j q rfl h
 |_=>exact nn h
def slDk{k:Y2 Expr->Y2 Expr->Y2 α}{e:α}{P:Prop}(h:onSl k p=Y e)(g:∀a b q,p=.Slice a b B q->k a b=Y e->P):P:=by
 cases p with
 |Slice a b s q=>
  cases s with
  |none=>exact g a b q rfl h
  |some _=>exact nn h
 |_=>exact nn h
def clDk{k:Y4->Pos->L Expr->Pos->Y2 α}{e:α}{P:Prop}(h:qda k p=Y e)(g:∀x q ps pos,p=.Call (.Name x q) ps [] pos->k x q ps pos=Y e->P):P:=by
 cases p with
 |Call f ps ks pos=>
  cases ks with
  |nil=>exact nmDk h λx q e h=>g x q ps pos (e▸rfl) h
  |cons _ _=>exact nn h
 |_=>exact nn h
def atDk{k:Expr->Y4->Pos->Y2 α}{e:α}{P:Prop}(h:onAt k p=Y e)(g:∀a m q,p=.Attribute a m q->k a m q=Y e->P):P:=by
 cases p with
 |Attribute a m q=>exact g a m q rfl h
 |_=>exact nn h
def cDk{k:b->L b->Y2 α}{l:L b}{e:α}{P:Prop}(h:onC k l=Y e)(g:∀a r,l=a::r->k a r=Y e->P):P:=by
 cases l with
 |nil=>exact nn h
 |cons a r=>exact g a r rfl h
def qx2{k:b->Y2 α}{l:L b}{e:α}{P:Prop}(h:on1 k l=Y e)(g:∀a,l=[a]->k a=Y e->P):P:=
 cDk h λa r e h=>gDk h λhr h=>g a (by cases r with
  |nil=>exact e
  |cons _ _=>cases hr) h
def qfl{k:c->c->Y2 α}{l:L c}{e:α}{P:Prop}(h:on2 k l=Y e)(g:∀a b,l=[a,b]->k a b=Y e->P):P:=
 cDk h λa _ e h=>qx2 h λb d h=>g a b (d▸e) h
def TrO(Q:Ctx->E->Expr->Prop)(R:TrE):Prop:=∀{c:Ctx}{p:Expr}{e:E},R c p=Y e->Q c e p
abbrev Fo(Q:Ctx->E->Expr->Prop)(c:Ctx)(f:Expr->Y2 E):Prop:=∀{p:Expr}{e:E},f p=Y e->Q c e p
def inN_op(h:inNeg a=Y neg):a=inOp neg:=by cases a<;>first|(cases h; done)|(cases h; rfl)
def qcq(h:qcx c x=Y e):CkV c e x:=by
 unfold qcx at h
 cases g:isG c x with
 |true=>
  rw[g]at h;refine bDk h λq b h=>gDk h λhd h=>?_;cases h;obtain⟨d,a⟩:=fD b;cases qqy a;exact .glo (qqx g) d (qa7 hd)
 |false=>
  rw[g]at h;refine bDk h λi hi h=>gDk h λhd h=>?_;cases h;refine aDk hd λhd h2=>aDk hd λhd h1=>?_;rw[qwj]at hd;exact .var (ixS_eq hi) (qnz hd) (qa7 h1) (qa7 h2)
section
variable (hf:Fo Q c f)
include hf
theorem qxl:∀{ps}{es},trL f ps=Y es->CkL (Q c) es ps
 |[],_,h=>by cases h; exact .nil
 |p::r,es,h=>by
  refine bDk h λe b h=>?_;obtain⟨t,a,rfl⟩:=mD h;exact .cons (hf b) (qxl a)
theorem qhs:∀{ks}{vs}{es},trP f ks vs=Y es->CkP (Q c) es ks vs
 |[],vs,_,h=>gDk h λhv h=>by
  cases vs with
  |nil=>cases h; exact .nil
  |cons _ _=>cases hv
 |k::ks,vs,es,h=>bDk h λk hk h=>cDk h λv vs hv h=>by
  refine bDk h λa e h=>bDk h λb hb h=>?_;obtain⟨t,d,rfl⟩:=mD h;subst hk hv;exact .cons (hf e) (hf hb) (qhs d)
theorem qcz(h:trO f p=Y e):CkO (Q c) e p:=by
 cases p with
 |none=>cases h; exact .none
 |some p=>
  obtain⟨e,a,rfl⟩:=mD h;exact .some (hf a)
theorem qam(h:qng c b=Y q):∃pos,b=.Name q.1 pos/\c.sc.names.lookup q.1=Y .globalImplicit/\(q.1,q.2.1,q.2.2)∈c.glo.ds/\(q.1==("__debug__" : Y4))=false:=
 nmDk h λx pos e h=>gDk h λh1 h=>aDk h1 λh1 h2=>by
  obtain⟨d,a⟩:=fD h;have:=qqy a;subst this e;exact⟨pos,rfl,qqx h1,d,qa7 h2⟩
theorem qft(h:trCmp o f c a i b=Y e):CkG Q c e (.Compare a [i] [b] pos):=
 oDk h (λh=>bDk h λneg hn h=>by
  rw[inN_op hn];refine oDk h (λh=>bDk h λq j h=>?_) λh=>gDk h λ_ h=>bDk h λx d h=>?_
  ·obtain⟨x,d,rfl⟩:=mD h;obtain⟨p0,rfl,h1,h2,k⟩:=qam hf j;exact .gin h1 h2 k (hf d)
  ·obtain⟨y,g,rfl⟩:=mD h
   exact .din (hf d) (hf g)) λh=>bDk h λx d h=>by
  obtain⟨y,g,rfl⟩:=mD h;exact .cmp (hf d) (hf g)
theorem qfp(h:trSub o f c a b=Y e):CkG Q c e (.Subscript a b pos):=by
 refine oDk h (λh=>slDk h λlo hi p0 n h=>bDk h λx d h=>bDk h λl j h=>?_) λh=>oDk h (λh=>bDk h λq i h=>?_) λh=>bDk h λx d h=>?_
 ·obtain⟨k,hk,rfl⟩:=mD h;subst n;exact .sli (hf d) (qcz hf j) (qcz hf hk)
 ·obtain⟨x,d,rfl⟩:=mD h;obtain⟨p0,rfl,h1,h2,m⟩:=qam hf i;exact .gidx h1 h2 m (hf d)
 ·obtain⟨y,g,rfl⟩:=mD h
  cases p:o==1 with
  |false=>exact .idx (hf d) (hf g)
  |true=>exact .didx (hf d) (hf g)
omit hf in
theorem qi6(h:tyOf x=Y t):t≠.non/\Str.ofString t.name=x:=by
 obtain⟨h1,h2⟩:=fD h;refine⟨?_,qqy h2⟩;rintro rfl;simp at h1
theorem qfr(g:c.sc.names.lookup ("isinstance" : Y4)=Y .globalImplicit)(h:trIsi f c a t=Y e):CkG Q c e (.Call (.Name "isinstance" p0) [a,t] [] pos):=
 nmDk h λx q ex h=>bDk h λt b h=>gDk h λi h=>by
  obtain⟨e,d,rfl⟩:=mD h;obtain⟨h1,rfl⟩:=qi6 b;subst ex;exact .isi1 g h1 (qqx i) (hf d)
theorem bc_ok(g:isG c x=O)(h:((bOf x).bind λb=>gd (bOk b) ((trL f (p::ps)).map (.bcall b)))=Y e):CkG Q c e (.Call (.Name x p0) (p::ps) [] pos):=by
 refine bDk h λb hb h=>gDk h λh1 h=>?_;obtain⟨es,a,rfl⟩:=mD h;have:=qqy (fD hb).2;subst this;exact .bcall (qqx g) h1 (qxl hf a)
theorem qfs(g:isG c x=O)(hd:noD x=O)(h:trFun f c x p r=Y e):CkG Q c e (.Call (.Name x p0) (p::r) [] pos):=by
 refine oDk h (λh=>bDk h λk hk h=>gDk h λh1 h=>?_) λh=>oDk h (λh=>bDk h λq n h=>bDk h λz i h=>gDk h λh1 h=>?_) λh=>oDk h (λh=>gDk h λhi h=>qx2 h λt m h=>?_) (bc_ok hf g)
 ·obtain⟨es,d,rfl⟩:=mD h;exact .call (qqx g) (ixS_eq hk) (qa7 hd) h1 (qxl hf d)
 ·obtain⟨es,d,rfl⟩:=mD h;obtain⟨y,j⟩:=Qz4.mp h1;obtain⟨o,l⟩:=fD n;obtain⟨b,a⟩:=fD i;refine aDk a λs hb=>?_;have:=qqy l;subst this;obtain⟨A,C,w⟩:=z;have v:=qqy hb;have u:=eq_of_beq s;subst v u;exact .new (qqx g) j b o (qa7 hd) (qxl hf d)
 ·have:=qqy hi;subst this m;exact qfr hf (qqx g) h
omit hf in
theorem qds(h:qik c x ps=Y a):x=("len" : Y4)/\∃q b,ps=[.Call (.Name "set" q) [a] [] b]/\c.sc.names.lookup ("set" : Y4)=Y .globalImplicit:=
 qx2 h λp e h=>clDk h λy q k b j h=>qx2 h λl i h=>gDk h λh1 h=>by
  cases h;refine aDk h1 λh1 g=>aDk h1 λd h1=>?_;have:=qqy h1;subst this i j e;exact⟨qqy d,q,b,rfl,qqx g⟩
theorem qcj(h:qck o f c a m b ps pos=Y e):CkG Q c e (.Call (.Attribute a m b) ps [] pos):=by
 unfold qck at h;refine gDk h λn h=>?_
 cases t:Nat.ble 3 o with
 |true=>
  rw[t]at h;refine bDk h λz v h=>bDk h λq w h=>gDk h λh1 h=>aDk h1 λh1 h2=>bDk h λx d h=>?_;obtain⟨es,s,rfl⟩:=mD h;obtain⟨y,i⟩:=Qz4.mp h1;obtain⟨A,g⟩:=fD v;obtain⟨l,j⟩:=fD w;refine aDk g λC hb=>?_;obtain⟨I,K,H⟩:=z;obtain⟨N,P⟩:=q;have G:=qqy hb;have F:=eq_of_beq C;have u:=eq_of_beq j;subst G;rw[<- F]at u;subst u;exact .mcall (hf d) i A l (qxl hf s) (of_decide_eq_true h2) n
 |false=>
  rw[t]at h;refine cDk h λp r D h=>?_;subst D
  cases hg:sq m ("get" : Y4) with
  |true=>
   cases qqy hg;rw[hg]at h;refine bDk h λx d h=>bDk h λy i h=>?_
   cases r with
   |nil=>
    cases h;exact .dgt (hf d) (hf i) n
   |cons R r=>exact nn h
  |false=>
   rw[hg]at h;refine bDk h λk hk h=>gDk h λhn h=>bDk h λx d h=>?_;obtain⟨es,s,rfl⟩:=mD h;have:=qqy (fD hk).2;subst this;exact .meth (hf d) (qxl hf s) (of_decide_eq_true hn) n
omit hf in
theorem qw6:∀{es}{is},trTs c es=Y is->CkTs c is es
 |[],_,h=>by cases h; exact .nil
 |p::r,is,h=>nmDk h λx q e h=>bDk h λi hi h=>gDk h λg h=>by
  obtain⟨b,a,rfl⟩:=mD h;subst e;exact .cons (ixS_eq hi) (qah g) (qw6 a)
omit hf in
theorem qb9(h:trT c p=Y t):CkT c t p:=by
 refine oDk h (λh=>nmDk h λx q e h=>bDk h λi hi h=>gDk h λg h=>?_) λh=>tuDk h λes j q e h=>?_
 ·cases h;subst e;exact .var (ixS_eq hi) (qah g)
 ·obtain⟨a,hi,rfl⟩:=mD h;subst e;exact .tup (qw6 hi)
theorem trR_ok(g:isG c x=O)(h:trR f tg x ps=Y e):CkI (Q c) c tg e (.Call (.Name x q) ps [] pos):=by
 unfold trR at h
 cases d:sq x ("range" : Y4) with
 |true=>
  rw[d]at h;have:=qqy d;subst this;refine oDk h (λh=>qx2 h λa i h=>?_) λh=>qfl h λa b i h=>bDk h λx d h=>?_
  ·obtain⟨x,d,rfl⟩:=mD h;subst i;exact .rng1 (qqx g) (hf d)
  ·obtain⟨y,j,rfl⟩:=mD h;subst i;exact .rng2 (qqx g) (hf d) (hf j)
 |false=>
  rw[d]at h
  cases d:sq x ("zip" : Y4) with
  |true=>
   rw[d]at h;have:=qqy d;subst this;refine tuDk h λ_ _ _ k h=>qfl h λa b i h=>bDk h λx d h=>?_;obtain⟨y,j,rfl⟩:=mD h;subst k i;exact .zip (qqx g) (hf d) (hf j)
  |false=>
   rw[d]at h
   cases d:sq x ("enumerate" : Y4) with
   |true=>
    rw[d]at h;have:=qqy d;subst this;refine tuDk h λ_ _ _ k h=>qx2 h λa i h=>?_;obtain⟨y,j,rfl⟩:=mD h;subst k i;exact .enu (qqx g) (hf j)
   |false=>
    rw[d]at h;refine gDk h λd h=>qx2 h λa i h=>?_;have:=qqy d;subst this i;obtain⟨y,j,rfl⟩:=mD h;exact .rev (qqx g) (hf j)
theorem qht(h:trI f c tg p=Y e):CkI (Q c) c tg e p:=
 oDk h (λh=>clDk h λx q ps pos a h=>gDk h λg h=>by
  rw[a]
  exact trR_ok hf g h) λh=>.seq (hf h)
end
theorem qaw:∀{l},ndB l=O->l.Nodup
 |[],_=>.nil
 |x::r,h=>by
  refine aDk h λh1 h2=>Qq8.mpr ⟨λa=>?_,qaw h2⟩;rw[Qjy.mpr ⟨x,a,qw8 x⟩]at h1;cases h1
def qvp{R:TrE}(s:TrO Q R)(h:qys R c elt tg a ifs sc=Y e):CkG Q c e (.ListComp elt [⟨tg,a,ifs.toList,0⟩] sc pos):=by
 unfold qys at h;refine gDk h λb h=>aDk b λb q=>aDk b λb A=>aDk b λb C=>aDk b λb D=>aDk b λh1 h2=>bDk h λi hi h=>bDk h λt v h=>gDk h λp h=>?_;have hk:=eq_of_beq h1;have f:=λy g=>by
  have:=Qzx.mp h2 y g;simpa using this
 have d:∀y∈sc.names,y.2=.free->c.sc.names.lookup y.1=Y .cell\/c.sc.names.lookup y.1=Y .free:=λy g e=>by
  have:=Qzx.mp D y g;rw[e]at this;refine aDk (this) λo hb=>?_;rw[qwj]at o hb;rcases qnz o with z|z|z
  ·rw[z]at hb; cases hb
  ·exact .inl z
  ·exact .inr z
 have m:∀y∈sc.names,y.2=.local->sc.names.lookup y.1=Y .local:=λy g e=>by
  have:=Qzx.mp C y g;rw[e]at this;rw[<- qwj];exact eq_of_beq (this)
 have n:(inS sc c.N).length=(inN sc).length:=by unfold inS; rw[Qqz]
 have l:∀(j i:Y0),(inS sc c.N)[j]?=Y (Y i)->∃x,(inN sc)[j]?=Y x/\c.N[i]?=Y x/\sc.names.lookup x=Y .free:=λj i hj=>by
  unfold inS at hj;rw[Qqw]at hj;refine mDk hj λx u hj=>⟨x,u,?_⟩
  cases hb:kV (lk sc.names x) && !kL (lk sc.names x) with
  |false=>rw[hb]at hj; cases hj
  |true=>
   rw[hb]at hj;refine aDk hb λo hb=>⟨ixS_eq hj,?_⟩
   rw[<- qwj];rcases qnz o with z|z|z
   ·rw[z]at hb; cases hb
   ·rw[z]at hb; cases hb
   ·exact z
 have hs:=λenv x=>qlg q env x;have ok:CpOk c sc (inS sc c.N) (inN sc) a t:=⟨hk,f,d,m,n,l,qaw A,hs,p⟩
 refine bDk h λk r h=>?_;obtain⟨e,w,rfl⟩:=mD h;exact .comp ok (qht (s) hi) (qb9 v) (qcz s r) (s w)
def bo_ok(h:Q c x p)(k:Q c y (boT a pos (q::r))):CkG Q c (bo a x y) (.BoolOp a (p::q::r) pos):=by
 cases a with
 |And=>exact .and h k
 |Or=>exact .or h k
def trX_ok{R:TrE}(l:TrO Q R)(U:shOk p=O)(h:trX o R c p=Y e):CkG Q c e p:=by
 cases p with
 |Name x q=>
  exact .nm (qcq h)
 |Constant k _ _=>
  cases k with
  |int i=>cases h; exact .int
  |bool i=>cases h; exact .bl
  |none=>cases h; exact .non
  |str i=>cases h; exact .str
  |_=>exact nn h
 |BinOp a s b q=>
  refine bDk h λx j h=>?_;obtain⟨y,n,rfl⟩:=mD h;exact .bin (l j) (l n)
 |UnaryOp s a q=>
  cases s with
  |USub=>
   obtain⟨x,j,rfl⟩:=mD h;exact .neg (l j)
  |Not=>
   obtain⟨x,j,rfl⟩:=mD h;exact .not (l j)
  |_=>exact nn h
 |BoolOp s ps q=>
  refine cDk h λa r F h=>bDk h λx j h=>cDk h λb r t h=>?_;obtain⟨y,n,rfl⟩:=mD h;subst t F;refine bo_ok (l j) ?_
  cases r with
  |nil=>exact l n
  |cons _ _=>exact l n
 |Compare a os bs q=>
  refine oDk h (λh=>qx2 h λs D h=>qx2 h λb t h=>?_) λh=>qfl h λs N D h=>qfl h λb d t h=>bDk h λx j h=>bDk h λy n h=>?_
  ·rw[D,t];exact qft l h
  ·obtain⟨z,C,rfl⟩:=mD h;subst D t;exact .cmp2 (l j) (l n) (l C)
 |Tuple ps _ _=>
  obtain⟨x,j,rfl⟩:=mD h;exact .tup (qxl l j)
 |List ps _=>
  obtain⟨x,j,rfl⟩:=mD h;exact .lst (qxl l j)
 |Subscript a b _=>exact qfp l h
 |Call g ps ks q=>
  refine gDk h λhk h=>?_
  cases ks with
  |nil=>
   refine oDk h (λh=>nmDk h λx p0 u h=>cDk h λp r K h=>gDk h λh1 h=>aDk h1 λI hd=>oDk h (λh=>bDk h λa H h=>?_) λh=>?_) λh=>atDk h λa m apos F h=>?_
   ·obtain⟨x,j,rfl⟩:=mD h;obtain⟨rfl,q,T,e,hs⟩:=qds H;cases e;subst u K;exact .lenset (qqx I) hs (l j)
   ·rw[u,K];exact qfs l I hd h
   ·rw[F];exact qcj l h
  |cons _ _=>cases hk
 |Attribute a f _=>
  refine gDk h λV h=>bDk h λz C h=>?_;obtain⟨x,j,rfl⟩:=mD h;obtain⟨P,A⟩:=fD C;refine aDk A λH hb=>?_;have:=qqy hb;subst this;exact .attr (l j) P
 |Dict ks vs _=>
  refine gDk h λh1 h=>?_;obtain⟨x,j,rfl⟩:=mD h
  cases ks with
  |nil=>
   cases vs with
   |nil=>cases j; exact .dic0
   |cons _ _=>exact nn j
  |cons k ks=>
   cases k with
   |none=>exact nn j
   |some k=>
    cases vs with
    |nil=>exact nn j
    |cons v vs=>exact .dic (qhs l j) (of_decide_eq_true h1)
 |ListComp elt W sc _=>
  refine qx2 h λg u h=>?_;subst u;obtain⟨tg,G,w,k⟩:=g;refine gDk h λh1 h=>?_;cases eq_of_beq h1;refine oDk h (λh=>gDk h λhi h=>?_) λh=>qx2 h λq S h=>?_
  ·cases w with
   |nil=>exact qvp (ifs:=B) l h
   |cons _ _=>cases hi
  ·cases S;exact qvp (ifs:=Y _) l h
 |_=>exact nn h
def trF_ok{R:TrE}(g:TrO Q R):TrO (CkF Q) (trF o R):=λ{c p e} h=>by
 unfold trF at h;refine gDk h λa h=>bDk h λx f h=>gDk h λd h=>?_;cases h;have k:=trX_ok g a f
 cases hc:(o (pk p.pos) % 2==1)&&gcOk p && !isGc x with
 |false=>exact .of a d k
 |true=>
  refine aDk hc λh1 h2=>aDk h1 λ_ h1=>.gc a d h1 (λb e=>?_) k;rw[e]at h2;cases h2
theorem qyr:∀n,TrO (CkN n) (trE o n)
 |0=>λh=>nomatch h
 |n+1=>trF_ok (qyr n)
noncomputable def isComp:Expr->Ya
 |.ListComp ..=>O
 |_=>Y5
noncomputable def noTup:Expr->Ya
 |.Tuple ..=>Y5
 |_=>O
noncomputable def trAsg(o:Y0->Y0)(f:Expr->Y2 E)(c:Ctx)(p:Expr):Expr->Y2 S
 |.Name x _=>(ixS x c.N).bind λi=>gd (isL c x) ((f p).map λe=>.set (.var i) e)
 |.Tuple es _ _=>gd (noTup p) ((trTs c es).bind λis=>(f p).map λe=>.set (.tup is) e)
 |.Subscript a i tp=>(f p).bind λe=>(f a).bind λx=>(f i).map λy=>bif o (pk tp) / 2==1 then .dset x y e else .six x y e
 |.Attribute a m tp=>(f p).bind λe=>gd (Nat.ble 3 (o (pk tp) / 2)) ((c.glo.ats.find? λz=>z.1==o (pk tp) / 2 - 3&&sq z.2 m).bind λz=>(f a).map λx=>.setA z.1 x z.2 e)
 |_=>B
noncomputable def trS1(o:Y0->Y0)(f:Expr->Y2 E)(Bq:L Stmt->L S)(c:Ctx):Stmt->Y2 S
 |.Assign ts p _=>on1 (trAsg o f c p) ts
 |.Expr p _=>gd (swOk p) ((f p).map .expr)
 |.Return p _=>p.bind λp=>(f p).map .ret
 |.If q a b _=>(f q).map λe=>.ite e (Bq a) (Bq b)
 |.While q b r _=>gd r.isEmpty ((f q).map λe=>.whil e (Bq b))
 |.For tg it b r pos=>gd r.isEmpty (gd (shOk it) ((trT c tg).bind λt=>bif o (pk pos) / 2==1 then(f it).map λe=>.ford t e (Bq b) else(trI f c tg it).map λe=>.forr t e (Bq b)))
 |_=>B
noncomputable def isStr:Const->Ya
 |.str _=>O
 |_=>Y5
noncomputable def isDocE:Expr->Ya
 |.Constant k _ _=>isStr k
 |_=>Y5
noncomputable def isDoc:Stmt->Ya
 |.Expr e _=>isDocE e
 |_=>Y5
noncomputable def trSL(g:Stmt->S):L Stmt->L S
 |[]=>[]
 |p::r=>bif isDoc p then trSL g r else g p::trSL g r
noncomputable def trSs(o:Y0->Y0)(f:TrE)(c:Ctx):Y0->L Stmt->L S
 |0,ps=>trSL (λ_=>.bad) ps
 |n+1,ps=>trSL (λp=>(trS1 o (f c) (trSs o f c n) c p).getD .bad) ps
theorem qk8(a:∀p,CkS c (g p) p):∀ps,CkSs c (trSL g ps) ps
 |[]=>.nil
 |p::r=>by
  unfold trSL
  cases hd:isDoc p with
  |false=>exact .cons (a p) (qk8 a r)
  |true=>
   cases p with
   |Expr e _=>
    cases e with
    |Constant k _ _=>
     cases k with
     |str _=>exact .doc (qk8 a r)
     |_=>cases hd
    |_=>cases hd
   |_=>cases hd
def qfu(hf:Fo CkE c f)(h:trAsg o f c p t=Y s):CkS c s (.Assign [t] p pos):=by
 cases t with
 |Name x d=>
  refine bDk h λi hi h=>gDk h λn h=>?_;obtain⟨e,b,rfl⟩:=mD h
  cases hc:isComp p with
  |true=>
   cases p with
   |ListComp=>exact .setC (ixS_eq hi) (qah n) (hf b) ⟨_,_,_,_,rfl⟩ λenv _=>qf3 _ _ _ _ _ _ _ env
   |_=>cases hc
  |false=>
   refine .set (ixS_eq hi) (qah n) (hf b) λenv=>sw_ok ?_ _ _ _;have:=(hf b).sh
   cases p<;>first|rfl|(cases hc; done)|(cases this; done)
 |Tuple es k d=>
  refine gDk h λhn h=>bDk h λu hi h=>?_;obtain⟨e,b,rfl⟩:=mD h;refine .setT (qw6 hi) (hf b) λenv=>?_
  cases p<;>first|rfl|cases hn
 |Subscript a i d=>
  refine bDk h λe b h=>bDk h λx g h=>?_;obtain⟨y,l,rfl⟩:=mD h
  cases o (pk d) / 2==1 with
  |true=>exact .dset (hf g) (hf l) (hf b)
  |false=>exact .six (hf g) (hf l) (hf b)
 |Attribute a m d=>
  refine bDk h λe b h=>gDk h λ_ h=>bDk h λz q h=>?_;obtain⟨x,g,rfl⟩:=mD h;obtain⟨r,j⟩:=fD q;refine aDk j λ_ hb=>?_;have:=qqy hb;subst this;exact .setA (hf g) (hf b) r
 |_=>exact nn h
def qlq(hf:Fo CkE c f)(g:∀ps,CkSs c (Bq ps) ps)(h:trS1 o f Bq c p=Y s):CkS c s p:=by
 cases p with
 |Assign m p pos=>
  refine qx2 h λt k h=>?_;subst k;exact qfu hf h
 |Expr p pos=>
  refine gDk h λh1 h=>?_;obtain⟨e,d,rfl⟩:=mD h;exact .expr (hf d) λenv=>sw_ok h1 _ _ _
 |Return p pos=>
  refine bDk h λp l h=>?_;obtain⟨e,d,rfl⟩:=mD h;subst l;exact .ret (hf d)
 |If q a b pos=>
  obtain⟨e,d,rfl⟩:=mD h;exact .ite (hf d) (g _) (g _)
 |While q b r pos=>
  cases r with
  |nil=>
   refine gDk h λ_ h=>?_;obtain⟨e,d,rfl⟩:=mD h;exact .whil (hf d) (g _)
  |cons _ _=>exact nn h
 |For tg it b r pos=>
  cases r with
  |cons _ _=>exact nn h
  |nil=>
   refine gDk h λ_ h=>gDk h λh1 h=>bDk h λt i h=>?_
   cases j:o (pk pos) / 2==1 with
   |true=>
    rw[j]at h;obtain⟨e,d,rfl⟩:=mD h;exact .ford (qb9 i) (hf d) (g _)
   |false=>
    rw[j]at h;obtain⟨e,d,rfl⟩:=mD h;exact .forr (qb9 i) (qht hf d) (λenv x=>qlg h1 _ _) (g _)
 |_=>exact nn h
theorem qk7(hf:TrO CkE f):∀n ps,CkSs c (trSs o f c n ps) ps
 |0,ps=>qk8 (λ_=>.bad) ps
 |n+1,ps=>qk8 (λp=>by
  cases h:trS1 o (f c) (trSs o f c n) c p with
  |none=>exact .bad
  |some s=>exact qlq (hf) (qk7 hf n) h) ps
noncomputable def argN(st:Stmt):L Y4:=(qqg st).args.map (·.arg)
noncomputable def locN(st:Stmt):L Y4:=argN st++((qzd st).names.filter λy=>kL (Y y.2) && !((argN st).any (sq y.1))).map (·.1)
noncomputable def trFn(o:Y0->Y0)(names:L Y4)(glo:Glo)(st:Stmt):Fn:=
 ⟨(argN st).length,(locN st).length,trSs o (trE o 30) ⟨locN st,qzd st,names,glo⟩ 12 (qz0 st)⟩
noncomputable def scOk(st:Stmt):Bool:=(qzd st).kind==.function && !(qzd st).isCoroutine && !(qzd st).isGenerator&&ndB (locN st)&&(argN st).all (λx=>kL (lk (qzd st).names x))&&(qzd st).names.all (λy=>y.2 != .free)
def qcs{st:Stmt}(h:scOk st=O):FnScope (locN st) (argN st) (qzd st):=by
 refine aDk h λh c=>aDk h λh d=>aDk h λh e=>aDk h λh f=>aDk h λh1 h2=>?_;refine⟨eq_of_beq h1,by simpa using h2,by simpa using f,qaw e,by unfold locN; rw[List.take_left],λx b=>?_,λy a=>?_⟩
 ·have:=kL_eq (Qzx.mp d x b);rwa [qwj]at this
 ·simpa using Qzx.mp c y a
abbrev Orc:=L (Y0×L Y0)
abbrev Rw:=Y2 Y7×Y4×Y4×Stmt×Orc
noncomputable def orc:Orc->Y0->Y0
 |[],_=>0
 |(v,l)::r,k=>bif l.any (k.beq ·) then v else orc r k
noncomputable def msT:Y0->L Rw->L (Y0×Y7×Y4)
 |_,[]=>[]
 |n,(Y C,m,_)::r=>(n,C,m)::msT (n+1) r
 |n,(B,_)::r=>msT (n+1) r
noncomputable def fnsT(names:L Y4)(glo:Glo)(t:L Rw):L Fn:=t.map λr=>trFn (orc r.2.2.2.2) names glo r.2.2.2.1
def ms_mem:∀{n},q∈msT n t->∃k r,q.1=n+k/\t[k]?=Y r/\r.1=Y q.2.1/\r.2.1=q.2.2:=by
 induction t with
 |nil=>exact λh=>nomatch h
 |cons a t b=>
  obtain⟨C,m,z⟩:=a;intro n h;have up:q∈msT (n+1) t->∃k r,q.1=n+k/\((C,m,z)::t)[k]?=Y r/\r.1=Y q.2.1/\r.2.1=q.2.2:=λh=>by
   obtain⟨k,r,e,w⟩:=b h;exact⟨k+1,r,by lia,w⟩
  cases C with
  |none=>exact up h
  |some C=>
   rcases Qqy.mp h with rfl|h
   ·exact⟨0,_,rfl,rfl,rfl,rfl⟩
   ·exact up h
abbrev Bd(r:Rw):Prop:=∀(kV doc pm:Y8) (an:Y2 Y7) (cdv ct:Y8) (us:L Y8),us.length=(argN r.2.2.2.1).length->bindArgs (PySem.W.fnOf r.2.1 r.2.2.1 (qqg r.2.2.2.1) (qz0 r.2.2.2.1) (qzd r.2.2.2.1) .none kV doc pm an cdv ct) ⟨us,[]⟩=pure ((argN r.2.2.2.1).zip us)
inductive RwK (K:Qqq):Rw->Prop
 |fn {x:Y4}{st:Stmt}{o:Orc}{f:Y7}{od an:Y2 Y7}{sl:Array (Y2 Y8)}{oc kV dc pm cd ct:Y8}(a:Qx9 K mainGlobals x=Y (Y (.ref f))) (l:K.lookup f=Y ⟨oc,od,.func (PySem.W.fnOf x x (qqg st) (qz0 st) (qzd st) .none kV dc pm an cd ct),sl⟩) (c:PySem.W.codeIn K cd x=O) (k:Qzt K (.ref f)=O):RwK K (B,x,x,st,o)
 |me {C:Y7}{m x:Y4}{st:Stmt}{o:Orc}{f:Y7}{od an:Y2 Y7}{sl:Array (Y2 Y8)}{oc kV dc pm cd ct:Y8}(a:PySem.W.findIn K (.ref C) m=Y (Y (.ref f))) (fn:PySem.W.isFn K (.ref f)=O) (l:K.lookup f=Y ⟨oc,od,.func (PySem.W.fnOf m x (qqg st) (qz0 st) (qzd st) .none kV dc pm an cd ct),sl⟩) (c:PySem.W.codeIn K cd x=O) (k:Qzt K (.ref f)=O):RwK K (Y C,m,x,st,o)
noncomputable def rwOk(r:Rw):Bool:=scOk r.2.2.2.1&&(r.1.isNone||(qgt r.2.2.1).not)
def qf2{K:Qqq}(X:K.In h)(G:h.Ns mainGlobals mg)(d:glo.ms=msT 0 t)(hs:∀r∈t,RwK K r)(hb:∀r∈t,Bd r)(hc:t.all rwOk=O)(f)(x)(e:(t.map (·.2.2.1))[f]?=Y x):FText K mg (fnsT (t.map (·.2.2.1)) glo t) (t.map (·.2.2.1)) glo f x:=by
 rw[Qqw]at e;obtain⟨r,hr,rfl⟩:=mD e;have i:=Qqe hr;have g:(fnsT (t.map (·.2.2.1)) glo t)[f]?=Y (trFn (orc r.2.2.2.2) (t.map (·.2.2.1)) glo r.2.2.2.1):=by
  unfold fnsT;rw[Qqw,hr]
  rfl
 have d:∀C m,(f,C,m)∈glo.ms->r.1=Y C/\r.2.1=m:=λC m w=>by
  rw[d]at w;obtain⟨k,r',e,h1,h2⟩:=ms_mem w;obtain rfl:f=k:=e.trans (Qx1 k);cases hr.symm.trans h1;exact h2
 refine aDk (Qzx.mp hc r i) λh1 h2=>?_;have b:=hb r i;have s:=qcs h1
 cases hs r i with
 |fn a l c k=>exact⟨_,_,_,_,_,_,_,g,qwg l c k,⟨λ_=>Qjv X G a,λC m w=>nomatch (d C m w).1⟩,(qwg l c k).binds b,s,qk7 (qyr 30) 12 _,rfl,rfl⟩
 |@me C m x st o f p an sl q kV dc n u ct a fn l c k=>
  refine⟨_,_,_,_,_,_,_,g,qwg l c k,⟨λz=>?_,λC m w=>?_⟩,(qwg l c k).binds b,s,qk7 (qyr 30) 12 _,rfl,rfl⟩
  ·have h2:=h2;rw[z]at h2;cases h2
  ·obtain⟨e,j⟩:=d C m w;cases e;cases j;exact⟨a,fn,k⟩
structure Vof (K:Qqq) (u:Y8) (d:D):Prop where
 ex:∃v,RelV v u/\∀m H,IsD K m H d v
structure Vsf (K:Qqq) (us:L Y8) (ds:L D):Prop where
 ex:∃vs,Vals vs us/\∀m H,IsDs K m H ds vs
structure Enf (prm:Qr) (K:Qqq) (es:L Q3) (ks:L Y4) (ds:L D):Prop where
 ex:∃us vs,EntOk prm es ks us/\Vals vs us/\∀m H,IsDs K m H ds vs
def vInt{K:Qqq}:Vof K (.int i t) (.int i):=⟨.int _,⟨_,rfl⟩,λm H=>mkInt _⟩
def vStr{K:Qqq}:Vof K (.str s t) (.str s):=⟨.str _,⟨_,rfl⟩,λm H=>mkStr _⟩
def vNil{K:Qqq}:Vsf K [] []:=⟨[],.nil,λ_ _=>qz8⟩
def vCons{K:Qqq}:Vof K u d->Vsf K us ds->Vsf K (u::us) (d::ds)
 |⟨v,a,b⟩,⟨vs,c,e⟩=>⟨v::vs,.cons a c,λm H=>qzm (b m H) (e m H)⟩
def vTup{K:Qqq}{gd:Y2 Y7}(h:K.lookup a=Y ⟨.type "tuple",gd,.seq vs.toArray b,gs⟩)(q:Vsf K vs ds)(n:Nat.ble vs.length sizeLine=O):Vof K (.ref a) (.tup ds):=by
 obtain⟨vs,c,d⟩:=q;exact⟨.ref _,rfl,λm H=>qq2 (.inr ⟨_,_,_,h,rfl,rfl,Nat.le_of_ble_eq_true n,c⟩) (d m H)⟩
def eNil{K:Qqq}:Enf a K [] [] []:=⟨[],[],.nil,.nil,λ_ _=>qz8⟩
def eCons{K:Qqq}:Vof K u d->Enf g K es ks ds->Enf g K (⟨PyData.keyHash g k,.str k t,u⟩::es) (k::ks) (d::ds)
 |⟨v,a,b⟩,⟨us,vs,e,c,f⟩=>⟨_,v::vs,.cons e,.cons a c,λm H=>qzm (b m H) (f m H)⟩
inductive GlK (K:Qqq) (q:Y4×D):Prop
 |mk {v:Y8}(g:Qx9 K mainGlobals q.1=Y (Y v)) (h:Vof K v q.2):GlK K q
inductive GdK (prm:Qr) (K:Qqq) (q:Y4×L Y4×L D):Prop
 |mk {a:Y7}{es:L Q3}{ep:Y0}(g:Qx9 K mainGlobals q.1=Y (Y (.ref a))) (l:K.lookup a=Y { cls:=.type "dict",data:=.dict es.toArray ep }) (h:Enf prm K es q.2.1 q.2.2) (n:(a==Qm)=Y5):GdK prm K q
noncomputable def gloOk(g:Glo):Bool:=(g.ats.all λq=>g.cl.any λz=>z.2==q.1)&&g.ds.all λq=>ndB q.2.1
def glo_mo{K:Qqq}(X:K.In h)(G:h.Ns mainGlobals mg)(hc:gloOk glo=O)(r:∀q∈glo.ds,GdK prm K q)(p:∀q∈glo.cs,GlK K q)(j:∀q∈glo.cl,ClK K q.1 q.2)(o:∀q∈glo.ats,PySem.W.findIn K (.ref q.1) q.2=Y B)(z:∀x∈bNm,Qx9 K mainGlobals x=Y B):Mo K mg glo prm:=by
 refine aDk hc λc1 c2=>⟨λs C i=>(j _ i).mo X G,λC f i=>⟨?_,o _ i⟩,λx ks ds i=>?_,λx d i=>?_,λx i=>PySem.W.mg_none_of X G (z x i)⟩
 ·obtain⟨y,m,e⟩:=Qjy.mp (Qzx.mp c1 _ i);have e:=eq_of_beq e;subst e;exact(j _ m).cls
 ·cases r _ i with
  |mk g l q n=>
   obtain⟨k,vs,e,c,d⟩:=q.ex;exact⟨_,Qjv X G g,⟨k,vs,_,_,l,e,c,d⟩,qaw (Qzx.mp c2 _ i),n⟩
 ·cases p _ i with
  |mk g q=>
   obtain⟨v,a,b⟩:=q.ex;exact⟨_,v,Qjv X G g,a,b⟩
def law_mk{l:PySem.W.OpenLaw}{K:Qqq}{st:Stmt}(X:K.In h)(G:h.Ns mainGlobals mg)(d:mg x=Y (.ref e))(hi:t[i]?=Y (B,x,x,st,o))(m:argN st=[y])(p:glo.ms=msT 0 t)(hb:∀r∈t,Bd r)(hc:(t.all rwOk&&gloOk glo)=O)(ok:∀ns:L J,ns.length<=63->∃st',M.callD (fnsT (t.map (·.2.2.1)) glo t) (n+1) i [.lst (ns.map D.int)] []=Y (.bl O,st'))(hs:∀r∈t,RwK K r)(E:∀q∈glo.ds,GdK w.params K q)(C:∀q∈glo.cs,GlK K q)(A:∀q∈glo.cl,ClK K q.1 q.2)(u:∀q∈glo.ats,PySem.W.findIn K (.ref q.1) q.2=Y B)(z:∀x∈bNm,Qx9 K mainGlobals x=Y B):∃fd:Qp,(∀(s:Qz) (v:Y8),BindsTo s fd ⟨[v],[]⟩ [(y,v)])/\∀base:Heap,K.In base->base.Ns mainGlobals mg->FnOk l.prog w K mg base CX0 (2*(n+1)) e fd [y] (qlb K):=by
 refine aDk hc λc1 c2=>?_;have f:=glo_mo X G c2 E C A u z;have T:=qf2 X G p hs hb c1;have j:=Qqe hi;have b:=hb _ j;have s:=qcs (aD (Qzx.mp c1 _ j)).1
 cases hs _ j with
 |fn a g c k=>
  cases d.symm.trans (Qjv X G a);have F:=λbase=>(qic (P:=l.prog) (base:=base) (tab_ok T f _) f (by unfold fnsT; rw[Qqw,hi]; rfl) (qwg g c k) s (qk7 (qyr 30) 12 _) rfl rfl).imp (law_sp ok);have b:=b;dsimp only[Bd]at b;rw[m]at F b;exact⟨_,λs v=>.of_eq (b _ _ _ _ _ _ [v] rfl),λbase _ _=>F base⟩
end MS
end
open M.D renaming int->Z,loc->Y1,tup->Y9,lst->Yc
open M.Yb renaming lst->Y6
open M.E renaming var->Yd
section
namespace K27
open PySem L2 MS
open M (D Fn)
noncomputable abbrev tF(x:Y4)(i:Y0)(l:Orc):Rw:=(B,x,x,top i,l)
noncomputable abbrev tM(C:Y7)(m x:Y4)(i j:Y0)(l:Orc):Rw:=(Y C,m,x,cb (top i) j,l)
noncomputable def tab:L Rw:=[tF "inside" 6 [],
 tF "has_one" 7 [(1,[12015052])],
 tF "can_part" 8 [],
 tF "parted" 9 [],
 tF "in_ground" 10 [],
 tF "climbed" 21 [],
 tF "met_columns" 22 [(1290,[54012028,55012030,58022034]),(2,[57037050])],
 tF "columns_at" 23 [(1290,[61021033]),(1291,[65016029]),(2,[66008017,67051060]),(1,[67021061])],
 tF "ground_of" 25 [(1290,[71011029])],
 tF "outcrop" 26 [(1290,[73011030])],
 tF "outcrops" 27 [],
 tF "covers" 28 [],
 tF "standing_grounds" 30 [(1291,[80058074])],
 tF "ranked" 31 [],
 tF "heirs" 32 [(1,[91012052,91028051,92018041])],
 tF "counted" 38 [],
 tF "through" 39 [(1,[113011030])],
 tM 287 "__init__" "Claim.__init__" 41 0 [(580,[118008018,119008019,120008017,121008017,122008019,123008018])],
 tM 287 "piece" "Claim.piece" 41 1 [(580,[126042051,126054063,127008020,127023034])],
 tM 287 "state" "Claim.state" 41 3 [(580,[134011021,136017026,138011022])],
 tM 369 "__init__" "Claims.__init__" 42 0 [(744,[144008017,145008017,146008016])],
 tM 369 "names" "Claims.names" 42 1 [(744,[149020029])],
 tM 369 "named" "Claims.named" 42 2 [(2,[152011032,154015030]),(744,[152023032,154015024])],
 tM 369 "standing" "Claims.standing" 42 3 [(744,[157033041,157045054]),(2,[157045060]),(580,[157045071])],
 tM 369 "stake" "Claims.stake" 42 4 [(744,[160008017,160059068,161008037]),(2,[160008022]),(1,[160070075])],
 tM 369 "vest" "Claims.vest" 42 5 [(744,[164016025,167012020]),(2,[164016031]),(580,[165011027,165054066,166012024])],
 tM 369 "vest_all" "Claims.vest_all" 42 6 [(745,[170020032]),(744,[171012042])],
 tM 369 "change" "Claims.change" 42 7 [(2,[175011032,177016031]),(744,[175023032,177016025,181019039,184033042]),(580,[178011027,183012022,184012022,184044054,186012023,188012023])],
 tM 369 "part" "Claims.part" 42 8 [(744,[192016025,197008017,199012020,199028036]),(2,[192016034,197008022]),(580,[193024036,196008020,197025056,198011023])],
 tF "bounds" 52 [],
 tF "fits" 53 [],
 tF "all_fit" 54 [(1,[223015079]),(2,[223028039])],
 tF "is_cell" 55 [(1,[225040072])],
 tF "good_steps" 56 [(1,[227040081])],
 tF "good_outcrops" 57 [(1,[231015059])],
 tF "sound_vein" 58 [],
 tF "numbers_agree" 59 [],
 tF "sound" 60 [(1,[247011049])],
 tF "check_district" 66 [],
 tF "check_day" 67 [],
 tM 642 "__init__" "Field.__init__" 68 0 [(1290,[263008019,264008017,265008016,266008018,267008019,268008019,269008016,270008018]),(4,[269019021])],
 tM 642 "enter" "Field.enter" 68 1 [(1290,[274021032,276018026,278008016,279015032])],
 tM 642 "answer" "Field.answer" 68 2 [(1290,[283019040,285019040,287019041,289019039,291019039,292015026,292034042]),(744,[292015049])],
 tM 642 "enter_vein" "Field.enter_vein" 68 3 [(1290,[295008018,295019027,296008019,296029037]),(2,[295008028]),(744,[296008047])],
 tM 642 "enter_join" "Field.enter_join" 68 4 [(2,[302011033,302037060,306011030,308008025]),(1290,[302023033,302050060,306019030,308008019])],
 tM 642 "enter_stake" "Field.enter_stake" 68 5 [(2,[313008048,314028044]),(1290,[313020030,314028038,315008019,315026034]),(744,[315008065])],
 tM 642 "pass_to" "Field.pass_to" 68 10 [(1290,[343017025,345008016])],
 tM 642 "size" "Field.size" 68 12 [(1290,[351015026])],
 tM 642 "veins" "Field.veins" 68 14 [(1290,[357020030])],
 tM 642 "vein" "Field.vein" 68 16 [(2,[363011033,365015031]),(1290,[363023033,365015025])],
 tM 642 "joined" "Field.joined" 68 17 [(2,[368011033]),(1290,[368023033,370015026])],
 tM 642 "claim" "Field.claim" 68 18 [(1290,[373016027]),(744,[373016039]),(580,[374016027,374029041,374043053,374055067,374069080])],
 tM 642 "standing" "Field.standing" 68 21 [(1290,[383015026,383036044]),(744,[383015045])],
 tF "_law_draw" 70 [],
 tF "_law_size" 71 [(1,[410017101,411017111,411030111])],
 tF "_law_term" 72 [(1,[415011085])],
 tF "_law_spots" 73 [],
 tF "_law_rect" 74 [(1,[422013127,422020126,423013131,423020130])],
 tF "_law_steps" 75 [(1,[426017135,426018039])],
 tF "_law_outs" 76 [(1,[432077090])],
 tF "_law_who" 77 [(1,[438054073])],
 tF "_law_pick" 78 [],
 tF "_law_vein" 79 [(1,[444075124])],
 tF "_law_claim_fact" 80 [(1,[452011129])],
 tF "_law_fact" 81 [(1,[455017105,456017116])],
 tF "_law_plan" 82 [(1,[466016029])],
 tF "_law_in" 83 [],
 tF "_law_model" 84 [(2,[477004028,478004028,479004029])],
 tF "_law_state" 85 [(2,[482017042,482017053,485007029]),(1,[487011033])],
 tF "_law_vest" 86 [(2,[489017042,489017053,491024046,492008030]),(1,[490007045,490068135])],
 tF "_law_at" 87 [(2,[494010052,494028052,494057081,494057097,495025049,495025065,496030054,496030070,498021045,498021061,499021045,499021061,502029052,502077100])],
 tF "_law_enter_part" 88 [(2,[506015037,507015040,507015059,515004029,515004039,517008030,517038060])],
 tF "_law_enter_claim" 89 [(2,[520007057,520032057,522017042,522017061,528024046,528049072,529029051,533024046]),(1,[523007053])],
 tF "_law_enter_join" 90 [(2,[536007056,536032056,536060109,536085109,540007052,540028052,542004028,542004047])],
 tF "_law_enter" 91 [(2,[545004026,551008032,551008042,552032057,555008033,555008043,555097120,556037061,557049073,557049089]),(1,[552025058,556030062])],
 tF "_law_played" 92 [(2,[564004026])],
 tF "_law_sorted" 93 [(1291,[567015036]),(1,[568020037,569021094,570025089,572016064,573024041])],
 tF "_law_passed" 94 [(1291,[579015036]),(1290,[582011043,582050082])],
 tF "_law_chosen" 95 [(1,[584022048,587026058,587026062]),(2,[587033057])],
 tF "law" 96 [(1,[596021101,597022078,599015052,599016018,600036130,600053130,605020083,605021049]),(1290,[602012040,604012054])]]
noncomputable def names:L Y4:=tab.map (·.2.2.1)
noncomputable def glo:Glo:=⟨[("COINS",.tup [.int 1,.int 1000000]),("DAYS",.tup [.int 1,.int 400]),("DEPTHS",.tup [.int 0,.int 12]),("FOLK",.tup [.int 1,.int 40]),("LEFT",.int 0),("LENGTHS",.tup [.int 1,.int 24]),("LINES",.tup [.int 1,.int 23]),("LOW",.int 3),("MOST_COLUMNS",.int 16),("MOVES",.tup [.tup [.int 0,.int 0],.tup [.int 1,.int 0],.tup [.int (-1),.int 0],.tup [.int 0,.int 1],.tup [.int 0,.int (-1)]]),("RIGHT",.int 2),("SIDES",.tup [.int 0,.int 1]),("STEPS",.tup [.int 0,.int 4]),("TERMS",.tup [.int 1,.int 400]),("TOP",.int 1)],[("ASKS",["join","stake","work","sell","part","give","dig","pay"],[.tup [.str "day",.str "day",.str "below"],.tup [.str "folk",.str "x",.str "y",.str "x",.str "y"],.tup [.str "day"],.tup [.str "day",.str "folk"],.tup [.str "day",.str "side",.str "line",.str "folk"],.tup [.str "day"],.tup [.str "folk",.str "x",.str "y",.str "x",.str "y",.str "floor",.str "coins"],.tup [.str "folk",.str "folk",.str "coins"]])],msT 0 tab,[("Claim",287),("Claims",369),("Field",642)],[(287,"days"),(287,"given"),(287,"ground"),(287,"last"),(287,"owner"),(287,"vested"),(369,"book"),(369,"row"),(369,"year"),(642,"day"),(642,"debts"),(642,"dug"),(642,"extent"),(642,"found"),(642,"joints"),(642,"staked"),(642,"year")]⟩
noncomputable def fns:L Fn:=fnsT names glo tab
end K27
end
section
namespace K27
open PySem (Str)
open M
noncomputable abbrev sO(x:String):D:=.str (Str.ofString x)
structure Cl where
 nm:J
 j:Y0
 o:J
 g:J×J×J×J
 ds:L J
 la:J
 v:Y2 J
 gv:Y2 J
noncomputable def oD:Y2 J->D
 |none=>.non
 |some i=>.int i
noncomputable def rD(g:J×J×J×J):D:=.tup [.int g.1,.int g.2.1,.int g.2.2.1,.int g.2.2.2]
noncomputable def Cl.cel(c:Cl)(x:D):Yb:=.obj 287 [("owner",.int c.o),("ground",rD c.g),("days",x),("last",.int c.la),("vested",oD c.v),("given",oD c.gv)]
noncomputable abbrev Cl.cell(c:Cl):Yb:=c.cel (.loc (c.j+8))
noncomputable def Cl.dl(c:Cl):Yb:=.lst O (c.ds.map .int)
structure Zt where
 s:D
 dg:L (D×D)
 es:L D
noncomputable def FS(sz:Zt)(T d:J)(fo jo bo:L (D×D))(ro:L D)(rest:Y3):Y3:=
 .obj 642 [("extent",sz.s),("year",.int T),("day",.int d),("found",.loc 1),("joints",.loc 2),("staked",.loc 3),("dug",.loc 6),("debts",.loc 7)]::.dic O fo::.dic O jo::.obj 369 [("year",.int T),("book",.loc 4),("row",.loc 5)]::.dic O bo::.lst O ro::.dic O sz.dg::.lst O sz.es::rest
def isN(h:o=B):isNon (oD o)=true:=by rw[h]; rfl
def isS(h:o=Y x):isNon (oD o)=false:=by rw[h]; rfl
def nnN(h:o=B):(!isNon (oD o))=false:=by rw[h]; rfl
def nnS(h:o=Y x):(!isNon (oD o))=true:=by rw[h]; rfl
section
variable {sz:Zt}{T d:J}{fo jo bo:L (D×D)}{ro:L D}{rest:Y3}
noncomputable def stW(c:Cl)(day:J):String:=if c.gv.isSome then "given" else if c.la<day then "fallen" else if c.v.isNone then "unvested" else "stands"
def qh1(m){S:Y3}(c)(day)(h:S[p]?=Y (c.cel y)):callD fns (m+1) 19 [Y1 p,Z day] S=Y (sO (stW c day),S):=by
 unfold stW
 cases hg:c.gv with
 |some x=>
  exact qzz 0 [] 1 (λq=>_/\_/\q) [.r (c.cel y),.b O] ⟨h,nnS hg,rfl⟩
 |none=>
  by_cases a:c.la<day
  ·rw[Z8 a];exact qzz 0 [] 1 (λq=>_/\_/\_/\_/\q) [.r (c.cel y),.b Y5,.r (c.cel y),.b O] ⟨h,nnN hg,h,Z5 a,rfl⟩
  ·rw[Z7 a]
   cases hv:c.v with
   |none=>exact qzz 0 [] 1 (λq=>_/\_/\_/\_/\_/\_/\q) [.r (c.cel y),.b Y5,.r (c.cel y),.b Y5,.r (c.cel y),.b O] ⟨h,nnN hg,h,Z6 a,h,isN hv,rfl⟩
   |some x=>exact qzz 0 [] 1 (λq=>_/\_/\_/\_/\_/\_/\q) [.r (c.cel y),.b Y5,.r (c.cel y),.b Y5,.r (c.cel y),.b Y5] ⟨h,nnN hg,h,Z6 a,h,isS hv,rfl⟩
def qqr(m)(c)(day)(h:rest[c.j+1]?=Y c.cell):callD fns (m+1) 19 [Y1 (c.j+9),Z day] (FS sz T d fo jo bo ro rest)=Y (sO (stW c day),FS sz T d fo jo bo ro rest):=qh1 m c day h
end
noncomputable def cD(p:J×J):D:=.tup [.int p.1,.int p.2]
noncomputable def inB(g:J×J×J×J)(p:J×J):Bool:=decide (g.1<=p.1)&&decide (p.1<=g.2.2.1)&&(decide (g.2.1<=p.2)&&decide (p.2<=g.2.2.2))
def qd8(hf:f=0\/f=66)(m)(st)(g)(p):callD fns (m+1) f [rD g,cD p] st=Y (.bl (inB g p),st):=by
 unfold inB
 by_cases h1:g.1<=p.1
 ·by_cases h2:p.1<=g.2.2.1
  ·by_cases a:g.2.1<=p.2
   ·by_cases b:p.2<=g.2.2.2
    ·rw[Z5 h1,Z5 h2,Z5 a,Z5 b];rcases hf with rfl|rfl<;>exact qzz 0 [] 1 (λq=>_/\_/\_/\_/\q) [.b O,.b O,.b O,.b O] ⟨Z5 h1,Z5 h2,Z5 a,Z5 b,rfl⟩
    ·rw[Z5 h1,Z5 h2,Z5 a,Z6 b];rcases hf with rfl|rfl<;>exact qzz 0 [] 1 (λq=>_/\_/\_/\_/\q) [.b O,.b O,.b O,.b Y5] ⟨Z5 h1,Z5 h2,Z5 a,Z6 b,rfl⟩
   ·rw[Z5 h1,Z5 h2,Z6 a,Bool.false_and];rcases hf with rfl|rfl<;>exact qzz 0 [] 1 (λq=>_/\_/\_/\q) [.b O,.b O,.b Y5] ⟨Z5 h1,Z5 h2,Z6 a,rfl⟩
  ·rw[Z5 h1,Z6 h2];rcases hf with rfl|rfl<;>exact qzz 0 [] 1 (λq=>_/\_/\q) [.b O,.b Y5] ⟨Z5 h1,Z6 h2,rfl⟩
 ·rw[Z6 h1];rcases hf with rfl|rfl<;>exact qzz 0 [] 1 (λq=>_/\q) [.b Y5] ⟨Z6 h1,rfl⟩
def qwe(m)(st)(g)(p):callD fns (m+1) 0 [rD g,cD p] st=Y (.bl (inB g p),st):=qd8 (.inl rfl) m st g p
theorem asB:∀bs:L Ya,asBools (bs.map .bl)=Y bs
 |[]=>rfl
 |b::r=>by show(asBools (r.map .bl)).map (b::·)=_; rw[asB r]; rfl
def nlB(bs:L Ya):noLocs (bs.map .bl)=true:=qzg λ_ _=>rfl
def qvz(h:τ[i]?=Y (Y q))(a:rowAt st q=Y ds):∃s,src (RL c) τ st (.var i)=Y (s,st)/\(∀i,s.at st i=Y ds[i]?)/\s.size st=ds.length:=by
 have e:=qqo c τ st (.var i) (q,st) (by show(match τ[i]? with|some (Y d)=>Y (d,st)|_=>B)=_; rw[h])
 cases q with
 |tup xs=>
  cases a;exact⟨.tup ds,by show((RL c).ev τ st (.var i)).bind _=_; rw[e]; rfl,λi=>rfl,rfl⟩
 |lst xs=>
  have a:=a;exact⟨.lst (.lst xs),by show((RL c).ev τ st (.var i)).bind _=_; rw[e]; rfl,qqq a,qzn a⟩
 |loc l=>
  have a:seqAt st (Y1 l)=Y ds:=a;exact⟨.lst (Y1 l),by show((RL c).ev τ st (.var i)).bind _=_; rw[e]; show(seqAt st (Y1 l)).map _=_; rw[a]; rfl,qqq a,qzn a⟩
 |_=>cases a
def qxg{α:Type}(xs:L α)(f g:α->D)(h:τ[i]?=Y (Y q))(l:rowAt st q=Y (xs.map f))(m:xs.length<lim)(b:inner sr τ=B::a)(n:∀x∈xs,(RL c).ev (Y (f x)::a) st elt=Y (g x,st)):
  stepEv (RL c) τ st (.comp ?D (Yd i) B elt sr)=Y (Y1 st.length,st++[Y6 O (xs.map g)]):=by
 obtain⟨s,h1,h2,o⟩:=qvz h l;refine qjj h1 h2 o b (by simp) (by simpa using m) λk d e hd hg=>?_;rw[Qqw]at hd hg;obtain⟨x,j,rfl⟩:=Qqd.mp hd;rw[j]at hg;cases hg;exact n x (Qqe j)
noncomputable def hasB(g:J×J×J×J)(ps:L (J×J)):Bool:=ps.any (inB g)
def qia(m)(a:rowAt st q=Y ?g)(b:ps.length<lim):callD fns (m+2) 1 [rD g,q] st=Y (.bl (hasB g ps),st):=by
 have h1:=qxg (c:=callD fns (m+1)) (τ:=[Y (rD g),Y q]) (i:=1) (elt:=.call 0 [Yd 1,Yd 0]) (sr:=[B,Y 0]) ps cD (λp=>.bl (inB g p)) rfl a b rfl λp _=>qzw 0 [0] 1 (λq=>_/\q) [.c (.bl (inB g p),st)] ⟨qwe m st g p,rfl⟩;have e:ps.map (λp=>D.bl (inB g p))=(ps.map (inB g)).map .bl:=by rw[Qqo]; rfl
 rw[e]at h1;have d:bfun st .any [Yc ((ps.map (inB g)).map .bl)]=Y (.bl (hasB g ps),st):=by
  show(asBools _).map _=_;rw[asB];simp[hasB,List.any_map,Function.comp_def]
 exact qzz 0 [] 2 (λq=>_/\_/\_/\q) [.c (Y1 st.length,st++[Y6 O ((ps.map (inB g)).map .bl)]),.l ((ps.map (inB g)).map .bl),.c (.bl (hasB g ps),st)] ⟨h1,qzb (st:=st) (nlB (ps.map (inB g))),d,rfl⟩
def gl{c:Yb}:(st++[c])[st.length]?=Y c:=by simp
def sl{c:Yb}:(st++[c]).set st.length c'=st++[c']:=by simp
def qz4{ds:L D}(P:Y0->Sl->Y3->Prop)(i:src (RL c) τ st it=Y (s,st))(h:s.size st=ds.length)(g:∀k a st',P k a st'->s.at st' k=Y ds[k]?)(j:P 0 τ st)(hs:∀k a st' d,ds[k]?=Y d->P k a st'->∃b e,((setT t d a).bind λf=>(RL c).ex f st' body)=Y (.nx b,e)/\P (k+1) b e):
  ∃a st',stepEx (RL c) τ st (.forr t it body)=Y (.nx a,st')/\P ds.length a st':=by
 obtain⟨a,st',m,l⟩:=qaa P j h g hs;refine⟨a,st',?_,l⟩;show(src (RL c) τ st it).bind _=_;rw[i];exact m
def qea(P:Y0->Sl->Y3->Prop)(h:τ[i]?=Y (Y q))(o:P 0 τ st)(m:∀k a st',P k a st'->rowAt st' q=Y ds)(hs:∀k a st' d,ds[k]?=Y d->P k a st'->∃f g,((setT t d a).bind λj=>(RL c).ex j st' body)=Y (.nx f,g)/\P (k+1) f g):
  ∃a st',stepEx (RL c) τ st (.forr t (.var i) body)=Y (.nx a,st')/\P ds.length a st':=by
 have e:=qqo c τ st (.var i) (q,st) (by show(match τ[i]? with|some (Y d)=>Y (d,st)|_=>B)=_; rw[h]);have b:∀s:Src,src (RL c) τ st (.var i)=Y (s,st)->s.size st=ds.length->(∀k a st',P k a st'->s.at st' k=Y ds[k]?)->∃a st',stepEx (RL c) τ st (.forr t (.var i) body)=Y (.nx a,st')/\P ds.length a st':=λs h1 h2 p=>qz4 P h1 h2 p o hs;have h1:=m 0 τ st o
 cases q with
 |tup xs=>
  cases h1;exact b (.tup ds) (by show((RL c).ev τ st (.var i)).bind _=_; rw[e]; rfl) rfl λk a st' _=>rfl
 |lst xs=>
  exact b (.lst (.lst xs)) (by show((RL c).ev τ st (.var i)).bind _=_; rw[e]; rfl) (qzn h1) λk a st' n=>qqq (show seqAt st' (.lst xs)=_ from m k a st' n) k
 |loc l=>
  have h1:seqAt st (Y1 l)=Y ds:=h1;exact b (.lst (Y1 l)) (by show((RL c).ev τ st (.var i)).bind _=_; rw[e]; show(seqAt st (Y1 l)).map _=_; rw[h1]; rfl) (qzn h1) λk a st' n=>qqq (show seqAt st' (Y1 l)=_ from m k a st' n) k
 |_=>cases h1
def qya(h:ks≠[]):idxD (st++[.lst w (ks.map Z)]) ?B (Z (-1))=Y (Z (ks.getLast h)):=by
 have a:=Qxl.mpr h;show(seqAt (st++[.lst w (ks.map Z)]) ?B).bind _=_;have:seqAt (st++[.lst w (ks.map Z)]) ?B=Y (ks.map Z):=by show listAt _ _=_; unfold listAt; rw[gl]
 rw[this];show atI (ks.map D.int) (-1)=_;unfold atI ixN;rw[Z7 (by decide),Z8 (by simp; lia)];simp only[oBs,Qqz];rw[show(-1+(ks.length:J)).toNat=ks.length - 1 by lia,Qqw,List.getLast_eq_getElem,Qqh (by lia)]
 rfl
noncomputable def chS(T:J)(ks:L J)(x:J):L Int:=if h:ks=[] then [x] else if x<=ks.getLast h+T then ks++[x] else ks
def chS_ne(T)(ks)(x):chS T ks x≠[]:=by
 unfold chS
 split
 ·exact List.cons_ne_nil _ _
 ·rename_i h
  split
  ·simp
  ·exact h
theorem qir{T:J}:∀{xs ks},xs≠[]\/ks≠[]->xs.foldl (chS T) ks≠[]
 |[],_,h=>h.resolve_left λz=>z rfl
 |x::r,ks,_=>qir (xs:=r) (.inr (chS_ne T ks x))
def qbr(m){T:J}{xs:L J}(y:xs.length<1000)(v:∀r,rowAt (st++r) q=Y (xs.map Z)):callD fns (m+1) 15 [Z T,q] st=Y (Y1 st.length,st++[Y6 O ((xs.foldl (chS T) []).map Z)]):=by
 obtain⟨f,st',h1,k,o,ks,rfl,rfl,u,z⟩:=qea (c:=callD fns m) (i:=1) (t:=.var 3) (body:=[.ite (.or (.not (.var 2)) (.cmp .LtE (.var 3) (.bin .Add (.idx (.var 2) (.neg (.lit (Z 1)))) ?D))) [.expr (.meth (.var 2) .append [.var 3])] []])
  (λk f st'=>k<=xs.length/\∃o ks,f=[Y (Z T),Y q,Y ?B,o]/\st'=st++[Y6 O ((ks:L J).map Z)]/\ks=(xs.take k).foldl (chS T) []/\ks.length<=k)
  rfl ⟨Qza _,B,[],rfl,rfl,rfl,Qqv _⟩ (λk f st' h=>by obtain⟨_,o,ks,_,rfl,_⟩:=h; exact v _) (λk f st' d hd h=>by
   obtain⟨hk,o,ks,rfl,rfl,h1,h2⟩:=h;rw[Qqw]at hd;obtain⟨x,n,rfl⟩:=Qqd.mp hd;have j:=(Qqk.mp n).1;have tk:(xs.take (k+1)).foldl (chS T) []=chS T ks x:=by rw[Qjo,n,Qjk,<- h1]; rfl
   have g:(ks.map D.int).length<lim:=by simp; unfold lim; lia
   have s:(st++[Yb.lst O (ks.map Z)]).set st.length (Y6 O (ks.map Z++[Z x]))=st++[Y6 O ((ks++[x]).map Z)]:=by rw[sl]; simp
   have l:=gl (st:=st) (c:=Y6 O (ks.map Z))
   by_cases e:ks=[]
   ·subst e;exact⟨[Y (Z T),Y q,Y ?B,Y (Z x)],(st++[Yb.lst O []]).set st.length (Y6 O [Z x]),qze 0 [] 0 (λq=>_/\_/\_/\_/\q) [.r (Y6 O []),.k,.r (Y6 O []),.r (Y6 O []),.b O] ⟨l,l,l,Z5 g,rfl⟩,j,Y (Z x),[x],rfl,sl,tk.symm,by simp⟩
   ·have p:(!(ks.map D.int).isEmpty)=true:=by cases ks with|nil=>exact absurd rfl e|cons a b=>rfl
    by_cases hc:x<=ks.getLast e+T
    ·exact⟨[Y (Z T),Y q,Y ?B,Y (Z x)],(st++[Yb.lst O (ks.map Z)]).set st.length (Y6 O (ks.map Z++[Z x])),qze 0 [] 0 (λq=>_/\_/\_/\_/\_/\_/\_/\q) [.r (Y6 O (ks.map Z)),.b O,.i (Z (ks.getLast e)),.b O,.r (Y6 O (ks.map Z)),.r (Y6 O (ks.map Z)),.b O] ⟨l,p,qya (st:=st) (w:=O) e,Z5 hc,l,l,Z5 g,rfl⟩,j,Y (Z x),ks++[x],rfl,s,by rw[tk]; unfold chS; rw[dif_neg e,Z8 hc],by simp; lia⟩
    ·exact⟨[Y (Z T),Y q,Y ?B,Y (Z x)],st++[Y6 O (ks.map Z)],qze 0 [] 0 (λq=>_/\_/\_/\_/\q) [.r (Y6 O (ks.map Z)),.b O,.i (Z (ks.getLast e)),.b Y5] ⟨l,p,qya (st:=st) (w:=O) e,Z6 hc,rfl⟩,j,Y (Z x),ks,rfl,rfl,by rw[tk]; unfold chS; rw[dif_neg e,Z7 hc],by lia⟩)
 rw[Qqz,Qzm]at u;rw[<- u];exact qzz 0 [] 1 (λq=>_/\q) [.s (.nx [Y (Z T),Y q,Y ?B,o],st++[Y6 O (ks.map Z)])] ⟨h1,rfl⟩
def nlI(ks:L J):noLocs (ks.map Z)=true:=qzg λ_ _=>rfl
noncomputable def thr(T:J)(xs:L J):Int:=(xs.foldl (chS T) []).getLast?.getD 0+T
def qkd(m){T:J}(a:xs≠[])(c:xs.length<1000)(b:∀r,rowAt (st++r) q=Y (xs.map Z)):callD fns (m+2) 16 [Z T,q] st=Y (Z (thr T xs),st):=by
 have h2:=qbr m (T:=T) c b;have h1:=qir (T:=T) (xs:=xs) (ks:=[]) (.inl a);unfold thr;generalize xs.foldl (chS T) []=ks at h1 h2;rw[Qjm h1];have e:idxD st (.lst (ks.map Z)) (Z (-1))=Y (Z (ks.getLast h1)):=by
  have:=qya (st:=[]) (w:=O) h1;exact this
 exact qzz 0 [15] 2 (λq=>_/\_/\_/\q) [.c (Y1 st.length,st++[Y6 O (ks.map Z)]),.l (ks.map Z),.i (Z (ks.getLast h1))] ⟨h2,qzb (st:=st) (nlI ks),e,rfl⟩
noncomputable def ik(st:Y3)(C:Y0)(F:L (Y4×D)):Y0->Y3
 |0=>st++[.obj C (F.take 0)]
 |k+1=>(ik st C F k).set st.length (.obj C (F.take (k+1)))
theorem qnc:∀k,ik st C F k=st++[.obj C (F.take k)]
 |0=>rfl
 |k+1=>by show(ik st C F k).set _ _=_; rw[qnc k,sl]
def ik_at(k):(ik st C F k)[st.length]?=Y (.obj C (F.take k)):=by rw[qnc k,gl]
noncomputable def clF(o:J)(g:J×J×J×J)(dl:D)(la:J):L (Y4×D):=[("owner",.int o),("ground",rD g),("days",dl),("last",.int la),("vested",.non),("given",.non)]
def cinit(m)(st)(o la)(g)(dl):callD fns (m+1) 17 [Y1 st.length,Z o,rD g,dl,Z la] (st++[.obj 287 []])=Y (.non,st++[.obj 287 (clF o g dl la)]):=by
 have h:=λk=>ik_at (st:=st) (C:=287) (F:=clF o g dl la) k;exact qvi 0 [] 1 (.non,ik st 287 (clF o g dl la) 6) (λq=>_/\_/\_/\_/\_/\_/\q) [.r (.obj 287 ((clF o g dl la).take 0)),.r (.obj 287 ((clF o g dl la).take 1)),.r (.obj 287 ((clF o g dl la).take 2)),.r (.obj 287 ((clF o g dl la).take 3)),.r (.obj 287 ((clF o g dl la).take 4)),.r (.obj 287 ((clF o g dl la).take 5))] ⟨h 0,h 1,h 2,h 3,h 4,h 5,by rw[qnc]; rfl⟩
structure InvK (K:Cl->Yb) (rest:Y3) (cs:L Cl):Prop where
 at_:∀c∈cs,rest[c.j]?=Y c.dl/\rest[c.j+1]?=Y (K c)
 pw:cs.Pairwise λa b=>a.j+1<b.j
 ne:∀c∈cs,c.ds≠[]/\c.ds.length<900
 nd:(cs.map (·.nm)).Nodup
abbrev Inv:=InvK Cl.cell
noncomputable def qzq(cs:L Cl):L (D×D):=cs.map λc=>(.int c.nm,.loc (c.j+9))
def InvK.inj(h:InvK K rest cs)(g:a∈cs)(hb:b∈cs)(e:a.nm=b.nm):a=b:=by
 have:=h.nd;clear h
 induction cs with
 |nil=>cases g
 |cons c r i=>
  rw[Qqm,Qq8]at this;rcases Qqy.mp g with rfl|f<;>rcases Qqy.mp hb with rfl|d
  ·rfl
  ·exact absurd (Qqj.mpr ⟨b,d,e.symm⟩) this.1
  ·exact absurd (Qqj.mpr ⟨a,f,e⟩) this.1
  ·exact i f d this.2
def qwl(a)(r)(n):dget (qzq (a::r)) (Z n)=bif a.nm==n then Y (Y1 (a.j+9)) else dget (qzq r) (Z n):=by
 unfold dget qzq;rw[Qqm,Qzb];show Option.map _ (match (a.nm==n) with|true=>_|false=>_)=_;cases a.nm==n<;>rfl
def qeo(h:∀c∈cs,c.nm≠n):dget (qzq cs) (Z n)=none:=by
 induction cs with
 |nil=>rfl
 |cons c r a=>
  rw[qwl,beq_false_of_ne (h c (.head _))];exact a λc hc=>h c (.tail _ hc)
def qar(h:c∈cs)(b:(cs.map (·.nm)).Nodup):dget (qzq cs) (Z c.nm)=Y (Y1 (c.j+9)):=by
 induction cs with
 |nil=>cases h
 |cons a r d=>
  rw[qwl];rw[Qqm,Qq8]at b;rcases Qqy.mp h with rfl|h'
  ·rw[beq_self_eq_true]; rfl
  ·rw[beq_false_of_ne λe=>b.1 (Qqj.mpr ⟨c,h',e.symm⟩)];exact d h' b.2
def InvK.get(h:InvK K rest cs)(hc:c∈cs):dget (qzq cs) (Z c.nm)=Y (Y1 (c.j+9)):=qar hc h.nd
def InvK.apart(h:InvK K rest cs)(g:a∈cs)(hb:b∈cs)(e:a.nm≠b.nm):a.j+1<b.j\/b.j+1<a.j:=by
 have:=h.pw;clear h
 induction cs with
 |nil=>cases g
 |cons c r i=>
  rw[Qze]at this;rcases Qqy.mp g with rfl|f<;>rcases Qqy.mp hb with rfl|d
  ·exact absurd rfl e
  ·exact .inl (this.1 b d)
  ·exact .inr (this.1 a f)
  ·exact i f d this.2
noncomputable def upd(cs:L Cl)(c':Cl):L Cl:=cs.map λx=>if x.nm=c'.nm then c' else x
def qqd(hc:c∈cs)(a:(cs.map (·.nm)).Nodup)(e:c'.nm=c.nm)(j:c'.j=c.j):qzq (upd cs c')=qzq cs:=by
 unfold qzq upd;rw[Qqo];refine Qzo λx f=>?_;show(D.int (if x.nm=c'.nm then c' else x).nm,D.loc ((if x.nm=c'.nm then c' else x).j+9))=_
 by_cases h:x.nm=c'.nm
 ·have g:x=c:=by
   have:∀{l:L Cl},(l.map (·.nm)).Nodup->x∈l->c∈l->x.nm=c.nm->x=c:=λ{l} a f hc e=>by
    induction l with
    |nil=>cases f
    |cons y r i=>
     rw[Qqm,Qq8]at a;rcases Qqy.mp f with rfl|b<;>rcases Qqy.mp hc with rfl|d
     ·rfl
     ·exact absurd (Qqj.mpr ⟨c,d,e.symm⟩) a.1
     ·exact absurd (Qqj.mpr ⟨x,b,e⟩) a.1
     ·exact i a.2 b d
   exact this a f hc (h.trans e)
  rw[Z8 h,e,j,g]
 ·rw[Z7 h]
def qxi:(upd cs c').map (·.nm)=cs.map (·.nm):=by
 unfold upd;rw[Qqo];refine Qzo λx _=>?_;show(if x.nm=c'.nm then c' else x).nm=x.nm
 by_cases h:x.nm=c'.nm
 ·rw[Z8 h,h]
 ·rw[Z7 h]
def InvK.put(h:InvK K rest cs)(hc:c∈cs)(e:c'.nm=c.nm)(i:c'.j=c.j)(hd:c'.ds≠[]/\c'.ds.length<900):InvK K ((rest.set c.j c'.dl).set (c.j+1) (K c')) (upd cs c'):=by
 have lt:=(Qqk.mp (h.at_ c hc).2).1;refine⟨λx f=>?_,?_,λx f=>?_,by rw[qxi]; exact h.nd⟩
 ·obtain⟨y,d,rfl⟩:=Qqj.mp f
  by_cases hn:y.nm=c'.nm
  ·rw[Z8 hn,i];constructor
   ·rw[Qqr (by lia),Qq5 (by lia)]
   ·rw[Qq5 (by rw[Qzs]; lia)]
  ·rw[Z7 hn];have:=h.at_ y d;rcases h.apart d hc (λz=>hn (z.trans e.symm)) with z|z
   ·exact⟨by rw[Qqr (by lia),Qqr (by lia)]; exact this.1,by rw[Qqr (by lia),Qqr (by lia)]; exact this.2⟩
   ·exact⟨by rw[Qqr (by lia),Qqr (by lia)]; exact this.1,by rw[Qqr (by lia),Qqr (by lia)]; exact this.2⟩
 ·unfold upd;rw[Qjx];have g:∀y∈cs,(if y.nm=c'.nm then c' else y).j=y.j:=λy d=>by
   by_cases hn:y.nm=c'.nm
   ·rw[Z8 hn,i,h.inj d hc (hn.trans e)]
   ·rw[Z7 hn]
  refine List.Pairwise.imp_of_mem (λ{a b} j hb z=>?_) h.pw;rw[g a j,g b hb];exact z
 ·obtain⟨y,d,rfl⟩:=Qqj.mp f
  by_cases hn:y.nm=c'.nm
  ·rw[Z8 hn]; exact hd
  ·rw[Z7 hn]; exact h.ne y d
def InvK.cell(h:InvK K rest cs)(hc:c∈cs)(e:c'.nm=c.nm)(a:c'.j=c.j)(hd:c'.ds=c.ds):InvK K (rest.set (c.j+1) (K c')) (upd cs c'):=by
 have:=h.put hc e a (hd▸h.ne c hc);have lt:=(Qqk.mp (h.at_ c hc).2).1;have z:rest.set c.j c'.dl=rest:=by
  apply List.ext_getElem?;intro i
  by_cases hi:c.j=i
  ·subst hi;rw[Qq5 (by lia),(h.at_ c hc).1];unfold Cl.dl;rw[hd]
  ·rw[Qqr hi]
 rwa [z]at this
def InvK.more(h:InvK K rest cs)(r):InvK K (rest++r) cs:=
 ⟨λc hc=>⟨by rw[Qq2 (Qqk.mp (h.at_ c hc).1).1]; exact(h.at_ c hc).1,by rw[Qq2 (Qqk.mp (h.at_ c hc).2).1]; exact(h.at_ c hc).2⟩,h.pw,h.ne,h.nd⟩
def InvK.add(h:InvK K rest cs)(c)(g:c.j=rest.length)(f:∀x∈cs,x.nm≠c.nm)(hd:c.ds≠[]/\c.ds.length<900):InvK K (rest++[c.dl,K c]) (cs++[c]):=by
 have m:=h.more [c.dl,K c];refine⟨λx d=>?_,?_,λx d=>?_,?_⟩
 ·rcases Qqi.mp d with d|d
  ·exact m.at_ x d
  ·cases Qqb.mp d;rw[g];constructor<;>simp
 ·rw[Qzi];refine⟨h.pw,Qjz ..,λa e b hb=>?_⟩;cases Qqb.mp hb;have:=(Qqk.mp (h.at_ a e).2).1
  lia
 ·rcases Qqi.mp d with d|d
  ·exact h.ne x d
  ·cases Qqb.mp d; exact hd
 ·rw[Qqc,Qzf];refine⟨h.nd,by simp,λa e b hb=>?_⟩;obtain⟨x,d,rfl⟩:=Qqj.mp e;simp only[Qqm,Qxv,Qqb]at hb;subst hb;exact f x d
def qjx(d:∀x∈cs,x.nm≠c.nm):dput (qzq cs) (Z c.nm) (Y1 (c.j+9))=qzq (cs++[c]):=by
 unfold dput;have:(qzq cs).any (λp=>eqT p.1 (Z c.nm))=false:=by
  rw[Qju];intro p b;obtain⟨x,a,rfl⟩:=Qqj.mp b;show ¬ (x.nm==c.nm)=O;simpa using d x a
 rw[this];simp[qzq]
def qw3{R:L Cl}(e:c'.nm=c.nm)(h:((A++c::R).map (·.nm)).Nodup):upd (A++c::R) c'=A++c'::R:=by
 rw[Qqc,Qqm,Qzf,Qq8]at h;have a:∀x∈A,x.nm≠c'.nm:=λx d=>by
  rw[e];exact h.2.2 _ (Qqj.mpr ⟨x,d,rfl⟩) _ (Qq3 ..)
 have b:∀x∈R,x.nm≠c'.nm:=λx d z=>h.2.1.1 (Qqj.mpr ⟨x,d,by rw[z,e]⟩);unfold upd;rw[Qqc,Qqm,Z8 e.symm];have g:A.map (λx=>if x.nm=c'.nm then c' else x)=A:=by
  conv=>rhs; rw[<- Qkw A]
  exact Qzo λx d=>Z7 (a x d)
 have f:R.map (λx=>if x.nm=c'.nm then c' else x)=R:=by
  conv=>rhs; rw[<- Qkw R]
  exact Qzo λx d=>Z7 (b x d)
 rw[g,f]
noncomputable abbrev rowD(ro:L J):L D:=ro.map .int
section
variable {sz:Zt}{T d:J}{fo jo:L (D×D)}{ro:L J}{rest:Y3}{cs:L Cl}
noncomputable abbrev FC(sz:Zt)(T d:J)(fo jo:L (D×D))(cs:L Cl)(ro:L J)(rest:Y3):Y3:=FS sz T d fo jo (qzq cs) (rowD ro) rest
def qz1(c)(day):(stW c day = "unvested"/\c.v=B/\c.gv=B/\day<=c.la)\/(stW c day = "stands"/\c.v≠B/\c.gv=B/\day<=c.la)\/(stW c day = "given"/\c.gv≠B)\/(stW c day = "fallen"/\c.la<day/\c.gv=B):=by
 unfold stW
 cases hg:c.gv with
 |some x=>exact .inr (.inr (.inl ⟨rfl,by simp⟩))
 |none=>
  by_cases a:c.la<day
  ·exact .inr (.inr (.inr ⟨by simp[a],a,rfl⟩))
  ·cases hv:c.v with
   |none=>exact .inl ⟨by simp[a],rfl,rfl,by lia⟩
   |some x=>exact .inr (.inl ⟨by simp[a],by simp,rfl,by lia⟩)
noncomputable def hit(day:J)(ps:L (J×J))(c:Cl):Bool:=decide (stW c day = "unvested")&&hasB c.g ps
noncomputable def vst(day:J)(ps:L (J×J))(c:Cl):Cl:=if hit day ps c then { c with v:=Y day } else c
def qb4(m)(I:Inv rest cs)(hc:c∈cs)(day)(f:rowAt ?l q=Y ?g)(i:ps.length<lim)(hr:ro.length<1000):
  callD fns (m+3) 25 [Y1 3,Z c.nm,Z day,q] ?l=Y (.non,if hit day ps c then FC sz T d fo jo cs (ro++[c.nm]) (rest.set (c.j+1) (vst day ps c).cell) else FC sz T d fo jo cs ro rest):=by
 have hs:=qqr (sz:=sz) (T:=T) (d:=d) (fo:=fo) (jo:=jo) (bo:=qzq cs) (ro:=rowD ro) (m+1) c day (I.at_ c hc).2;have hg:=I.get hc;have b:=qia m (g:=c.g) f i;have a:=(I.at_ c hc).2;have no:∀w,stW c day=w->(w = "stands"\/w = "given"\/w = "fallen")->hit day ps c=false:=λw e h=>by
  unfold hit;rw[e];rcases h with rfl|rfl|rfl<;>rfl
 rcases qz1 c day with⟨e,h1,h2,j⟩|⟨e,_⟩|⟨e,_⟩|⟨e,_⟩
 ·rw[e]at hs;have hi:hit day ps c=hasB c.g ps:=by unfold hit; rw[e]; rfl
  cases hb:hasB c.g ps with
  |true=>
   rw[hb]at hi b;have hv:vst day ps c={ c with v:=Y day }:=by unfold vst; rw[hi]; rfl
   rw[hi,Z8 rfl,hv];have el:rowD (ro++[c.nm])=rowD ro++[Z c.nm]:=by simp
   unfold FC;rw[el];exact qzz 8 [19,1] 3 (λq=>_/\_/\_/\_/\_/\_/\_/\q) [.q ?A,.r c.cell,.c (sO "unvested",FC sz T d fo jo cs ro rest),.r c.cell,.c (.bl O,FC sz T d fo jo cs ro rest),.r c.cell,.b O] ⟨hg,a,hs,a,b,a,Z5 (show(rowD ro).length<lim by simp; unfold lim; lia),rfl⟩
  |false=>
   rw[hb]at hi b;rw[hi,Z7 (by simp)];exact qzz 8 [19,1] 3 (λq=>_/\_/\_/\_/\_/\q) [.q ?A,.r c.cell,.c (sO "unvested",FC sz T d fo jo cs ro rest),.r c.cell,.c (.bl Y5,FC sz T d fo jo cs ro rest)] ⟨hg,a,hs,a,b,rfl⟩
 ·rw[no _ e (.inl rfl),Z7 (by simp)];rw[e]at hs;exact qzz 8 [19,1] 3 (λq=>_/\_/\_/\q) [.q ?A,.r c.cell,.c (sO "stands",FC sz T d fo jo cs ro rest)] ⟨hg,a,hs,rfl⟩
 ·rw[no _ e (.inr (.inl rfl)),Z7 (by simp)];rw[e]at hs;exact qzz 8 [19,1] 3 (λq=>_/\_/\_/\q) [.q ?A,.r c.cell,.c (sO "given",FC sz T d fo jo cs ro rest)] ⟨hg,a,hs,rfl⟩
 ·rw[no _ e (.inr (.inr rfl)),Z7 (by simp)];rw[e]at hs;exact qzz 8 [19,1] 3 (λq=>_/\_/\_/\q) [.q ?A,.r c.cell,.c (sO "fallen",FC sz T d fo jo cs ro rest)] ⟨hg,a,hs,rfl⟩
def qzo(day)(ps)(c):(vst day ps c).nm=c.nm/\(vst day ps c).j=c.j/\(vst day ps c).ds=c.ds:=by
 unfold vst;cases hit day ps c<;>exact⟨rfl,rfl,rfl⟩
noncomputable def rvF(K:Cl->Yb)(day:J)(ps:L (J×J))(r:Y3)(c:Cl):Y3:=if hit day ps c then r.set (c.j+1) (K (vst day ps c)) else r
def qi1(m)(I:Inv rest cs)(day)(ps)(w:ps.length<lim)(hr:ro.length+cs.length<1000):
  (∀sz:Zt,callD fns (m+4) 26 [Y1 3,Z day,.tup ?g] ?l=Y (.non,FC sz T d fo jo (cs.map (vst day ps)) (ro++(cs.filter (hit day ps)).map (·.nm)) (cs.foldl (rvF Cl.cell day ps) rest)))/\Inv (cs.foldl (rvF Cl.cell day ps) rest) (cs.map (vst day ps)):=by
 have b:∀sz:Zt,callD fns (m+4) 26 [Y1 3,Z day,.tup ?g] ?l=Y (.non,FC sz T d fo jo (cs.map (vst day ps)) (ro++(cs.filter (hit day ps)).map (·.nm)) (cs.foldl (rvF Cl.cell day ps) rest))/\Inv (cs.foldl (rvF Cl.cell day ps) rest) (cs.map (vst day ps)):=λsz=>by
  have bk:∀A R:L Cl,qzq (A.map (vst day ps)++R)=qzq (A++R):=λA R=>by
   unfold qzq;rw[Qqc,Qqc,Qqo]
   congr 1
   exact Qzo λc _=>by
    show(D.int (vst day ps c).nm,D.loc ((vst day ps c).j+9))=_;rw[(qzo day ps c).1,(qzo day ps c).2.1]
  have keys:keysOf (qzq cs)=cs.map λc=>D.int c.nm:=by unfold keysOf qzq; rw[Qqo]; rfl
  have n:(RL (callD fns (m+3))).ev [Y (Y1 3),Y (Z day),Y (.tup ?g),B] ?l (.gc (.mcall 369 21 "names" ?D []))=Y (.lst (cs.map λc=>D.int c.nm),FC sz T d fo jo cs ro rest):=by
   have g:=qzb (st:=FC sz T d fo jo cs ro rest) (ds:=keysOf (qzq cs)) (by rw[keys]; exact qzg λ_ _=>rfl);rw[<- keys];exact qzw 8 [] 3 (λq=>_/\q) [.l (keysOf (qzq cs))] ⟨g,rfl⟩
  obtain⟨a,st',h1,o,r',h2,u,s,j⟩:=qz4 (it:=.gc (.mcall 369 21 "names" ?D [])) (ds:=cs.map λc=>D.int c.nm) (t:=.var 3) (body:=[.expr (.mcall 369 25 "vest" ?D [.var 3,.var 1,.var 2])])
   (λk a st'=>∃o r',a=[Y (Y1 3),Y (Z day),Y (.tup ?g),o]/\st'=FC sz T d fo jo ((cs.take k).map (vst day ps)++cs.drop k) (ro++((cs.take k).filter (hit day ps)).map (·.nm)) r'/\Inv r' ((cs.take k).map (vst day ps)++cs.drop k)/\r'=(cs.take k).foldl (rvF Cl.cell day ps) rest)
   (by show((RL (callD fns (m+3))).ev _ _ _).bind _=_; rw[n]; rfl) (by simp[Src.size,seqAt]) (λk a st' h=>rfl) ⟨B,rest,rfl,by simp,by simpa using I,rfl⟩ (λk a st' x p h=>by
    obtain⟨o,r',rfl,rfl,i,j⟩:=h;rw[Qqw]at p;obtain⟨c,hc,rfl⟩:=Qqd.mp p;have hk:=(Qqk.mp hc).1;have f:=(Qqk.mp hc).2;have dr:cs.drop k=c::cs.drop (k+1):=by rw[Qxk hk,f]
    have tk:cs.take (k+1)=cs.take k++[c]:=by rw[Qzw hk,f]
    rw[dr]at i ⊢;have r:c∈(cs.take k).map (vst day ps)++c::cs.drop (k+1):=by simp
    have l:(ro++((cs.take k).filter (hit day ps)).map (·.nm)).length<1000:=by
     have:=Qz2 (hit day ps) (cs.take k);rw[Qqn,Qqz];rw[Qzv]at this
     lia
    have hv:=qb4 (sz:=sz) (T:=T) (d:=d) (fo:=fo) (jo:=jo) m i r day (q:=.tup ?g) rfl w l;generalize y:(if hit day ps c=O then _ else _:Y3)=v at hv;refine⟨[Y (Y1 3),Y (Z day),Y (.tup ?g),Y (Z c.nm)],v,qze 8 [25] 3 (λq=>_/\q) [.c (.non,v)] ⟨hv,rfl⟩,Y (Z c.nm),if hit day ps c then r'.set (c.j+1) (vst day ps c).cell else r',rfl,?_,?_,by rw[tk,Qjk,<- j]; rfl⟩
    ·rw[<- y]
     cases e:hit day ps c with
     |true=>
      have hb:qzq ((cs.take (k+1)).map (vst day ps)++cs.drop (k+1))=qzq ((cs.take k).map (vst day ps)++c::cs.drop (k+1)):=by rw[bk,bk,Qxe,<- dr,Qxe]
      rw[Z8 rfl,Z8 rfl];unfold FC;rw[hb,tk,Qxc,Qqc];simp[e]
     |false=>
      rw[Z7 (by simp),Z7 (by simp),tk,Qqc,Qxc,Qqc];have:vst day ps c=c:=by unfold vst; rw[e]; rfl
      simp[e,this]
    ·rw[tk,Qqc,Qq7];show Inv _ (List.map (vst day ps) (cs.take k)++vst day ps c::cs.drop (k+1))
     cases e:hit day ps c with
     |true=>
      have:=i.cell r (qzo day ps c).1 (qzo day ps c).2.1 (qzo day ps c).2.2;rwa [qw3 (qzo day ps c).1 i.nd]at this
     |false=>
      have:vst day ps c=c:=by unfold vst; rw[e]; rfl
      rw[this]
      exact i)
  simp only[Qqz,Qzm,Qj8,Qzj]at u s j;subst h2 u;rw[<- j];exact⟨qzz 8 [] 4 (λq=>_/\q) [.s (.nx [Y (Y1 3),Y (Z day),Y (.tup ?g),o],FC sz T d fo jo (cs.map (vst day ps)) (ro++(cs.filter (hit day ps)).map (·.nm)) r')] ⟨h1,rfl⟩,s⟩
 exact⟨λsz=>(b sz).1,(b ⟨.non,[],[]⟩).2⟩
end
section
variable {sz:Zt}{T d:J}{fo jo:L (D×D)}{ro:L J}{rest:Y3}{cs:L Cl}
theorem set2:∀{rest:Y3},(rest++[a,b]).set (rest.length+1) b'=rest++[a,b']
 |[]=>rfl
 |x::r=>congrArg (x::·) (set2)
def bk1(e:c'.nm=c.nm)(a:c'.j=c.j):qzq (cs++[c'])=qzq (cs++[c]):=by simp[qzq,e,a]
def qid(bo)(r)(s):(FS sz T d fo jo bo r s).length=s.length+8:=by simp[FS]
def qf7(m)(I:Inv rest cs)(dy o)(g)(l:∀bo r,rowAt (FS sz T d fo jo bo (rowD ro) (rest++r)) q=Y ?g)(n:ps.length<lim)(hr:ro.length+cs.length<900)(h:∀x∈cs,x.nm≠dy)(t:thr T [dy]=a):
  callD fns (m+4) 24 [Y1 3,Z dy,Z o,rD g,q] ?l=Y (.non,FC sz T d fo jo (cs++[vst dy ps ⟨dy,rest.length,o,g,[dy],a,B,B⟩]) (ro++if hit dy ps ⟨dy,rest.length,o,g,[dy],a,B,B⟩ then [dy] else []) (rest++[Y6 O [Z dy],(vst dy ps ⟨dy,rest.length,o,g,[dy],a,B,B⟩).cell]))/\
   Inv (rest++[Y6 O [Z dy],(vst dy ps ⟨dy,rest.length,o,g,[dy],a,B,B⟩).cell]) (cs++[vst dy ps ⟨dy,rest.length,o,g,[dy],a,B,B⟩]):=by
 have j:=qkd (m+1) (st:=FC sz T d fo jo cs ro (rest++[Y6 O [Z dy]])) (T:=T) (q:=Yc [Z dy]) (xs:=[dy]) (by simp) (by simp) (λr=>rfl);rw[t]at j;generalize hc:(⟨dy,rest.length,o,g,[dy],a,B,B⟩:Cl)=c;have c1:c.nm=dy:=by rw[<- hc]
 have c2:c.j=rest.length:=by rw[<- hc]
 have c3:c.dl=Y6 O [Z dy]:=by rw[<- hc]; rfl
 have c4:c.cell=.obj 287 (clF o g (Y1 (rest.length+8)) a):=by rw[<- hc]; rfl
 have b:=I.add c c2 (by rw[c1]; exact h) (by rw[<- hc]; simp);have V:=qzo dy ps c;have e:=cinit (m+2) (FC sz T d fo jo cs ro (rest++[Y6 O [Z dy]])) o a g (Y1 (rest.length+8));have hv:=qb4 m b (c:=c) (by simp) dy (l _ _) n (by lia);have i:FS sz T d fo jo (dput (qzq cs) (Z dy) (Y1 (FC sz T d fo jo cs ro (rest++[Y6 O [Z dy]])).length)) (rowD ro) (rest++[Y6 O [Z dy]]++[.obj 287 (clF o g (Y1 (rest.length+8)) a)])=FC sz T d fo jo (cs++[c]) ro (rest++[c.dl,c.cell]):=by
  have:(FC sz T d fo jo cs ro (rest++[Y6 O [Z dy]])).length=c.j+9:=by rw[qid,c2]; simp
  rw[this,<- c1,qjx (by rw[c1]; exact h),c1,<- c3,<- c4];simp
 rw[c1,<- i]at hv;have hg:=qzb (st:=FC sz T d fo jo cs ro (rest++[Y6 O [Z dy]])) (ds:=[Z dy]) rfl;generalize s:(if hit dy ps c=O then _ else _:Y3)=k at hv;have f:decide ((qzq cs).length<lim)=true:=Z5 (by unfold qzq lim; rw[Qqz]; lia);have run:callD fns (m+4) 24 [Y1 3,Z dy,Z o,rD g,q] ?l=Y (.non,k):=
  qzz 8 [16,17,25] 4 (λq=>_/\_/\_/\_/\_/\q) [.l [Z dy],.c (Z a,FC sz T d fo jo cs ro (rest++[Y6 O [Z dy]])),.c (.non,FC sz T d fo jo cs ro (rest++[Y6 O [Z dy]])++[.obj 287 (clF o g (Y1 (rest.length+8)) a)]),.b O,.c (.non,k)] ⟨hg,j,e,f,hv,rfl⟩
 rw[run,<- s];rw[i]
 cases p:hit dy ps c with
 |true=>
  have:=b.cell (by simp) V.1 V.2.1 V.2.2;rw[qw3 V.1 b.nd,c2,set2]at this;rw[c3]at this;refine⟨?_,this⟩;rw[Z8 rfl,Z8 rfl,c2,set2,c3];unfold FC;rw[bk1 V.1 V.2.1]
 |false=>
  have:vst dy ps c=c:=by unfold vst; rw[p]; rfl
  rw[this,<- c3];refine⟨?_,b⟩;rw[Z7 (by simp),Z7 (by simp),Qzj]
end
def over(day:J)(c:Cl):Prop:=c.gv≠B\/c.la<day
inductive Op (day:J):L Cl->L J->L Cl->L J->Prop
 |same {cs ro}:Op day cs ro cs ro
 |upd {cs ro c c'} (hc:c∈cs) (hn:c'.nm=c.nm) (hv:c'.v=c.v):Op day cs ro (upd cs c') ro
 |vein {cs ro} (ps:L (J×J)):Op day cs ro (cs.map (vst day ps)) (ro++(cs.filter (hit day ps)).map (·.nm))
 |stake {cs ro c} (ps:L (J×J)) (hn:c.nm=day) (hv:c.v=B):Op day cs ro (cs++[vst day ps c]) (ro++if hit day ps c then [day] else [])
 |part0 {cs ro c c' p} (hc:c∈cs) (hn:c'.nm=c.nm) (hv:c'.v=c.v) (pn:p.nm=day) (pv:p.v=c.v) (h:c.v=B):Op day cs ro (K27.upd cs c'++[p]) ro
 |part1 {cs ro c c' p A R} (hc:c∈cs) (hn:c'.nm=c.nm) (hv:c'.v=c.v) (pn:p.nm=day) (pv:p.v=c.v) (h:c.v≠B) (hr:ro=A++c.nm::R):Op day cs ro (K27.upd cs c'++[p]) (A++c.nm::day::R)
noncomputable def Cl.z(c:Cl):Cl:={ c with j:=0 }
def qvo(cs)(c):(upd cs c).map Cl.z=upd (cs.map Cl.z) c.z:=by
 unfold upd;rw[Qqo,Qqo];refine Qzo λx _=>?_
 show(if x.nm=c.nm then c else x).z=if x.nm=c.nm then c.z else x.z
 split<;>rfl
noncomputable def cutG(g:J×J×J×J)(s l:J):Y2 ((J×J×J×J)×(J×J×J×J)):=
 if s=0 then if g.1<l/\l<=g.2.2.1 then Y ((g.1,g.2.1,l - 1,g.2.2.2),(l,g.2.1,g.2.2.1,g.2.2.2)) else B
 else if g.2.1<l/\l<=g.2.2.2 then Y ((g.1,g.2.1,g.2.2.1,l - 1),(g.1,l,g.2.2.1,g.2.2.2)) else B
inductive Tr (T day:J) (zs:L Cl) (ro:L J):D->String->L Cl->L J->Prop
 |no {n w r} (h:∀c∈zs,c.nm≠n):Tr T day zs ro (.tup (sO w::.int n::r)) "noclaim" zs ro
 |over {c w r} (hc:c∈zs) (ho:over day c):Tr T day zs ro (.tup (sO w::.int c.nm::r)) "ended" zs ro
 |work {c} (hc:c∈zs) (ho:¬ K27.over day c):Tr T day zs ro (.tup [sO "work",.int c.nm]) "good" (upd zs { c with ds:=c.ds++[day],la:=day+T }) ro
 |give {c} (hc:c∈zs) (ho:¬ K27.over day c):Tr T day zs ro (.tup [sO "give",.int c.nm]) "good" (upd zs { c with gv:=Y day }) ro
 |sell {c o} (hc:c∈zs) (ho:¬ K27.over day c):Tr T day zs ro (.tup [sO "sell",.int c.nm,.int o]) "good" (upd zs { c with o:=o }) ro
 |nocut {c s l o} (hc:c∈zs) (ho:¬ K27.over day c) (hs:s=0\/s=1) (h:cutG c.g s l=B):Tr T day zs ro (.tup [sO "part",.int c.nm,.int s,.int l,.int o]) "nocut" zs ro
 |part {c s l o a b ro'} (hc:c∈zs) (ho:¬ K27.over day c) (hs:s=0\/s=1) (h:cutG c.g s l=Y (a,b)) (hr:c.v=B/\ro'=ro\/∃x A R,c.v=Y x/\ro=A++c.nm::R/\c.nm ∉ A/\ro'=A++c.nm::day::R):Tr T day zs ro (.tup [sO "part",.int c.nm,.int s,.int l,.int o]) "good" (upd zs { c with g:=a }++[⟨day,0,o,b,c.ds,c.la,c.v,B⟩]) ro'
def ix1:idxD st (Y9 (a::b::r)) (Z 1)=Y b:=by
 show atI (a::b::r) 1=_;unfold atI ixN;rw[Z8 (by decide),Z8 (by simp; lia)]
 rfl
section
variable {sz:Zt}{T d:J}{fo jo:L (D×D)}{ro:L J}{rest:Y3}{cs:L Cl}
def chg_no(m)(day n)(w)(r)(e:∀c∈cs,c.nm≠n):callD fns (m+1) 27 [Y1 3,Z day,Y9 (sO w::Z n::r)] ?l=Y (sO "noclaim",FC sz T d fo jo cs ro rest):=
 qzz 8 [] 1 (λq=>_/\_/\q) [.i (Z n),.q B] ⟨ix1 (st:=FC sz T d fo jo cs ro rest) (a:=sO w) (b:=Z n) (r:=r),qeo e,rfl⟩
def qhf(m)(I:Inv rest cs)(day)(w)(r)(hc:c∈cs)(g:over day c):callD fns (m+2) 27 [Y1 3,Z day,Y9 (sO w::Z c.nm::r)] ?l=Y (sO "ended",FC sz T d fo jo cs ro rest):=by
 have hs:=qqr (sz:=sz) (T:=T) (d:=d) (fo:=fo) (jo:=jo) (bo:=qzq cs) (ro:=rowD ro) m c day (I.at_ c hc).2;have hg:=I.get hc;have f:=(I.at_ c hc).2;rcases qz1 c day with⟨e,h1,h2,h⟩|⟨e,h1,h2,h⟩|⟨e,_⟩|⟨e,_⟩
 ·rcases g with z|z
  ·exact absurd h2 z
  ·lia
 ·rcases g with z|z
  ·exact absurd h2 z
  ·lia
 ·rw[e]at hs;exact qzz 8 [19] 2 (λq=>_/\_/\_/\_/\_/\q) [.i (Z c.nm),.q ?A,.q ?A,.r c.cell,.c (sO "given",FC sz T d fo jo cs ro rest)] ⟨ix1 (st:=FC sz T d fo jo cs ro rest) (a:=sO w) (b:=Z c.nm) (r:=r),hg,hg,f,hs,rfl⟩
 ·rw[e]at hs;exact qzz 8 [19] 2 (λq=>_/\_/\_/\_/\_/\q) [.i (Z c.nm),.q ?A,.q ?A,.r c.cell,.c (sO "fallen",FC sz T d fo jo cs ro rest)] ⟨ix1 (st:=FC sz T d fo jo cs ro rest) (a:=sO w) (b:=Z c.nm) (r:=r),hg,hg,f,hs,rfl⟩
def qxr(a:¬ over day c):stW c day = "unvested"\/stW c day = "stands":=by
 rcases qz1 c day with⟨e,_⟩|⟨e,_⟩|⟨_,e⟩|⟨_,e,_⟩
 ·exact .inl e
 ·exact .inr e
 ·exact absurd (.inl e) a
 ·exact absurd (.inr e) a
def qhg(m)(I:Inv rest cs)(day)(hc:c∈cs)(b:¬ over day c):callD fns (m+2) 27 [Y1 3,Z day,Y9 [sO "give",Z c.nm]] ?l=Y (sO "good",FC sz T d fo jo cs ro (rest.set (c.j+1) { c with gv:=Y day:Cl }.cell)):=by
 have hs:=qqr (sz:=sz) (T:=T) (d:=d) (fo:=fo) (jo:=jo) (bo:=qzq cs) (ro:=rowD ro) m c day (I.at_ c hc).2;have hg:=I.get hc;have a:=(I.at_ c hc).2;rcases qxr b with e|e
 ·rw[e]at hs;exact qzz 8 [19] 2 (λq=>_/\_/\_/\_/\_/\q) [.q ?A,.q ?A,.r c.cell,.c (sO "unvested",FC sz T d fo jo cs ro rest),.r c.cell] ⟨hg,hg,a,hs,a,rfl⟩
 ·rw[e]at hs;exact qzz 8 [19] 2 (λq=>_/\_/\_/\_/\_/\q) [.q ?A,.q ?A,.r c.cell,.c (sO "stands",FC sz T d fo jo cs ro rest),.r c.cell] ⟨hg,hg,a,hs,a,rfl⟩
def qhe(m)(I:Inv rest cs)(day o)(hc:c∈cs)(b:¬ over day c):callD fns (m+2) 27 [Y1 3,Z day,Y9 [sO "sell",Z c.nm,Z o]] ?l=Y (sO "good",FC sz T d fo jo cs ro (rest.set (c.j+1) { c with o:=o:Cl }.cell)):=by
 have hs:=qqr (sz:=sz) (T:=T) (d:=d) (fo:=fo) (jo:=jo) (bo:=qzq cs) (ro:=rowD ro) m c day (I.at_ c hc).2;have hg:=I.get hc;have a:=(I.at_ c hc).2;rcases qxr b with e|e
 ·rw[e]at hs;exact qzz 8 [19] 2 (λq=>_/\_/\_/\_/\_/\q) [.q ?A,.q ?A,.r c.cell,.c (sO "unvested",FC sz T d fo jo cs ro rest),.r c.cell] ⟨hg,hg,a,hs,a,rfl⟩
 ·rw[e]at hs;exact qzz 8 [19] 2 (λq=>_/\_/\_/\_/\_/\q) [.q ?A,.q ?A,.r c.cell,.c (sO "stands",FC sz T d fo jo cs ro rest),.r c.cell] ⟨hg,hg,a,hs,a,rfl⟩
def qhd(m)(I:Inv rest cs)(day)(hc:c∈cs)(j:¬ over day c)(n:c.ds.length<899)(k:thr T (c.ds++[day])=g):callD fns (m+3) 27 [Y1 3,Z day,Y9 [sO "work",Z c.nm]] ?l=Y (sO "good",FC sz T d fo jo cs ro ((rest.set c.j { c with ds:=c.ds++[day],la:=g:Cl }.dl).set (c.j+1) { c with ds:=c.ds++[day],la:=g:Cl }.cell)):=by
 have hs:=qqr (sz:=sz) (T:=T) (d:=d) (fo:=fo) (jo:=jo) (bo:=qzq cs) (ro:=rowD ro) (m+1) c day (I.at_ c hc).2;have hg:=I.get hc;obtain⟨b,f⟩:=I.at_ c hc;have lt:=(Qqk.mp b).1;have a:(rest.set c.j (Y6 O (c.ds.map Z++[Z day])))[c.j+1]?=Y c.cell:=by rw[Qqr (by lia)]; exact f
 have h:(c.ds.map D.int).length<lim:=by rw[Qqz]; unfold lim; lia
 have i:=qkd m (T:=T) (q:=Y1 (c.j+8)) (xs:=c.ds++[day]) (by simp) (by simp; lia) (λr=>by
  show listAt _ _=_;unfold listAt;have:(FC sz T d fo jo cs ro (rest.set c.j (Y6 O (c.ds.map Z++[Z day])))++r)[c.j+8]?=((rest.set c.j (Y6 O (c.ds.map Z++[Z day])))++r)[c.j]?:=rfl;rw[this,Qq2 (by rw[Qzs]; exact lt),Qq5 lt]
  simp)
 rw[k]at i;have l:({ c with ds:=c.ds++[day],la:=g:Cl }).dl=Y6 O (c.ds.map Z++[Z day]):=by unfold Cl.dl; simp
 rw[l];rcases qxr j with e|e
 ·rw[e]at hs;exact qzz 8 [19,16] 3 (λq=>_/\_/\_/\_/\_/\_/\_/\_/\_/\_/\_/\q) [.q ?A,.q ?A,.r c.cell,.c (sO "unvested",FC sz T d fo jo cs ro rest),.r c.cell,.r c.dl,.r c.dl,.b O,.r c.cell,.c (Z g,FC sz T d fo jo cs ro (rest.set c.j (Y6 O (c.ds.map Z++[Z day])))),.r c.cell] ⟨hg,hg,f,hs,f,b,b,Z5 h,a,i,a,rfl⟩
 ·rw[e]at hs;exact qzz 8 [19,16] 3 (λq=>_/\_/\_/\_/\_/\_/\_/\_/\_/\_/\_/\q) [.q ?A,.q ?A,.r c.cell,.c (sO "stands",FC sz T d fo jo cs ro rest),.r c.cell,.r c.dl,.r c.dl,.b O,.r c.cell,.c (Z g,FC sz T d fo jo cs ro (rest.set c.j (Y6 O (c.ds.map Z++[Z day])))),.r c.cell] ⟨hg,hg,f,hs,f,b,b,Z5 h,a,i,a,rfl⟩
end
section
variable {sz:Zt}{T d:J}{fo jo:L (D×D)}{ro:L J}{rest:Y3}{cs:L Cl}
def ga(X){S:Y3}{p:Y0}(h:S[p]?=Y c):(S++X)[p]?=Y c:=by rw[Qq2 (Qqk.mp h).1]; exact h
def pieceG(m){S:Y3}(c:Cl)(hc:S[p]?=Y (c.cel (Y1 q)))(hd:S[q]?=Y c.dl)(o)(g):callD fns (m+2) 18 [Y1 p,Z o,rD g] S=Y (Y1 (S.length+1),S++[c.dl,(⟨0,0,o,g,[],c.la,c.v,B⟩:Cl).cel (Y1 S.length)]):=by
 have a:=cinit m (S++[c.dl]) o c.la g (Y1 S.length);have b:=gl (st:=S++[c.dl]) (c:=.obj 287 (clF o g (Y1 S.length) c.la));refine qvi 0 [17] 2 (Y1 (S++[c.dl]).length,(S++[c.dl]++[Yb.obj 287 (clF o g (Y1 S.length) c.la)]).set (S++[c.dl]).length ((⟨0,0,o,g,[],c.la,c.v,B⟩:Cl).cel (Y1 S.length))) (λq=>_/\_/\_/\_/\_/\_/\q) [.r (c.cel (Y1 q)),.r c.dl,.r (c.cel (Y1 q)),.c (.non,S++[c.dl]++[.obj 287 (clF o g (Y1 S.length) c.la)]),.r (c.cel (Y1 q)),.r (.obj 287 (clF o g (Y1 S.length) c.la))] ⟨hc,hd,ga [c.dl] hc,a,ga [.obj 287 (clF o g (Y1 S.length) c.la)] (ga [c.dl] hc),b,?_⟩;rw[sl];simp
def qgd(m){c:Cl}(a:rest[c.j]?=Y c.dl)(b:rest[c.j+1]?=Y c.cell)(nm o)(g):callD fns (m+2) 18 [Y1 (c.j+9),Z o,rD g] ?l=Y (Y1 (rest.length+9),FC sz T d fo jo cs ro (rest++[c.dl,(⟨nm,rest.length,o,g,c.ds,c.la,c.v,B⟩:Cl).cell])):=by
 have:=pieceG m (S:=FC sz T d fo jo cs ro rest) (p:=c.j+9) (q:=c.j+8) c b a o g;rw[qid]at this;exact this
noncomputable def cuD:Y2 ((J×J×J×J)×(J×J×J×J))->D
 |some p=>.tup [rD p.1,rD p.2]
 |none=>.non
def qdk(m)(g)(s line)(hs:s=0\/s=1)(st):callD fns (m+2) 3 [rD g,Z s,Z line] st=Y (cuD (cutG g s line),st):=by
 unfold cutG;rcases hs with rfl|rfl
 ·rw[Z8 rfl]
  by_cases h1:g.1<line
  ·by_cases h2:line<=g.2.2.1
   ·rw[Z8 ⟨h1,h2⟩];exact qzz 0 [] 2 (λq=>_/\_/\q) [.b O,.b O,.k] ⟨Z5 h1,Z5 h2,rfl⟩
   ·rw[Z7 λz=>h2 z.2];exact qzz 0 [] 2 (λq=>_/\_/\q) [.b O,.b Y5] ⟨Z5 h1,Z6 h2,rfl⟩
  ·rw[Z7 λz=>h1 z.1];exact qzz 0 [] 2 (λq=>_/\q) [.b Y5] ⟨Z6 h1,rfl⟩
 ·rw[Z7 (by decide)]
  by_cases h1:g.2.1<line
  ·by_cases h2:line<=g.2.2.2
   ·rw[Z8 ⟨h1,h2⟩];exact qzz 0 [] 2 (λq=>_/\_/\q) [.b O,.b O,.k] ⟨Z5 h1,Z5 h2,rfl⟩
   ·rw[Z7 λz=>h2 z.2];exact qzz 0 [] 2 (λq=>_/\_/\q) [.b O,.b Y5] ⟨Z5 h1,Z6 h2,rfl⟩
  ·rw[Z7 λz=>h1 z.1];exact qzz 0 [] 2 (λq=>_/\q) [.b Y5] ⟨Z6 h1,rfl⟩
def qd9(X:L D)(y z)(Z9):(X++y::Z9).take (X.length+1)++z::(X++y::Z9).drop (X.length+1)=X++y::z::Z9:=by
 induction X with
 |nil=>rfl
 |cons x r a=>exact congrArg (x::·) a
def eqI(a b):eqT (Z a) (Z b)=(a==b):=rfl
def qy7{R:L J}(h:n ∉ A)(st:Y3):(if flat 9 (Z n)&&flats 9 (rowD (A++n::R)) then((rowD (A++n::R)).findIdx? λy=>eqT y (Z n)).map λ(j:Y0)=>(D.int (j:J),st) else B)=Y (Z (A.length:J),st):=by
 have f:∀l:L J,flats 9 (rowD l)=true:=λl=>by
  induction l with
  |nil=>rfl
  |cons a r b=>show(flat 9 (Z a)&&flats 9 (rowD r))=O; rw[b]; rfl
 rw[f,show flat 9 (Z n)=O from rfl,Qxm,Z8 rfl];have:(rowD (A++n::R)).findIdx? (λy=>eqT y (Z n))=Y A.length:=by
  induction A with
  |nil=>show(if (n==n)=O then _ else _)=_; simp
  |cons a r b=>
   have c:(a==n)=false:=by simp only[Qqy,not_or]at h; simpa using λe=>h.1 e.symm
   show List.findIdx? _ (D.int a::rowD (r++n::R))=_;rw[List.findIdx?_cons];rw[eqI,c];simp only[Qzd,if_false];rw[b (λz=>h (Qqp _ z))]
   rfl
 rw[this]
 rfl
def qmc(m)(I:Inv rest cs)(day line o s)(hs:s=0\/s=1)(hc:c∈cs)(hr:ro.length+cs.length<900)(hn:∀x∈cs,x.nm≠day)(hv:c.v≠B->∃A R,ro=A++c.nm::R/\c.nm ∉ A)(C:¬ over day c):
  ∃w cs' ro' k,(∀sz:Zt,callD fns (m+3) 28 [Y1 3,Z day,Y9 [sO "part",Z c.nm,Z s,Z line,Z o]] ?l=Y (sO w,FC sz T d fo jo cs' ro' k))/\Inv k cs'/\Op day cs ro cs' ro'/\(∀c∈cs',∃x,x.ds.length<=c.ds.length/\c.ds.length<=x.ds.length+1/\x∈cs)/\Tr T day (cs.map Cl.z) ro (Y9 [sO "part",Z c.nm,Z s,Z line,Z o]) w (cs'.map Cl.z) ro':=by
 have hg:=I.get hc;have F:c.z∈cs.map Cl.z:=Qqj.mpr ⟨c,hc,rfl⟩;obtain⟨V,j⟩:=I.at_ c hc;have G:=qdk m c.g s line hs
 cases l:cutG c.g s line with
 |none=>
  rw[l]at G;exact⟨"nocut",cs,ro,rest,λsz=>qzz 8 [3] 3 (λq=>_/\_/\_/\q) [.q ?A,.r c.cell,.c (.non,FC sz T d fo jo cs ro rest),.k] ⟨hg,j,G ?l,rfl⟩,I,.same,λc hc=>⟨c,by lia,by lia,hc⟩,.nocut (c:=c.z) F C hs l⟩
 |some q=>
  obtain⟨a,b⟩:=q;rw[l]at G;have Jq:=I.cell (c':={ c with g:=a }) hc rfl rfl rfl;have lt:=(Qqk.mp j).1;have k1:(rest.set (c.j+1) ({ c with g:=a }:Cl).cell)[c.j]?=Y ({ c with g:=a }:Cl).dl:=by rw[Qqr (by lia)]; exact V
  have t:(rest.set (c.j+1) ({ c with g:=a }:Cl).cell)[c.j+1]?=Y ({ c with g:=a }:Cl).cell:=Qq5 (by lia);have i:=λsz:Zt=>qgd (sz:=sz) (T:=T) (d:=d) (fo:=fo) (jo:=jo) (cs:=cs) (ro:=ro) (m:=m) (c:={ c with g:=a }) k1 t day o b;have W:=qqd (c':={ c with g:=a }) hc I.nd rfl rfl;generalize v:rest.set (c.j+1) ({ c with g:=a }:Cl).cell=r at Jq k1 t i;have a0:r.length=rest.length:=by rw[<- v,Qzs]
  generalize f:(⟨day,r.length,o,b,({ c with g:=a }:Cl).ds,({ c with g:=a }:Cl).la,({ c with g:=a }:Cl).v,B⟩:Cl)=p at i;have p1:p.nm=day:=by rw[<- f]
  have p2:p.j=r.length:=by rw[<- f]
  have p3:p.dl=({ c with g:=a }:Cl).dl:=by rw[<- f]; rfl
  have p4:p.v=c.v:=by rw[<- f]
  have H:∀x∈upd cs { c with g:=a },x.nm≠p.nm:=λx hx=>by
   have:x.nm∈(upd cs { c with g:=a }).map (·.nm):=Qqj.mpr ⟨x,hx,rfl⟩;rw[qxi]at this;obtain⟨y,u,e⟩:=Qqj.mp this;rw[<- e,p1];exact hn y u
  have X:=Jq.add p p2 H (by rw[<- f]; exact I.ne c hc);rw[p3]at X;have n:dput (qzq cs) (Z day) (Y1 (r.length+9))=qzq (upd cs { c with g:=a }++[p]):=by
   rw[<- qjx H,W,p1,p2]
  have S:(r++[({ c with g:=a }:Cl).dl,p.cell])[c.j+1]?=Y ({ c with g:=a }:Cl).cell:=by rw[Qq2 (by lia)]; exact t
  have Q:decide ((qzq cs).length<lim)=true:=Z5 (by unfold qzq lim; rw[Qqz]; lia);have P:∀y∈upd cs { c with g:=a }++[p],∃x,x.ds.length<=y.ds.length/\y.ds.length<=x.ds.length+1/\x∈cs:=λy u=>by
   rcases Qqi.mp u with u|u
   ·obtain⟨z,F,rfl⟩:=Qqj.mp u
    by_cases e:z.nm=({ c with g:=a }:Cl).nm
    ·rw[Z8 e]; exact⟨c,Qqv _,Qzl _,hc⟩
    ·rw[Z7 e]; exact⟨z,Qqv _,Qzl _,F⟩
   ·cases Qqb.mp u;exact⟨c,by rw[<- f]; exact Qqv _,by rw[<- f]; exact Qzl _,hc⟩
  have E:(upd cs { c with g:=a }++[p]).map Cl.z=upd (cs.map Cl.z) { c.z with g:=a }++[⟨day,0,o,b,c.ds,c.la,c.v,B⟩]:=by rw[Qqc,qvo,<- f]; rfl
  cases h:c.v with
  |none=>
   refine⟨"good",upd cs { c with g:=a }++[p],ro,r++[({ c with g:=a }:Cl).dl,p.cell],λsz=>?_,X,.part0 hc rfl rfl p1 p4 h,P,by rw[E]; exact .part (c:=c.z) F C hs l (.inl ⟨h,rfl⟩)⟩;rw[<- v]at i t S n ⊢;unfold FC;rw[<- n];exact qzz 8 [3,18] 3 (λq=>_/\_/\_/\_/\_/\_/\_/\_/\_/\q) [.q ?A,.r c.cell,.c (Y9 [rD a,rD b],FC sz T d fo jo cs ro rest),.k,.r c.cell,.r ({ c with g:=a }:Cl).cell,.c (Y1 ((rest.set (c.j+1) ({ c with g:=a }:Cl).cell).length+9),FC sz T d fo jo cs ro (rest.set (c.j+1) ({ c with g:=a }:Cl).cell++[({ c with g:=a }:Cl).dl,p.cell])),.b O,.r ({ c with g:=a }:Cl).cell,.b Y5] ⟨hg,j,G ?l,j,t,i sz,Q,S,nnN h,rfl⟩
  |some x=>
   obtain⟨A,R,e,hA⟩:=hv (by rw[h]; simp);refine⟨"good",upd cs { c with g:=a }++[p],A++c.nm::day::R,r++[({ c with g:=a }:Cl).dl,p.cell],λsz=>?_,X,.part1 hc rfl rfl p1 p4 (λz=>nomatch z.symm.trans h) e,P,by rw[E]; exact .part (c:=c.z) F C hs l (.inr ⟨x,A,R,h,e,hA,rfl⟩)⟩;rw[<- v]at i t S n ⊢;have N:=qy7 (R:=R) hA (FS sz T d fo jo (dput (qzq cs) (Z day) (Y1 ((rest.set (c.j+1) ({ c with g:=a }:Cl).cell).length+9))) (rowD ro) (rest.set (c.j+1) ({ c with g:=a }:Cl).cell++[({ c with g:=a }:Cl).dl,p.cell]));rw[<- e]at N;have K:(rowD ro).length=ro.length:=by simp
   have a1:ro.length=A.length+(R.length+1):=by rw[e]; simp
   have hok:decide (0<=(A.length:J)+1/\(A.length:J)+1<=(rowD ro).length/\(rowD ro).length<lim)=true:=Z5 ⟨by lia,by rw[K]; lia,by rw[K]; unfold lim; lia⟩;have U:(rowD ro).take ((A.length:J)+1).toNat++Z day::(rowD ro).drop ((A.length:J)+1).toNat=rowD (A++c.nm::day::R):=by
    rw[show((A.length:J)+1).toNat=(rowD A).length+1 by simp,e];have:=qd9 (rowD A) (Z c.nm) (Z day) (rowD R);simpa[rowD] using this
   unfold FC;rw[<- n,<- U];exact qzz 8 [3,18] 3 (λq=>_/\_/\_/\_/\_/\_/\_/\_/\_/\_/\_/\q) [.q ?A,.r c.cell,.c (Y9 [rD a,rD b],FC sz T d fo jo cs ro rest),.k,.r c.cell,.r ({ c with g:=a }:Cl).cell,.c (Y1 ((rest.set (c.j+1) ({ c with g:=a }:Cl).cell).length+9),FC sz T d fo jo cs ro (rest.set (c.j+1) ({ c with g:=a }:Cl).cell++[({ c with g:=a }:Cl).dl,p.cell])),.b O,.r ({ c with g:=a }:Cl).cell,.b O,.c (Z (A.length:J),FS sz T d fo jo (dput (qzq cs) (Z day) (Y1 ((rest.set (c.j+1) ({ c with g:=a }:Cl).cell).length+9))) (rowD ro) (rest.set (c.j+1) ({ c with g:=a }:Cl).cell++[({ c with g:=a }:Cl).dl,p.cell])),.b O] ⟨hg,j,G ?l,j,t,i sz,Q,S,nnS h,N,hok,rfl⟩
end
noncomputable def vOf(cs:L Cl)(n:J):Int:=match cs.find? λc=>c.nm==n with
 |some c=>c.v.getD 0
 |none=>0
structure RowI (day:J) (cs:L Cl) (ro:L J):Prop where
 nd:ro.Nodup
 in1:∀n∈ro,∃c∈cs,c.nm=n/\c.v=Y (vOf cs n)/\vOf cs n<=day
 in2:∀c∈cs,c.v≠B->c.nm∈ro
 so:(ro.map (vOf cs)).Pairwise (· <= ·)
 le:∀c∈cs,c.nm<=day
noncomputable def voD(vs:L (J×D×L (J×J))):L (D×D):=vs.map λv=>(.int v.1,.tup [v.2.1,.tup (v.2.2.map cD)])
def ChI(T:J)(c:Cl):Prop:=c.ds.foldl (chS T) []=c.ds/\c.la=thr T c.ds
def qcw{T:J}(a:ds≠[])(hf:ds.foldl (chS T) []=ds)(hd:day<=thr T ds):(ds++[day]).foldl (chS T) []=ds++[day]/\thr T (ds++[day])=day+T:=by
 unfold thr at hd;rw[hf,Qjm a]at hd;have hd:day<=ds.getLast a+T:=hd;have e:(ds++[day]).foldl (chS T) []=ds++[day]:=by
  rw[Qjk,hf];show chS T ds day=_;unfold chS;rw[dif_neg a,Z8 hd]
 refine⟨e,?_⟩;unfold thr;rw[e];simp
section
variable {sz:Zt}{T d:J}{fo jo:L (D×D)}{ro:L J}{rest:Y3}{cs:L Cl}
def qaj(h:Op day cs ro cs' ro'):(∀c∈cs',(∃x∈cs,x.nm=c.nm)\/c.nm=day)/\cs'.length<=cs.length+1/\ro'.length+cs.length<=ro.length+cs'.length+cs.length:=by
 have e:∀(cs:L Cl) b,(upd cs b).length=cs.length:=λcs b=>by unfold upd; simp
 have un:∀(cs:L Cl) b,∀c∈upd cs b,∃x∈cs,x.nm=c.nm:=λcs b c hc=>by
  have:c.nm∈(upd cs b).map (·.nm):=Qqj.mpr ⟨c,hc,rfl⟩;rw[qxi]at this;exact Qqj.mp this
 cases h with
 |same=>exact⟨λc hc=>.inl ⟨c,hc,rfl⟩,by lia,by lia⟩
 |upd hc hn hv=>exact⟨λc hc=>.inl (un _ _ c hc),by rw[e]; lia,by rw[e]; lia⟩
 |vein ps=>
  refine⟨λc hc=>?_,by simp,?_⟩
  ·obtain⟨x,a,rfl⟩:=Qqj.mp hc;exact .inl ⟨x,a,(qzo day ps x).1.symm⟩
  ·have:=Qz2 (hit day ps) cs;simp
   lia
 |@stake c ps hn hv=>
  refine⟨λx a=>?_,by simp,?_⟩
  ·rcases Qqi.mp a with a|a
   ·exact .inl ⟨x,a,rfl⟩
   ·cases Qqb.mp a;exact .inr ((qzo day ps c).1.trans hn)
  ·split<;>simp<;>lia
 |@part0 c b p hc hn hv pn f h=>
  refine⟨λx a=>?_,by simp[e],by simp[e]<;>lia⟩;rcases Qqi.mp a with a|a
  ·exact .inl (un _ _ x a)
  ·cases Qqb.mp a; exact .inr pn
 |@part1 c b p A R hc hn hv pn f h hr=>
  subst hr;refine⟨λx a=>?_,by simp[e],by simp[e]; lia⟩;rcases Qqi.mp a with a|a
  ·exact .inl (un _ _ x a)
  ·cases Qqb.mp a; exact .inr pn
inductive CF':D->Prop
 |work (n:J):CF' (.tup [sO "work",.int n])
 |give (n:J):CF' (.tup [sO "give",.int n])
 |sell (n o:J) (ho:1<=o/\o<=40):CF' (.tup [sO "sell",.int n,.int o])
 |part (n s l o:J) (hs:s=0\/s=1) (ho:1<=o/\o<=40):CF' (.tup [sO "part",.int n,.int s,.int l,.int o])
def qxt(cs:L Cl)(n):(∀c∈cs,c.nm≠n)\/∃c∈cs,c.nm=n:=by
 by_cases h:∃c∈cs,c.nm=n
 ·exact .inr h
 ·exact .inl λc hc e=>h ⟨c,hc,e⟩
theorem qjl{n:J}:∀{l},n∈l->∃A R,l=A++n::R/\n ∉ A
 |a::r,h=>by
  by_cases e:a=n
  ·exact⟨[],r,by rw[e]; rfl,by simp⟩
  ·rcases Qqy.mp h with z|z
   ·exact absurd z.symm e
   ·obtain⟨A,R,rfl,b⟩:=qjl z;exact⟨a::A,R,rfl,by simp only[Qqy,not_or]; exact⟨λq=>e q.symm,b⟩⟩
def qe0(m)(I:Inv rest cs)(j day)(hd:j<day)(hr:ro.length+cs.length<900)(F:∀c∈cs,c.ds.length<899)(Rw:RowI j cs ro)(t:∀c∈cs,ChI T c)(hf:CF' f):
  ∃w cs' ro' a,(∀sz:Zt,callD fns (m+4) 27 [Y1 3,Z day,f] ?l=Y (sO w,FC sz T d fo jo cs' ro' a))/\Inv a cs'/\Op day cs ro cs' ro'/\(∀c∈cs',∃x,x.ds.length<=c.ds.length/\c.ds.length<=x.ds.length+1/\(x∈cs))/\Tr T day (cs.map Cl.z) ro f w (cs'.map Cl.z) ro':=by
 have v:∀{c:Cl},c∈cs->c.z∈cs.map Cl.z:=λh=>Qqj.mpr ⟨_,h,rfl⟩;have self:∀c∈cs,∃x,x.ds.length<=c.ds.length/\c.ds.length<=x.ds.length+1/\x∈cs:=λc hc=>⟨c,by lia,by lia,hc⟩
 have g:∀{c u:Cl},c∈cs->c.ds.length<=u.ds.length->u.ds.length<=c.ds.length+1->∀y∈upd cs u,∃x,x.ds.length<=y.ds.length/\y.ds.length<=x.ds.length+1/\x∈cs:=λ{c u} hc h1 h2 y H=>by
  obtain⟨z,G,rfl⟩:=Qqj.mp H
  by_cases e:z.nm=u.nm
  ·rw[Z8 e]; exact⟨c,h1,h2,hc⟩
  ·rw[Z7 e]; exact self z G
 have no:∀n w r,(∀c∈cs,c.nm≠n)->∃p cs' ro' a,(∀sz:Zt,callD fns (m+4) 27 [Y1 3,Z day,Y9 (sO w::Z n::r)] ?l=Y (sO p,FC sz T d fo jo cs' ro' a))/\Inv a cs'/\Op day cs ro cs' ro'/\(∀c∈cs',∃x,x.ds.length<=c.ds.length/\c.ds.length<=x.ds.length+1/\(x∈cs))/\Tr T day (cs.map Cl.z) ro (Y9 (sO w::Z n::r)) p (cs'.map Cl.z) ro':=λn w r h=>
  ⟨"noclaim",cs,ro,rest,λ_=>chg_no (m+3) day n w r h,I,.same,self,.no λc hc=>by obtain⟨x,C,rfl⟩:=Qqj.mp hc; exact h x C⟩
 have A:∀c w r,c∈cs->over day c->∃p cs' ro' a,(∀sz:Zt,callD fns (m+4) 27 [Y1 3,Z day,Y9 (sO w::Z c.nm::r)] ?l=Y (sO p,FC sz T d fo jo cs' ro' a))/\Inv a cs'/\Op day cs ro cs' ro'/\(∀c∈cs',∃x,x.ds.length<=c.ds.length/\c.ds.length<=x.ds.length+1/\(x∈cs))/\Tr T day (cs.map Cl.z) ro (Y9 (sO w::Z c.nm::r)) p (cs'.map Cl.z) ro':=λc w r h b=>
  ⟨"ended",cs,ro,rest,λ_=>qhf (m+2) I day w r h b,I,.same,self,.over (c:=c.z) (v h) b⟩
 cases hf with
 |work n=>
  rcases qxt cs n with h|⟨c,hc,rfl⟩
  ·exact no n _ _ h
  ·by_cases b:over day c
   ·exact A c _ _ hc b
   ·have h:=λsz:Zt=>qhd (sz:=sz) (T:=T) (d:=d) (fo:=fo) (jo:=jo) (ro:=ro) (m+1) I day hc b (F c hc) (qcw (I.ne c hc).1 (t c hc).1 (by rw[<- (t c hc).2]; unfold over at b; lia)).2;refine⟨"good",upd cs { c with ds:=c.ds++[day],la:=day+T },ro,_,?_,I.put hc rfl rfl ⟨by simp,by have:=F c hc; simp; lia⟩,.upd hc rfl rfl,g hc (by simp) (by simp),by rw[qvo]; exact .work (c:=c.z) (v hc) b⟩
    ·intro sz;unfold FC;rw[qqd (c':={ c with ds:=c.ds++[day],la:=day+T }) hc I.nd rfl rfl];exact h sz
 |give n=>
  rcases qxt cs n with h|⟨c,hc,rfl⟩
  ·exact no n _ _ h
  ·by_cases b:over day c
   ·exact A c _ _ hc b
   ·refine⟨"good",upd cs { c with gv:=Y day },ro,_,?_,I.cell hc rfl rfl rfl,.upd hc rfl rfl,g hc (Qqv _) (by simp),by rw[qvo]; exact .give (c:=c.z) (v hc) b⟩;intro sz;unfold FC;rw[qqd (c':={ c with gv:=Y day }) hc I.nd rfl rfl];exact qhg (m+2) I day hc b
 |sell n o E=>
  rcases qxt cs n with h|⟨c,hc,rfl⟩
  ·exact no n _ _ h
  ·by_cases b:over day c
   ·exact A c _ _ hc b
   ·refine⟨"good",upd cs { c with o:=o },ro,_,?_,I.cell hc rfl rfl rfl,.upd hc rfl rfl,g hc (Qqv _) (by simp),by rw[qvo]; exact .sell (c:=c.z) (v hc) b⟩;intro sz;unfold FC;rw[qqd (c':={ c with o:=o }) hc I.nd rfl rfl];exact qhe (m+2) I day o hc b
 |part n s l o hs E=>
  rcases qxt cs n with h|⟨c,hc,rfl⟩
  ·exact no n _ _ h
  ·by_cases b:over day c
   ·exact A c _ _ hc b
   ·obtain⟨w,cs',ro',a,h1,h2,P,N,K⟩:=qmc (T:=T) (d:=d) (fo:=fo) (jo:=jo) m I day l o s hs hc hr (λx C e=>by have:=Rw.le x C; lia) (λhv=>qjl (Rw.in2 c hc hv)) b;have hg:=I.get hc;have k:=(I.at_ c hc).2;refine⟨w,cs',ro',a,λsz=>?_,h2,P,N,K⟩;have h1:=h1 sz;have i:=qqr (sz:=sz) (T:=T) (d:=d) (fo:=fo) (jo:=jo) (bo:=qzq cs) (ro:=rowD ro) (m+2) c day k;rcases qxr b with e|e
    ·rw[e]at i;exact qzz 8 [19,28] 4 (λq=>_/\_/\_/\_/\_/\q) [.q ?A,.q ?A,.r c.cell,.c (sO "unvested",FC sz T d fo jo cs ro rest),.c (sO w,FC sz T d fo jo cs' ro' a)] ⟨hg,hg,k,i,h1,rfl⟩
    ·rw[e]at i;exact qzz 8 [19,28] 4 (λq=>_/\_/\_/\_/\_/\q) [.q ?A,.q ?A,.r c.cell,.c (sO "stands",FC sz T d fo jo cs ro rest),.c (sO w,FC sz T d fo jo cs' ro' a)] ⟨hg,hg,k,i,h1,rfl⟩
end
inductive Jn (fo jo:L (D×D)) (a b f:J):String->L (D×D)->Prop
 |nv1 (h:dget fo (.int a)=B):Jn fo jo a b f "novein" jo
 |nv2 {x} (h:dget fo (.int a)=Y x) (h2:dget fo (.int b)=B):Jn fo jo a b f "novein" jo
 |ord {x y} (h:dget fo (.int a)=Y x) (h2:dget fo (.int b)=Y y) (h3:a<=b):Jn fo jo a b f "order" jo
 |joi {x y z} (h:dget fo (.int a)=Y x) (h2:dget fo (.int b)=Y y) (h3:¬ a<=b) (h4:dget jo (.int a)=Y z):Jn fo jo a b f "joined" jo
 |good {x y} (h:dget fo (.int a)=Y x) (h2:dget fo (.int b)=Y y) (h3:¬ a<=b) (h4:dget jo (.int a)=B):Jn fo jo a b f "good" (dput jo (.int a) (.tup [.int b,.int f]))
def vst_z(day)(ps)(c):(vst day ps c).z=vst day ps c.z:=by
 unfold vst
 show(if hit day ps c then _ else c).z=if hit day ps c then _ else _
 split<;>rfl
section
variable {sz:Zt}{T d:J}{fo jo:L (D×D)}{ro:L J}{rest:Y3}{cs:L Cl}
def qim(m)(st)(day)(b:1<=day)(a:day<=400):callD fns (m+2) 39 [Z day] st=Y (.non,st):=
 qzz 0 [] 2 (λq=>_/\_/\q) [.b O,.b O] ⟨Z5 b,Z5 a,rfl⟩
def qjq(m){S:Y3}(c:1<=day)(b:day<=400)(hd:d<day)(hs:callD fns (m+6) 37 [sz.s,f] ?l=Y (.bl O,FC sz T d fo jo cs ro rest))(a:callD fns (m+6) 42 [Y1 0,f] (FC sz T day fo jo cs ro rest)=Y (v,S)):
  callD fns (m+7) 41 [Y1 0,Z day,f] ?l=Y (v,S):=
 qzz 8 [39,37,42] 7 (λq=>_/\_/\_/\_/\q) [.c (.non,FC sz T d fo jo cs ro rest),.c (.bl O,FC sz T d fo jo cs ro rest),.b Y5,.c (v,S)] ⟨qim (m+4) ?l day c b,hs,Z6 (show ¬ day<=d by lia),a,rfl⟩
def qfe(m){S:Y3}(hf:CF' f)(h:callD fns (m+4) 27 [Y1 3,Z d,f] ?l=Y (v,S)):callD fns (m+5) 42 [Y1 0,f] ?l=Y (v,S):=by
 cases hf with
 |work n=>exact qzz 8 [27] 5 (λq=>_/\q) [.c (v,S)] ⟨h,rfl⟩
 |give n=>exact qzz 8 [27] 5 (λq=>_/\q) [.c (v,S)] ⟨h,rfl⟩
 |sell n o _=>exact qzz 8 [27] 5 (λq=>_/\q) [.c (v,S)] ⟨h,rfl⟩
 |part n s l o hs _=>exact qzz 8 [27] 5 (λq=>_/\q) [.c (v,S)] ⟨h,rfl⟩
def qa1(m)(a b f)(hj:jo.length<1000):∃w jo',(∀sz:Zt,callD fns (m+2) 42 [Y1 0,Y9 [sO "join",Z a,Z b,Z f]] ?l=Y (sO w,FC sz T d fo jo' cs ro rest))/\Jn fo jo a b f w jo'/\jo'.length<=jo.length+1/\(jo'=jo\/(b<a/\(dget fo (Z b)).isSome/\jo'=dput jo (Z a) (Y9 [Z b,Z f]))):=by
 have g:decide (jo.length<lim)=true:=Z5 (by unfold lim; lia);have dl:∀v,(dput jo (Z a) v).length<=jo.length+1:=λv=>by unfold dput; split<;>simp
 cases h1:dget fo (Z a) with
 |none=>exact⟨"novein",jo,λsz=>qzz 8 [] 2 (λq=>_/\q) [.q B] ⟨h1,rfl⟩,.nv1 h1,by lia,.inl rfl⟩
 |some x=>
  cases h2:dget fo (Z b) with
  |none=>exact⟨"novein",jo,λsz=>qzz 8 [] 2 (λq=>_/\_/\q) [.q (Y x),.q B] ⟨h1,h2,rfl⟩,.nv2 h1 h2,by lia,.inl rfl⟩
  |some y=>
   by_cases c:a<=b
   ·exact⟨"order",jo,λsz=>qzz 8 [] 2 (λq=>_/\_/\_/\q) [.q (Y x),.q (Y y),.b O] ⟨h1,h2,Z5 c,rfl⟩,.ord h1 h2 c,by lia,.inl rfl⟩
   ·cases e:dget jo (Z a) with
    |some z=>exact⟨"joined",jo,λsz=>qzz 8 [] 2 (λq=>_/\_/\_/\_/\q) [.q (Y x),.q (Y y),.b Y5,.q (Y z)] ⟨h1,h2,Z6 c,e,rfl⟩,.joi h1 h2 c e,by lia,.inl rfl⟩
    |none=>exact⟨"good",dput jo (Z a) (Y9 [Z b,Z f]),λsz=>qzz 8 [] 2 (λq=>_/\_/\_/\_/\_/\q) [.q (Y x),.q (Y y),.b Y5,.q B,.b O] ⟨h1,h2,Z6 c,e,g,rfl⟩,.good h1 h2 c e,dl _,.inr ⟨by lia,rfl,rfl⟩⟩
def qku(h:∀p∈kvs,eqT p.1 (Z n)=Y5):dput kvs (Z n) v=kvs++[(Z n,v)]:=by
 unfold dput;have:kvs.any (λp=>eqT p.1 (Z n))=false:=by
  rw[Qju];intro p a;rw[h p a];simp
 rw[this];simp
def qyo(h:∀v∈vs,v.1≠n)(s)(ps):dput ?i (Z n) (Y9 [s,Y9 ?g])=voD (vs++[(n,s,ps)]):=by
 rw[qku λp a=>?_]
 ·simp[voD]
 ·obtain⟨v,hv,rfl⟩:=Qqj.mp a;show(v.1==n)=Y5;simpa using h v hv
def qhi(m)(I:Inv rest cs)(s)(ps)(vs)(hv:∀v∈vs,v.1≠d)(a:vs.length<1000)(b:ps.length<1000)(hr:ro.length+cs.length<1000):
  (∀sz:Zt,callD fns (m+6) 42 [Y1 0,Y9 [sO "vein",s,Y9 ?g]] (FC sz T d ?i jo cs ro rest)=Y (sO "good",FC sz T d (voD (vs++[(d,s,ps)])) jo (cs.map (vst d ps)) (ro++(cs.filter (hit d ps)).map (·.nm)) (cs.foldl (rvF Cl.cell d ps) rest)))/\Inv (cs.foldl (rvF Cl.cell d ps) rest) (cs.map (vst d ps)):=by
 obtain⟨h1,h2⟩:=qi1 (T:=T) (d:=d) (fo:=voD (vs++[(d,s,ps)])) (jo:=jo) m I d ps (by unfold lim; lia) hr;refine⟨λsz=>?_,h2⟩;have h1:=h1 sz;have hb:decide ((?i).length<lim)=true:=Z5 (by unfold voD lim; rw[Qqz]; lia);rw[<- qyo hv]at h1 ⊢;exact qzz 8 [26] 6 (λq=>_/\_/\q) [.b O,.c (.non,FC sz T d (dput ?i (Z d) (Y9 [s,Y9 ?g])) jo (cs.map (vst d ps)) (ro++(cs.filter (hit d ps)).map (·.nm)) (cs.foldl (rvF Cl.cell d ps) rest))] ⟨hb,h1,rfl⟩
end
section
variable {sz:Zt}{T d:J}{jo:L (D×D)}{ro:L J}{rest:Y3}{cs:L Cl}
noncomputable def FSf(sz:Zt)(T d:J)(fo jo bo:L (D×D))(ro:L D)(rest:Y3):Y3:=
 .obj 642 [("extent",sz.s),("year",.int T),("day",.int d),("found",.loc 1),("joints",.loc 2),("staked",.loc 3),("dug",.loc 6),("debts",.loc 7)]::.dic Y5 fo::.dic O jo::.obj 369 [("year",.int T),("book",.loc 4),("row",.loc 5)]::.dic O bo::.lst O ro::.dic O sz.dg::.lst O sz.es::rest
def thr1(T d):thr T [d]=d+T:=by
 unfold thr;show((chS T [] d).getLast?.getD 0)+T=_;unfold chS;rw[dif_pos rfl]
 rfl
theorem qjk:∀{vs}{v},v∈vs->(vs.map (·.1)).Nodup->dget ?i (Z v.1)=Y (Y9 [v.2.1,Y9 (v.2.2.map cD)])
 |a::r,v,h,hn=>by
  unfold dget voD;rw[Qqm,Qzb];show Option.map _ (match (a.1==v.1) with|true=>_|false=>_)=_;rw[Qqm,Qq8]at hn;rcases Qqy.mp h with rfl|h'
  ·simp
  ·have e:(a.1==v.1)=false:=by
    rw[beq_eq_false_iff_ne];exact λe=>hn.1 (Qqj.mpr ⟨v,h',e.symm⟩)
   rw[e];exact qjk h' hn.2
def qfc(m)(I:Inv rest cs)(o)(g)(vs)(u:(vs.map (·.1)).Nodup)(G:vs.length<1000)(j:∀v∈vs,v.2.2.length<=16)(hr:ro.length+cs.length<900)(H:∀x∈cs,x.nm≠d):
  ∃cs' ro' b,(∀sz:Zt,callD fns (m+6) 42 [Y1 0,.tup ?t] (FC sz T d ?i jo cs ro rest)=Y (sO "good",FC sz T d ?i jo cs' ro' b))/\Inv b cs'/\Op d cs ro cs' ro'/\(∀c∈cs',c∈cs\/c.ds.length=1)/\cs'.map Cl.z=cs.map Cl.z++[vst d (vs.flatMap (·.2.2)) ⟨d,0,o,g,[d],d+T,B,B⟩]/\ro'=ro++(if hit d (vs.flatMap (·.2.2)) ⟨d,0,o,g,[d],d+T,B,B⟩ then [d] else []):=by
 have keys:keysOf ?i=vs.map λv=>D.int v.1:=by unfold keysOf voD; rw[Qqo]; rfl
 have p:∀k,((vs.take k).flatMap (·.2.2)).length<=16*k:=λk=>by
  rw[List.length_flatMap];have:∀l:L (J×D×L (J×J)),(∀v∈l,v.2.2.length<=16)->(l.map λv=>v.2.2.length).sum<=16*l.length:=λl=>by
   induction l with
   |nil=>intro _; simp
   |cons a r F=>
    intro h;have h1:=h a (Qq3 ..);have h2:=F λv hv=>h v (Qqp _ hv);simp only[Qqm,List.sum_cons,Qqg]
    lia
  have h:=this (vs.take k) λv hv=>j v (Qx3 hv);have:(vs.take k).length<=k:=by rw[Qzv]; lia
  lia
 obtain⟨ps,i⟩:∃ps,vs.flatMap (·.2.2)=ps:=⟨_,rfl⟩
 have w:ps.length<lim:=by
  have:=p vs.length;rw[Qzm,i]at this;unfold lim
  lia
 have all:∀sz:Zt,callD fns (m+6) 42 [Y1 0,.tup ?t] (FC sz T d ?i jo cs ro rest)=Y (sO "good",FC sz T d ?i jo (cs++[vst d ps ⟨d,(rest++[Yb.lst O ?g]).length,o,g,[d],thr T [d],B,B⟩]) (ro++if hit d ps ⟨d,(rest++[Yb.lst O ?g]).length,o,g,[d],thr T [d],B,B⟩ then [d] else []) (rest++[Y6 O ?g]++[Y6 O [Z d],(vst d ps ⟨d,(rest++[Yb.lst O ?g]).length,o,g,[d],thr T [d],B,B⟩).cell]))/\Inv (rest++[Y6 O ?g]++[Y6 O [Z d],(vst d ps ⟨d,(rest++[Yb.lst O ?g]).length,o,g,[d],thr T [d],B,B⟩).cell]) (cs++[vst d ps ⟨d,(rest++[Yb.lst O ?g]).length,o,g,[d],thr T [d],B,B⟩]):=λsz=>by
  obtain⟨e,st',h1,h2⟩:=qaa (f:=λτ st x=>(setT (.var 3) x τ).bind λe=>(RL (callD fns (m+4))).ex e st [.expr (.meth (.var 2) .extend [.idx (.didx (.attr 642 ?D "found") (.var 3)) (.lit (Z 1))])]) (s:=.tup (keysOf ?i)) (ds:=vs.map λv=>D.int v.1) (st:=FSf sz T d ?i jo (qzq cs) (rowD ro) (rest++[Y6 O []]))
   (λk e st'=>∃x,e=[Y (Y1 0),Y (.tup ?t),Y (Y1 (rest.length+8)),x]/\st'=FSf sz T d ?i jo (qzq cs) (rowD ro) (rest++[Y6 O (((vs.take k).flatMap (·.2.2)).map cD)]))
   ⟨B,rfl,by simp⟩ (by simp[Src.size,keys]) (λk e st' _=>by rw[keys]; rfl) (λk e st' x C h=>by
    obtain⟨y,rfl,rfl⟩:=h;rw[Qqw]at C;obtain⟨v,hv,rfl⟩:=Qqd.mp C;have hk:=(Qqk.mp hv).1;have z:=(Qqk.mp hv).2;have tk:vs.take (k+1)=vs.take k++[v]:=by rw[Qzw hk,z]
    have hg:=qjk (Qqe hv) u;have E:=gl (st:=rest) (c:=Y6 O (((vs.take k).flatMap (·.2.2)).map cD))
    have hb:decide ((((vs.take k).flatMap (·.2.2)).map cD).length+(v.2.2.map cD).length<=lim)=true:=Z5 (by
     have:=p k;have:=j v (Qqe hv);rw[Qqz,Qqz];unfold lim
     lia)
    refine⟨[Y (Y1 0),Y (.tup ?t),Y (Y1 (rest.length+8)),Y (Z v.1)],FSf sz T d ?i jo (qzq cs) (rowD ro) ((rest++[Yb.lst O (((vs.take k).flatMap (·.2.2)).map cD)]).set rest.length (Y6 O (((vs.take k).flatMap (·.2.2)).map cD++v.2.2.map cD))),(qze 8 [] 4 (λq=>_/\_/\_/\_/\q) [.r (Y6 O (((vs.take k).flatMap (·.2.2)).map cD)),.q (Y (.tup [v.2.1,.tup (v.2.2.map cD)])),.r (Y6 O (((vs.take k).flatMap (·.2.2)).map cD)),.b O] ⟨E,hg,E,hb,rfl⟩),Y (Z v.1),rfl,?_⟩;rw[sl,tk]
    simp)
  obtain⟨x,rfl,rfl⟩:=h2;rw[Qqz,Qzm]at h1;rw[i]at h1;have n:stepEx (RL (callD fns (m+4))) [Y (Y1 0),Y (.tup ?t),Y (Y1 (rest.length+8)),B] (FC sz T d ?i jo cs ro (rest++[Y6 O []])) (.ford (.var 3) (.attr 642 ?D "found") [.expr (.meth (.var 2) .extend [.idx (.didx (.attr 642 ?D "found") (.var 3)) (.lit (Z 1))])])=Y (.nx [Y (Y1 0),Y (.tup ?t),Y (Y1 (rest.length+8)),x],FC sz T d ?i jo cs ro (rest++[Y6 O ?g])):=by
   have N:(RL (callD fns (m+4))).ev [Y (Y1 0),Y (.tup ?t),Y (Y1 (rest.length+8)),B] (FC sz T d ?i jo cs ro (rest++[Y6 O []])) (.attr 642 ?D "found")=Y (Y1 1,FC sz T d ?i jo cs ro (rest++[Y6 O []])):=qzw 8 [] 4 (λq=>q) [] rfl;show((RL (callD fns (m+4))).ev _ _ _).bind _=_;rw[N];show((loop (.tup (keysOf ?i)) _ ((?i).length+1) 0 _ (FSf sz T d ?i jo (qzq cs) (rowD ro) (rest++[Y6 O []]))).bind _)=_;have:(?i).length+1=(Src.tup (keysOf ?i)).size (FSf sz T d ?i jo (qzq cs) (rowD ro) (rest++[Y6 O []]))+1:=by simp[Src.size,keysOf]
   rw[this,h1]
   rfl
  have ⟨A,K⟩:=qf7 (sz:=sz) (T:=T) (d:=d) (fo:=voD vs) (jo:=jo) (ro:=ro) m (I.more [Y6 O ?g]) d o g (q:=Y1 (rest.length+8)) (λbo r=>by
   show listAt _ _=_;unfold listAt;have:(FS sz T d ?i jo bo (rowD ro) (rest++[Y6 O ?g]++r))[rest.length+8]?=(rest++[Yb.lst O ?g]++r)[rest.length]?:=rfl;rw[this]
   simp) w hr H rfl
  have t:∀cs' ro' b,callD fns (m+4) 24 [Y1 3,Z d,Z o,rD g,Y1 (rest.length+8)] (FC sz T d ?i jo cs ro (rest++[Y6 O ?g]))=Y (.non,FC sz T d ?i jo cs' ro' b)->callD fns (m+6) 42 [Y1 0,.tup ?t] (FC sz T d ?i jo cs ro rest)=Y (sO "good",FC sz T d ?i jo cs' ro' b):=λcs' ro' b A=>
   qzz 8 [24] 6 (λq=>_/\_/\q) [.s (.nx [Y (Y1 0),Y (.tup ?t),Y (Y1 (rest.length+8)),x],FC sz T d ?i jo cs ro (rest++[Y6 O ?g])),.c (.non,FC sz T d ?i jo cs' ro' b)] ⟨n,A,rfl⟩
  exact⟨t _ _ _ A,K⟩
 refine⟨_,_,_,λsz=>(all sz).1,(all ⟨.non,[],[]⟩).2,.stake ps rfl rfl,?_,?_,?_⟩
 ·intro c hc;rcases Qqi.mp hc with hc|hc
  ·exact .inl hc
  ·cases Qqb.mp hc;rw[(qzo _ _ _).2.2];exact .inr rfl
 ·rw[Qqc,Qxr,vst_z,i,thr1]
  rfl
 ·rw[i,thr1]
  rfl
end
noncomputable def stB(cs:L Cl)(day:J)(n:J):Bool:=match cs.find? λc=>c.nm==n with
 |some c=>decide (stW c day = "stands")
 |none=>Y5
def stB_of(d:(cs.map (·.nm)).Nodup)(hc:c∈cs)(day):stB cs day c.nm=decide (stW c day = "stands"):=by
 have:cs.find? (λx=>x.nm==c.nm)=Y c:=by
  induction cs with
  |nil=>cases hc
  |cons a r f=>
   rw[Qqm,Qq8]at d;rw[Qzb];rcases Qqy.mp hc with rfl|b
   ·simp
   ·have e:(a.nm==c.nm)=false:=by
     rw[beq_eq_false_iff_ne];exact λe=>d.1 (Qqj.mpr ⟨c,b,e.symm⟩)
    rw[e];exact f d.2 b
 unfold stB;rw[this]
structure Pl where
 a:Y0
 f:Y0
 j:Y0
 s:Y0
 b:Y0
 r:Y0
 T:D
 g:D
 e:D
 bo:L (D×D)
noncomputable abbrev Pl.fc(p:Pl)(sz:D)(d:J):Yb:=.obj 642 [("extent",sz),("year",p.T),("day",.int d),("found",.loc p.f),("joints",.loc p.j),("staked",.loc p.s),("dug",p.g),("debts",p.e)]
noncomputable abbrev Pl.sc(p:Pl):Yb:=.obj 369 [("year",p.T),("book",.loc p.b),("row",.loc p.r)]
structure FA (p:Pl) (sz:D) (d:J) (fo jo:L (D×D)) (cs:L Cl) (ro:L J) (S:Y3):Prop where
 hf:S[p.a]?=Y (p.fc sz d)
 hv:S[p.f]?=Y (.dic O fo)
 hj:S[p.j]?=Y (.dic O jo)
 hs:S[p.s]?=Y p.sc
 hb:S[p.b]?=Y (.dic O p.bo)
 hr:S[p.r]?=Y (.lst O (rowD ro))
 hc:∀c∈cs,∃q y,dget p.bo (.int c.nm)=Y (.loc q)/\S[q]?=Y (c.cel (.loc y))/\S[y]?=Y c.dl
 hk:keysOf p.bo=cs.map λc=>.int c.nm
section
variable {p:Pl}{sz:D}{d:J}{fo jo:L (D×D)}{ro:L J}{S:Y3}{cs:L Cl}
def FA.app(A:FA p sz d fo jo cs ro S)(X):FA p sz d fo jo cs ro (S++X):=⟨ga X A.hf,ga X A.hv,ga X A.hj,ga X A.hs,ga X A.hb,ga X A.hr,λc hc=>by obtain⟨q,y,h1,h2,a⟩:=A.hc c hc; exact⟨q,y,h1,ga X h2,ga X a⟩,A.hk⟩
def qy1(m)(A:FA p sz d fo jo cs ro S)(nd:(cs.map (·.nm)).Nodup)(g:∀n∈ro,∃c∈cs,c.nm=n)(l:ro.length<1000):callD fns (m+3) 52 [Y1 p.a] S=Y (Y1 S.length,S++[Y6 O (rowD (ro.filter (stB cs d)))]):=by
 have f:listAt S p.r=Y (rowD ro):=by unfold listAt; rw[A.hr]
 have j:(RL (callD fns (m+1))).ev [Y (Y1 p.s),Y (Z d)] S (.attr 369 ?D "row")=Y (Y1 p.r,S):=qzw 0 [] 1 (λq=>_/\q) [.r p.sc] ⟨A.hs,rfl⟩;have h:=qj6 (it:=.attr 369 ?D "row") (elt:=.var 0) (c:=.cmp .Eq (.mcall 287 19 "state" (.didx (.attr 369 (.var 2) "book") ?D) [.var 1]) (.lit (sO "stands"))) (sr:=[B,Y 1,Y 0]) (p:=λx=>match x with|Z n=>stB cs d n|_=>Y5) (s:=.lst (Y1 p.r)) id
  (by show((RL (callD fns (m+1))).ev _ _ _).bind _=_; rw[j]; show(listAt S p.r).map _=_; rw[f]; rfl) (qqq f) (qzn f) rfl (by simp; unfold lim; lia)
  (λi x k=>by
   rw[Qqw]at k;obtain⟨n,hn,rfl⟩:=Qqd.mp k;obtain⟨c,hc,rfl⟩:=g n (Qqe hn);obtain⟨q,y,hg,b,_⟩:=A.hc c hc;have a:=qh1 m c d b;show _=Y (stB cs d c.nm,_);rw[stB_of nd hc];rcases qz1 c d with⟨e,_⟩|⟨e,_⟩|⟨e,_⟩|⟨e,_⟩<;>rw[e]at a ⊢
   ·exact qzv 0 [19] 1 (λq=>_/\_/\_/\_/\_/\q) [.r p.sc,.r (.dic O p.bo),.q (Y (Y1 q)),.r (c.cel (Y1 y)),.c (sO "unvested",S)] ⟨A.hs,A.hb,hg,b,a,rfl⟩
   ·exact qzv 0 [19] 1 (λq=>_/\_/\_/\_/\_/\q) [.r p.sc,.r (.dic O p.bo),.q (Y (Y1 q)),.r (c.cel (Y1 y)),.c (sO "stands",S)] ⟨A.hs,A.hb,hg,b,a,rfl⟩
   ·exact qzv 0 [19] 1 (λq=>_/\_/\_/\_/\_/\q) [.r p.sc,.r (.dic O p.bo),.q (Y (Y1 q)),.r (c.cel (Y1 y)),.c (sO "given",S)] ⟨A.hs,A.hb,hg,b,a,rfl⟩
   ·exact qzv 0 [19] 1 (λq=>_/\_/\_/\_/\_/\q) [.r p.sc,.r (.dic O p.bo),.q (Y (Y1 q)),.r (c.cel (Y1 y)),.c (sO "fallen",S)] ⟨A.hs,A.hb,hg,b,a,rfl⟩)
  (λi x _ _=>qqo _ _ _ _ _ rfl)
 have e:((rowD ro).filter λx=>match x with|Z n=>stB cs d n|_=>Y5).map id=rowD (ro.filter (stB cs d)):=by
  rw[Qkw];unfold rowD;rw[Qx7]
  rfl
 rw[e]at h;exact qzz 0 [] 3 (λq=>_/\_/\_/\_/\q) [.r (p.fc sz d),.r p.sc,.r (p.fc sz d),.c (Y1 S.length,S++[Y6 O (rowD (ro.filter (stB cs d)))])] ⟨A.hf,A.hs,A.hf,h,rfl⟩
noncomputable abbrev clT(c:Cl):D:=.tup [.int c.o,rD c.g,.int c.la,oD c.v,oD c.gv]
def qvh(m)(A:FA p sz d fo jo cs ro S)(hc:c∈cs):callD fns (m+2) 51 [Y1 p.a,Z c.nm] S=Y (clT c,S):=by
 obtain⟨q,y,hg,h,_⟩:=A.hc c hc;exact qzz 0 [] 2 (λq=>_/\_/\_/\_/\_/\_/\_/\_/\_/\_/\_/\_/\_/\q) [.r (p.fc sz d),.r p.sc,.r p.sc,.r (.dic O p.bo),.q (Y (Y1 q)),.r p.sc,.r (.dic O p.bo),.q (Y (Y1 q)),.r (c.cel (Y1 y)),.r (c.cel (Y1 y)),.r (c.cel (Y1 y)),.r (c.cel (Y1 y)),.r (c.cel (Y1 y))] ⟨A.hf,A.hs,A.hs,A.hb,hg,A.hs,A.hb,hg,h,h,h,h,h,rfl⟩
end
noncomputable abbrev P0(T:J)(cs:L Cl):Pl:=⟨0,1,2,3,4,5,.int T,.loc 6,.loc 7,qzq cs⟩
def fa_of{T:J}(I:Inv rest cs):FA (P0 T cs) sz.s d fo jo cs ro ?l:=⟨rfl,rfl,rfl,rfl,rfl,rfl,λc hc=>⟨c.j+9,c.j+8,I.get hc,(I.at_ c hc).2,(I.at_ c hc).1⟩,by show(qzq cs).map _=_; unfold qzq; rw[Qqo]; rfl⟩
def qff{Q:Cl->Prop}(h:∀c∈cs,Q c)(a:Q p):∀c∈cs++[p],Q c:=λc hc=>by
 rcases Qqi.mp hc with hc|hc
 ·exact h c hc
 ·cases Qqb.mp hc; exact a
def qj9{Q:Cl->Prop}(h:∀c∈cs,Q c)(b:Q c'):∀c∈upd cs c',Q c:=λc hc=>by
 obtain⟨y,a,rfl⟩:=Qqj.mp hc
 by_cases z:y.nm=c'.nm
 ·rw[Z8 z]; exact b
 ·rw[Z7 z]; exact h y a
def qw4(b:(cs.map (·.nm)).Nodup)(hc:c∈cs)(e:c'.nm=c.nm):∀x∈cs,(x=c/\c'∈upd cs c')\/(x.nm≠c.nm/\x∈upd cs c'):=λx a=>by
 by_cases h:x.nm=c'.nm
 ·refine .inl ⟨?_,Qqj.mpr ⟨x,a,Z8 h⟩⟩;have g:∀{l:L Cl},(l.map (·.nm)).Nodup->x∈l->c∈l->x.nm=c.nm->x=c:=λ{l} b a hc e=>by
   induction l with
   |nil=>cases a
   |cons y r i=>
    rw[Qqm,Qq8]at b;rcases Qqy.mp a with rfl|d<;>rcases Qqy.mp hc with rfl|f
    ·rfl
    ·exact absurd (Qqj.mpr ⟨c,f,e.symm⟩) b.1
    ·exact absurd (Qqj.mpr ⟨x,d,e⟩) b.1
    ·exact i b.2 d f
  exact g b a hc (h.trans e)
 ·exact .inr ⟨λz=>h (z.trans e.symm),Qqj.mpr ⟨x,a,Z7 h⟩⟩
def op_fol(f:(cs.map (·.nm)).Nodup)(h:Op day cs ro b ro'):∀c∈cs,∃c1∈b,c1.nm=c.nm/\(c.v≠B->c1.v=c.v):=by
 cases h with
 |same=>exact λc hc=>⟨c,hc,rfl,λ_=>rfl⟩
 |@upd c d hc e hv=>
  intro x a;rcases qw4 f hc e x a with⟨rfl,h⟩|⟨_,h⟩
  ·exact⟨d,h,e,λ_=>hv⟩
  ·exact⟨x,h,rfl,λ_=>rfl⟩
 |vein ps=>
  intro x a;refine⟨vst day ps x,Qqj.mpr ⟨x,a,rfl⟩,(qzo day ps x).1,λhv=>?_⟩;unfold vst hit;have:stW x day ≠ "unvested":=λe=>by
   rcases qz1 x day with⟨_,z,_⟩|⟨z,_⟩|⟨z,_⟩|⟨z,_⟩
   ·exact hv z
   all_goals rw[z]at e; exact absurd e (by decide)
  rw[Z6 this]
  rfl
 |@stake c ps e hv=>exact λx a=>⟨x,Qzz _ a,rfl,λ_=>rfl⟩
 |@part0 c d p hc e hv pn g i=>
  intro x a;rcases qw4 f hc e x a with⟨rfl,h⟩|⟨_,h⟩
  ·exact⟨d,Qzz _ h,e,λ_=>hv⟩
  ·exact⟨x,Qzz _ h,rfl,λ_=>rfl⟩
 |@part1 c d p A R hc e hv pn g i hr=>
  intro x a;rcases qw4 f hc e x a with⟨rfl,h⟩|⟨_,h⟩
  ·exact⟨d,Qzz _ h,e,λ_=>hv⟩
  ·exact⟨x,Qzz _ h,rfl,λ_=>rfl⟩
def qkc(d:(cs.map (·.nm)).Nodup)(hc:c∈cs):vOf cs c.nm=c.v.getD 0:=by
 have:cs.find? (λx=>x.nm==c.nm)=Y c:=by
  induction cs with
  |nil=>cases hc
  |cons a r f=>
   rw[Qqm,Qq8]at d;rw[Qzb];rcases Qqy.mp hc with rfl|b
   ·simp
   ·have e:(a.nm==c.nm)=false:=by
     rw[beq_eq_false_iff_ne];exact λe=>d.1 (Qqj.mpr ⟨c,b,e.symm⟩)
    rw[e];exact f d.2 b
 unfold vOf;rw[this]
def qde{cs:L Cl}:(cs.map (·.nm)).Nodup->x∈cs->c∈cs->x.nm=c.nm->x=c:=λhn d hc e=>by
 induction cs with
 |nil=>cases d
 |cons y r f=>
  rw[Qqm,Qq8]at hn;rcases Qqy.mp d with rfl|a<;>rcases Qqy.mp hc with rfl|b
  ·rfl
  ·exact absurd (Qqj.mpr ⟨c,b,e.symm⟩) hn.1
  ·exact absurd (Qqj.mpr ⟨x,a,e⟩) hn.1
  ·exact f hn.2 a b
def hit_v(h:hit day ps c=O):c.v=none:=by
 unfold hit at h;rw[Qqs,decide_eq_true_eq]at h;rcases qz1 c day with⟨_,z,_⟩|⟨z,_⟩|⟨z,_⟩|⟨z,_⟩
 ·exact z
 all_goals rw[z]at h; exact absurd h.1 (by decide)
def RowI.later(R:RowI a cs ro)(h:a<=day):RowI day cs ro:=
 ⟨R.nd,λn hn=>by obtain⟨c,h1,h2,b,d⟩:=R.in1 n hn; exact⟨c,h1,h2,b,by lia⟩,R.in2,R.so,λc hc=>by have:=R.le c hc; lia⟩
def qdw(m:(cs.map (·.nm)).Nodup)(k:(g.map (·.nm)).Nodup)(hd:d0<day)(R:RowI d0 cs ro)(h:Op day cs ro g ro'):RowI day g ro':=by
 have C:∀n∈ro,vOf g n=vOf cs n/\∃c1∈g,c1.nm=n/\c1.v=Y (vOf cs n):=λn hr=>by
  obtain⟨c,hc,rfl,hv,_⟩:=R.in1 n hr;obtain⟨c1,h1,e,h2⟩:=op_fol m h c hc;have F:=(h2 (by rw[hv]; simp)).trans hv;refine⟨?_,c1,h1,e,F⟩;have:=qkc k h1;rw[e,F]at this;exact this
 have om:ro.map (vOf g)=ro.map (vOf cs):=Qzo λn hr=>(C n hr).1;have t:∀n∈ro,∃c∈g,c.nm=n/\c.v=Y (vOf g n)/\vOf g n<=day:=λn hr=>by
  obtain⟨e,c1,h1,h2,F⟩:=C n hr;obtain⟨_,_,_,_,N⟩:=R.in1 n hr;exact⟨c1,h1,h2,by rw[e]; exact F,by rw[e]; lia⟩
 have os:(ro.map (vOf g)).Pairwise (· <= ·):=by rw[om]; exact R.so
 have T:∀x∈ro.map (vOf g),x<=day:=λx d=>by
  obtain⟨n,hr,rfl⟩:=Qqj.mp d;obtain⟨_,_,_,_,h⟩:=t n hr;exact h
 have H:∀n∈ro,n<=d0:=λn hr=>by
  obtain⟨c,hc,rfl,_⟩:=R.in1 n hr;exact R.le c hc
 have j:∀c∈g,c.nm<=day:=λc hc=>by
  rcases (qaj h).1 c hc with⟨x,d,e⟩|e
  ·have:=R.le x d; lia
  ·lia
 have u:∀l:L J,(∀n∈l,vOf g n=day)->((ro++l).map (vOf g)).Pairwise (· <= ·):=λl hl=>by
  rw[Qqc,Qzi];refine⟨os,?_,λa i b hb=>?_⟩
  ·rw[Qjx];have:∀l:L J,(∀n∈l,vOf g n=day)->l.Pairwise λa b=>vOf g a<=vOf g b:=λl=>by
    induction l with
    |nil=>intro _; exact .nil
    |cons a r ih=>
     intro h;refine .cons (λb hb=>?_) (ih λn m=>h n (Qqp _ m));rw[h a (Qq3 ..),h b (Qqp _ hb)];exact Int.le_refl _
   exact this l hl
  ·obtain⟨n,m,rfl⟩:=Qqj.mp hb;rw[hl n m];exact T a i
 cases h with
 |same=>exact R.later (by lia)
 |@upd c w hc e hv=>
  refine⟨R.nd,t,λx d f=>?_,os,j⟩;obtain⟨y,v,rfl⟩:=Qqj.mp d
  by_cases z:y.nm=w.nm
  ·rw[Z8 z]at f ⊢;rw[e];exact R.in2 c hc (by rw[<- hv]; exact f)
  ·rw[Z7 z]at f ⊢;exact R.in2 y v f
 |vein ps=>
  have X:∀n∈(cs.filter (hit day ps)).map (·.nm),∃c∈cs,c.nm=n/\hit day ps c=true:=λn d=>by
   obtain⟨c,hc,e⟩:=Qqj.mp d;exact⟨c,(Qzr.mp hc).1,e,(Qzr.mp hc).2⟩
  have nv2:∀n∈(cs.filter (hit day ps)).map (·.nm),∃c1∈cs.map (vst day ps),c1.nm=n/\c1.v=Y day/\vOf (cs.map (vst day ps)) n=day:=λn d=>by
   obtain⟨c,hc,e,o⟩:=X n d;have K:vst day ps c∈cs.map (vst day ps):=Qqj.mpr ⟨c,hc,rfl⟩;have G:=(qzo day ps c).1.trans e;have s:(vst day ps c).v=Y day:=by unfold vst; rw[o]; rfl
   exact⟨_,K,G,s,by have:=qkc k K; rw[G,s]at this; exact this⟩
  refine⟨?_,λn d=>?_,λx d f=>?_,u _ λn d=>?_,j⟩
  ·rw[Qzf];refine⟨R.nd,(Qx5.map _).nodup m,λa i b hb e=>?_⟩;subst e;obtain⟨c,hc,rfl,o⟩:=X a hb;obtain⟨c2,U,s,I,_⟩:=R.in1 _ i;have:=qde m U hc s;subst this;rw[hit_v o]at I;cases I
  ·rcases Qqi.mp d with d|d
   ·exact t n d
   ·obtain⟨c1,h1,h2,F,N⟩:=nv2 n d;exact⟨c1,h1,h2,by rw[N]; exact F,by rw[N]; exact Int.le_refl _⟩
  ·obtain⟨y,v,rfl⟩:=Qqj.mp d
   cases o:hit day ps y with
   |true=>exact Qq0 _ (Qqj.mpr ⟨y,Qzr.mpr ⟨v,o⟩,(qzo day ps y).1.symm⟩)
   |false=>
    have:vst day ps y=y:=by unfold vst; rw[o]; rfl
    rw[this]at f ⊢;exact Qzz _ (R.in2 y v f)
  ·obtain⟨_,_,_,_,N⟩:=nv2 n d;exact N
 |@stake c ps e hv=>
  have K:vst day ps c∈cs++[vst day ps c]:=by simp
  have G:=(qzo day ps c).1.trans e
  cases o:hit day ps c with
  |true=>
   have s:(vst day ps c).v=Y day:=by unfold vst; rw[o]; rfl
   have W:vOf (cs++[vst day ps c]) day=day:=by
    have:=qkc k K;rw[G,s]at this;exact this
   refine⟨?_,λn d=>?_,λx d f=>?_,u _ λn d=>?_,j⟩
   ·rw[Z8 rfl,Qzf];refine⟨R.nd,by simp,λa i b hb z=>?_⟩;have:=H a i;simp only[Qqb]at hb
    lia
   ·rcases Qqi.mp d with d|d
    ·exact t n d
    ·rw[Z8 rfl]at d;cases Qqb.mp d;exact⟨_,K,G,by rw[W]; exact s,by rw[W]; exact Int.le_refl _⟩
   ·rcases Qqi.mp d with d|d
    ·exact Qzz _ (R.in2 x d f)
    ·cases Qqb.mp d;rw[Z8 rfl,G];simp
   ·rw[Z8 rfl]at d;cases Qqb.mp d;exact W
  |false=>
   have s:(vst day ps c).v=none:=by unfold vst; rw[o]; exact hv
   rw[Z7 (by simp),Qzj];refine⟨R.nd,t,λx d f=>?_,os,j⟩;rcases Qqi.mp d with d|d
   ·exact R.in2 x d f
   ·cases Qqb.mp d;exact absurd s f
 |@part0 c w p hc e hv pn P D=>
  refine⟨R.nd,t,λx d f=>?_,os,j⟩;rcases Qqi.mp d with d|d
  ·obtain⟨y,v,rfl⟩:=Qqj.mp d
   by_cases z:y.nm=w.nm
   ·rw[Z8 z]at f ⊢;rw[e];exact R.in2 c hc (by rw[<- hv]; exact f)
   ·rw[Z7 z]at f ⊢;exact R.in2 y v f
  ·cases Qqb.mp d;exact absurd (P.trans D) f
 |@part1 c w p A Q hc e hv pn P D hr=>
  subst hr;have hp:p∈upd cs w++[p]:=by simp
  have E:c.nm∈A++c.nm::Q:=by simp
  obtain⟨f1,_⟩:=C _ E;have V:vOf (upd cs w++[p]) day=vOf (upd cs w++[p]) c.nm:=by
   have:=qkc k hp;rw[pn,P]at this;rw[f1,this,qkc m hc]
  have S:day ∉ A++c.nm::Q:=λz=>by have:=H _ z; lia
  refine⟨?_,λn d=>?_,λx d f=>?_,?_,j⟩
  ·have:=R.nd;simp only[Qqi,Qqy,not_or]at S;rw[Qzf]at this ⊢;refine⟨this.1,?_,λa i b hb=>?_⟩
   ·rw[Qq8]at this ⊢;refine⟨?_,Qq8.mpr ⟨S.2.2,this.2.1.2⟩⟩;simp only[Qqy,not_or];exact⟨λz=>S.2.1 z.symm,this.2.1.1⟩
   ·rcases Qqy.mp hb with rfl|hb
    ·exact this.2.2 a i _ (Qq3 ..)
    ·rcases Qqy.mp hb with rfl|hb
     ·exact λz=>S.1 (z▸i)
     ·exact this.2.2 a i b (Qqp _ hb)
  ·have:n=day\/n∈A++c.nm::Q:=by
    simp only[Qqi,Qqy]at d ⊢;rcases d with z|z|z|z
    ·exact .inr (.inl z)
    ·exact .inr (.inr (.inl z))
    ·exact .inl z
    ·exact .inr (.inr (.inr z))
   rcases this with rfl|z
   ·obtain⟨_,_,_,_,h5⟩:=t _ E;refine⟨p,hp,pn,?_,by rw[V]; exact h5⟩;rw[V,f1,P,qkc m hc]
    cases hq:c.v with
    |none=>exact absurd hq D
    |some q=>rfl
   ·exact t n z
  ·have ext:∀n,n∈A++c.nm::Q->n∈A++c.nm::day::Q:=λn z=>by
    simp only[Qqi,Qqy]at z ⊢;rcases z with z|z|z
    ·exact .inl z
    ·exact .inr (.inl z)
    ·exact .inr (.inr (.inr z))
   rcases Qqi.mp d with d|d
   ·obtain⟨y,v,rfl⟩:=Qqj.mp d
    by_cases z:y.nm=w.nm
    ·rw[Z8 z]at f ⊢;rw[e];exact ext _ E
    ·rw[Z7 z]at f ⊢;exact ext _ (R.in2 y v f)
   ·cases Qqb.mp d;rw[pn];simp
  ·have:=os;rw[Qqc,Qqm,Qzi,Qze]at this;rw[Qqc,Qqm,Qqm,Qzi,Qze,Qze,V];refine⟨this.1,⟨λa i=>?_,this.2.1.1,this.2.1.2⟩,λa i b hb=>?_⟩
   ·rcases Qqy.mp i with rfl|i
    ·exact Int.le_refl _
    ·exact this.2.1.1 a i
   ·rcases Qqy.mp hb with rfl|hb
    ·exact this.2.2 a i _ (Qq3 ..)
    ·rcases Qqy.mp hb with rfl|hb
     ·exact this.2.2 a i _ (Qq3 ..)
     ·exact this.2.2 a i b (Qqp _ hb)
theorem qwx{ds:L D}{S:Y3}(g:D->Y2 D)(P:Sl->Prop)(b:∀i,it.at S i=Y ds[i]?)(j:ds.length<lim)(hf:∀τ d,d∈ds->P τ->∃a,f τ S d=Y (g d,a,S)/\P a):
  ∀(k i:Y0) (τ:Sl),i+k=ds.length->P τ->loopC it f (k+1) i ((ds.take i).filterMap g) τ S=Y (ds.filterMap g,S)
 |0,i,τ,h,p=>by
  have e:i=ds.length:=by lia
  subst e;rw[loopC,b,Qzp (Qqv _),Qzm];simp only[oBs];rw[Z7 (by have:=Qjq g ds; lia)]
 |k+1,i,τ,h,p=>by
  have hi:i<ds.length:=by lia
  obtain⟨a,m,l⟩:=hf τ ds[i] (Qxi hi) p;rw[loopC,b,Qqh hi];simp only[oBs];rw[Z7 (by have:=Qjq g (ds.take i); rw[Qzv]at this; lia),m];have c:=qwx g P b j hf k (i+1) a (by lia) l;rw[Qzw hi,Qjd]at c;simp only[oBs]
  cases hg:g ds[i] with
  |none=>simpa[hg] using c
  |some x=>simpa[hg] using c
def qqj{ds:L D}(g:D->Y2 D)(P:Sl->Prop)(hs:src (RL c) τ st it=Y (s,st))(b:∀i,s.at st i=Y ds[i]?)(e:s.size st=ds.length)(f:ds.length<lim)(h:P (inner sr τ))(hf:∀τ d,d∈ds->P τ->∃a,turnC (RL c) t test elt τ st d=Y (g d,a,st)/\P a):
  stepEv (RL c) τ st (.comp t it test elt sr)=Y (Y1 st.length,st++[Y6 O (ds.filterMap g)]):=by
 show((src (RL c) τ st it).bind λp=>(loopC p.1 (turnC (RL c) t test elt) (p.1.size p.2+1) 0 [] (inner sr τ) p.2).map λq=>alloc q.2 (Y6 O q.1))=_;rw[hs];simp only[oBs,e];have:=qwx g P b f hf ds.length 0 (inner sr τ) (by lia) h;rw[Qky,List.filterMap_nil]at this;rw[this]
 rfl
def qk6(h:setT t d τ=Y a)(b:(RL c).ev a st elt=Y (x,st)):turnC (RL c) t B elt τ st d=Y (Y x,a,st):=by
 unfold turnC;rw[h];simp only[oBs,b,oMs]
def turn_if(h:setT t d τ=Y a)(e:(RL c).tst a st q=Y (b,st))(f:b=O->(RL c).ev a st elt=Y (x,st)):turnC (RL c) t (Y q) elt τ st d=Y (if b then Y x else B,a,st):=by
 unfold turnC;rw[h];simp only[oBs,e]
 cases b with
 |false=>rfl
 |true=>rw[Z8 rfl,f rfl]; rfl
noncomputable def szD(W H P:J):D:=.tup [.int W,.int H,.int P]
noncomputable def bD(W H P:J):L (D×D):=[(sO "day",.tup [.int 1,.int 400]),(sO "folk",.tup [.int 1,.int 40]),(sO "x",.tup [.int 0,.int (W - 1)]),(sO "y",.tup [.int 0,.int (H - 1)]),(sO "floor",.tup [.int 0,.int P]),(sO "below",.tup [.int 1,.int P]),(sO "side",.tup [.int 0,.int 1]),(sO "line",.tup [.int 1,.int 23]),(sO "step",.tup [.int 0,.int 4]),(sO "coins",.tup [.int 1,.int 1000000])]
def Fit(W H P:J)(p:J×String):Prop:=∃lo hi,dget (bD W H P) (sO p.2)=Y (.tup [.int lo,.int hi])/\lo<=p.1/\p.1<=hi
def qnl(m)(st)(b:lo<=v)(a:v<=hi):callD fns (m+1) 30 [Z v,Y9 [Z lo,Z hi]] st=Y (.bl O,st):=
 qzz 0 [] 1 (λq=>_/\_/\q) [.b O,.b O] ⟨Z5 b,Z5 a,rfl⟩
def qfx(m)(st)(W H P):callD fns (m+1) 29 [szD W H P] st=Y (Y1 st.length,st++?z):=
 qvi 0 [] 1 (Y1 st.length,(st++[Yb.dic O []]).set st.length (.dic O (bD W H P))) (λq=>_/\q) [.r (.dic O [])] ⟨gl (st:=st) (c:=.dic O []),by rw[sl]⟩
def qxu(m)(st)(d:L (J×String))(v:d.length<1000)(hf:∀p∈d,Fit W H P p):callD fns (m+2) 31 [szD W H P,.tup (d.map λp=>sO p.2),.tup (d.map λp=>Z p.1)] st=Y (.bl O,st++?z):=by
 have h1:(!((((d.map λp=>D.int p.1).length:Y0):J)==((d.map λp=>sO p.2).length:Y0)))=false:=by simp
 have j:∀i,pairAt (d.map λp=>D.int p.1) (d.map λp=>sO p.2) i=(d.map λp=>D.tup [Z p.1,sO p.2])[i]?:=λi=>by
  unfold pairAt;rw[Qqw,Qqw,Qqw];cases d[i]?<;>rfl
 have h:=qqj (t:=.tup [0,1]) (it:=.zip (.var 2) (.var 1)) (sr:=[B,B,Y 3]) (λ_=>Y (.bl O)) (λτ=>∃a b,τ=[a,b,Y ?B])
  (by
   have s:(RL (callD fns (m+1))).ev [Y ?c,Y (.tup (d.map λp=>sO p.2)),Y (.tup (d.map λp=>Z p.1)),Y ?B] (st++?z) (.var 2)=Y (.tup (d.map λp=>Z p.1),st++?z):=qqo _ _ _ _ _ rfl;have u:(RL (callD fns (m+1))).ev [Y ?c,Y (.tup (d.map λp=>sO p.2)),Y (.tup (d.map λp=>Z p.1)),Y ?B] (st++?z) (.var 1)=Y (.tup (d.map λp=>sO p.2),st++?z):=qqo _ _ _ _ _ rfl;show((RL (callD fns (m+1))).ev _ _ (.var 2)).bind _=_;rw[s];show((RL (callD fns (m+1))).ev _ _ (.var 1)).bind _=_;rw[u]
   rfl) (λi=>by rw[<- j]; rfl) (by simp[Src.size,rowAt]) (by simp; unfold lim; lia) ⟨B,B,rfl⟩ (λτ x l f=>by
   obtain⟨a,b,rfl⟩:=f;obtain⟨p,f,rfl⟩:=Qqj.mp l;obtain⟨lo,hi,hg,n,g⟩:=hf p f;refine⟨[Y (Z p.1),Y (sO p.2),Y ?B],?_,Y (Z p.1),Y (sO p.2),rfl⟩;have:=qzw (fns:=fns) (k:=m) (τ:=[Y (Z p.1),Y (sO p.2),Y ?B]) (st:=st++?z) (e:=.call 30 [.var 0,.didx (.var 2) (.var 1)]) (r:=(.bl O,st++?z)) 0 [30] 1 (λq=>_/\_/\_/\q) [.r (.dic O (bD W H P)),.q (Y (.tup [Z lo,Z hi])),.c (.bl O,st++?z)] ⟨gl (st:=st) (c:=.dic O (bD W H P)),hg,qnl m (st++?z) n g,rfl⟩
   exact qk6 rfl this)
 have o:(d.map λp=>D.tup [Z p.1,sO p.2]).filterMap (λ_=>Y (D.bl O))=(d.map λ_=>O).map .bl:=by
  rw[Qxo,Qqo];exact Qx2▸rfl
 rw[o]at h;have g:bfun (st++?z) .all [.lst ((d.map λ_=>O).map .bl)]=Y (.bl O,st++?z):=by
  show(asBools _).map _=_;rw[asB];exact congrArg (λb=>Y (D.bl b,_)) (by simp)
 exact qzz 0 [29] 2 (λq=>_/\_/\_/\_/\_/\q) [.b Y5,.c (Y1 st.length,st++?z),.c (Y1 (st++[Yb.dic O (bD W H P)]).length,st++?z++[Y6 O ((d.map λ_=>O).map .bl)]),.l ((d.map λ_=>O).map .bl),.c (.bl O,st++?z)] ⟨h1,qfx m st W H P,h,qzb (st:=st++?z) (nlB (d.map λ_=>O)),g,rfl⟩
def tkl{c:Yb}:(st++[c]).take st.length=st:=by simp
def gB(st:Y3)(c):noLoc (.bl O)=O/\(st++[c]).take st.length=st:=⟨rfl,tkl⟩
section
def qbp(b:1<=n)(a:n<=400):Fit W H P (n,"day"):=⟨1,400,by kernel_rfl,b,a⟩
def qed(b:1<=n)(a:n<=40):Fit W H P (n,"folk"):=⟨1,40,by kernel_rfl,b,a⟩
def f_x(a:0<=n)(b:n<W):Fit W H P (n,"x"):=⟨0,W - 1,by kernel_rfl,a,by simp; lia⟩
def f_y(a:0<=n)(b:n<H):Fit W H P (n,"y"):=⟨0,H - 1,by kernel_rfl,a,by simp; lia⟩
def qnn(b:1<=n)(a:n<=P):Fit W H P (n,"below"):=⟨1,P,by kernel_rfl,b,a⟩
def f_side(b:0<=n)(a:n<=1):Fit W H P (n,"side"):=⟨0,1,by kernel_rfl,b,a⟩
def f_line(b:1<=n)(a:n<=23):Fit W H P (n,"line"):=⟨1,23,by kernel_rfl,b,a⟩
def f_step(b:0<=n)(a:n<=4):Fit W H P (n,"step"):=⟨0,4,by kernel_rfl,b,a⟩
def s_work(m)(st)(b:1<=n)(a:n<=400):callD fns (m+3) 37 [szD W H P,Y9 [sO "work",Z n]] st=Y (.bl O,st):=
 qzz 0 [31] 3 (λq=>_/\_/\q) [.c (.bl O,st++?z),.g] ⟨qxu m st (W:=W) (H:=H) (P:=P) [(n,"day")] (by simp) (by simp only[Qqb,forall_eq]; exact qbp b a),gB st (.dic O (bD W H P)),rfl⟩
def s_give(m)(st)(b:1<=n)(a:n<=400):callD fns (m+3) 37 [szD W H P,Y9 [sO "give",Z n]] st=Y (.bl O,st):=
 qzz 0 [31] 3 (λq=>_/\_/\q) [.c (.bl O,st++?z),.g] ⟨qxu m st (W:=W) (H:=H) (P:=P) [(n,"day")] (by simp) (by simp only[Qqb,forall_eq]; exact qbp b a),gB st (.dic O (bD W H P)),rfl⟩
def s_sell(m)(st)(d:1<=n)(c:n<=400)(b:1<=o)(a:o<=40):callD fns (m+3) 37 [szD W H P,Y9 [sO "sell",Z n,Z o]] st=Y (.bl O,st):=
 qzz 0 [31] 3 (λq=>_/\_/\q) [.c (.bl O,st++?z),.g] ⟨qxu m st (W:=W) (H:=H) (P:=P) [(n,"day"),(o,"folk")] (by simp) (by simp only[Qqy,Qzq,or_false,forall_eq_or_imp,forall_eq]; exact⟨qbp d c,qed b a⟩),gB st (.dic O (bD W H P)),rfl⟩
def s_part(m)(st)(h:1<=n)(g:n<=400)(f:0<=s)(e:s<=1)(d:1<=l)(c:l<=23)(b:1<=o)(a:o<=40):callD fns (m+3) 37 [szD W H P,Y9 [sO "part",Z n,Z s,Z l,Z o]] st=Y (.bl O,st):=
 qzz 0 [31] 3 (λq=>_/\_/\q) [.c (.bl O,st++?z),.g] ⟨qxu m st (W:=W) (H:=H) (P:=P) [(n,"day"),(s,"side"),(l,"line"),(o,"folk")] (by simp) (by simp only[Qqy,Qzq,or_false,forall_eq_or_imp,forall_eq]; exact⟨qbp h g,f_side f e,f_line d c,qed b a⟩),gB st (.dic O (bD W H P)),rfl⟩
def s_join(m)(st)(i:1<=a)(h:a<=400)(g:1<=b)(e:b<=400)(d:1<=f)(c:f<=P):callD fns (m+3) 37 [szD W H P,Y9 [sO "join",Z a,Z b,Z f]] st=Y (.bl O,st):=
 qzz 0 [31] 3 (λq=>_/\_/\q) [.c (.bl O,st++?z),.g] ⟨qxu m st (W:=W) (H:=H) [(a,"day"),(b,"day"),(f,"below")] (by simp) (by simp only[Qqy,Qzq,or_false,forall_eq_or_imp,forall_eq]; exact⟨qbp i h,qbp g e,qnn d c⟩),gB st (.dic O (bD W H P)),rfl⟩
def s_stake(m)(st){g:J×J×J×J}(i:1<=o)(h:o<=40)(f:0<=g.1)(e:g.1<=g.2.2.1)(d:g.2.2.1<W)(c:0<=g.2.1)(b:g.2.1<=g.2.2.2)(a:g.2.2.2<H):callD fns (m+3) 37 [szD W H P,Y9 ?t] st=Y (.bl O,st):=
 qzz 0 [31] 3 (λq=>_/\_/\_/\_/\q) [.c (.bl O,st++?z),.g,.b O,.b O] ⟨qxu m st (P:=P) [(o,"folk"),(g.1,"x"),(g.2.1,"y"),(g.2.2.1,"x"),(g.2.2.2,"y")] (by simp) (by simp only[Qqy,Qzq,or_false,forall_eq_or_imp,forall_eq]; exact⟨qed i h,f_x f (by lia),f_y c (by lia),f_x (by lia) d,f_y (by lia) a⟩),gB st (.dic O (bD W H P)),Z5 e,Z5 b,rfl⟩
def Cin(W H:J)(p:J×J):Prop:=0<=p.1/\p.1<W/\0<=p.2/\p.2<H
def qnu(m)(st)(h:Cin W H p):callD fns (m+3) 32 [szD W H P,cD p] st=Y (.bl O,st):=
 qzz 0 [31] 3 (λq=>_/\_/\q) [.c (.bl O,st++?z),.g] ⟨qxu m st (P:=P) [(p.1,"x"),(p.2,"y")] (by simp) (by simp only[Qqy,Qzq,or_false,forall_eq_or_imp,forall_eq]; exact⟨f_x h.1 h.2.1,f_y h.2.2.1 h.2.2.2⟩),gB st (.dic O (bD W H P)),rfl⟩
theorem qj4:∀(ks:L (L J)),ks.Nodup->∀S,(S++ks).Nodup->ks.foldl addK S=S++ks
 |[],_,S,_=>by simp
 |k::r,h,S,a=>by
  rw[Qjf];have:addK S k=S++[k]:=by
   unfold addK;rw[Z7];rw[Qzf]at a;exact λz=>a.2.2 k z k (Qq3 ..) rfl
  rw[this,qj4 r (Qq8.mp h).2 (S++[k]) (by simpa using a)];simp
theorem qiv:∀ps:L (J×J),(?g).mapM keyD=Y (ps.map λp=>[p.1,p.2])
 |[]=>rfl
 |p::r=>by
  rw[Qqm,Qkb,qiv r]
  rfl
def qm4{ps:L (J×J)}(d:ps.Nodup)(e:ps.length<=16):qva (Y9 ?g)=Y (Z (ps.length:J)):=by
 show((?g).mapM keyD).bind _=_;rw[qiv];have h:(ps.map λp=>[p.1,p.2]).Nodup:=by
  refine List.Pairwise.map _ (λa b c z=>c ?_) d;simp only[List.cons.injEq,and_true]at z;exact Prod.ext z.1 z.2
 show(if (?g).length<=16 then _ else _)=_;rw[Z8 (by simpa using e)];unfold distinct;rw[qj4 _ h [] (by simpa using h)];simp
def s_vein(m)(st){a:L J}{ps:L (J×J)}(A:(a.length:J)=P)(v:a.length<=100)(hs:∀s∈a,0<=s/\s<=4)(C:1<=ps.length)(w:ps.length<=16)(t:ps.Nodup)(hc:∀p∈ps,Cin W H p):callD fns (m+6) 37 [szD W H P,Y9 [sO "vein",Y9 (a.map Z),Y9 ?g]] st=Y (.bl O,st):=by
 have d:=qxu (m+1) st (W:=W) (H:=H) (P:=P) (a.map λs=>(s,"step")) (by simp; lia) (λp g=>by obtain⟨s,e,rfl⟩:=Qqj.mp g; exact f_step (hs s e).1 (hs s e).2);rw[Qqo,Qqo]at d;have z:a.map ((λp:J×String=>sO p.2)∘λs=>(s,"step"))=List.replicate a.length (sO "step"):=by
  rw[List.eq_replicate_iff];refine⟨by simp,λb hb=>?_⟩;obtain⟨s,_,rfl⟩:=Qqj.mp hb
  rfl
 have y:a.map ((λp:J×String=>D.int p.1)∘λs=>(s,"step"))=a.map Z:=rfl;rw[z,y]at d;have u:binop st .Mult (Y9 [sO "step"]) (Z P)=Y (Y9 (List.replicate a.length (sO "step")),st):=by
  show(if decide (P < -(2 ^ 62))||decide (2 ^ 62<=P)||decide (lim<1*P.toNat) then B else Y (D.tup (List.replicate P.toNat [sO "step"]).flatten,st))=_;have:P.toNat=a.length:=by lia
  rw[Z7 (by simp; unfold lim; lia),this]
  congr 3
  induction a.length with
  |zero=>rfl
  |succ k r=>rw[Qz0,Qxw,r]; rfl
 have n:decide ((1:J)<=((?g).length:Y0))=true:=Z5 (by simp; lia);have l:decide (((?g).length:J)<=16)=true:=Z5 (by simp; lia);have f:=qxg (c:=callD fns (m+3)) (τ:=[Y ?c,Y (Y9 ?g)]) (st:=st) (i:=1) (elt:=.call 32 [Yd 1,Yd 0]) (sr:=[B,Y 0]) ps cD (λ_=>.bl O) rfl rfl (by unfold lim; lia) rfl λp g=>qzw 0 [32] 3 (λq=>_/\q) [.c (.bl O,st)] ⟨qnu m st (P:=P) (hc p g),rfl⟩;have x:ps.map (λ_=>D.bl O)=(ps.map λ_=>O).map .bl:=by rw[Qqo]; rfl
 rw[x]at f;have o:bfun st .all [Yc ((ps.map λ_=>O).map .bl)]=Y (.bl O,st):=by
  show(asBools _).map _=_;rw[asB];exact congrArg (λb=>Y (D.bl b,_)) (by simp)
 have h:qva (Y9 ?g)=Y (Z ((?g).length:J)):=by rw[qm4 t w]; simp
 have j:(((?g).length:J)==((?g).length:Y0))=true:=by simp
 exact qzz 0 [31,32] 6 (λq=>_/\_/\_/\_/\_/\_/\_/\_/\_/\_/\q) [.k,.c (Y9 (List.replicate a.length (sO "step")),st),.c (.bl O,st++?z),.g,.b O,.b O,.c (Y1 st.length,st++[Y6 O ((ps.map λ_=>O).map .bl)]),.l ((ps.map λ_=>O).map .bl),.c (.bl O,st),.i (Z ((?g).length:J)),.b O] ⟨u,d,gB st (.dic O (bD W H P)),n,l,f,qzb (st:=st) (nlB (ps.map λ_=>O)),o,h,j,rfl⟩
end
noncomputable def scr(ns:L J):D:=.lst (ns.map .int)
def modE(a)(h:0<b):∃v,(∀S,binop S .Mod (Z a) (Z b)=Y (Z v,S))/\0<=v/\v<b:=⟨_,λS=>bMo S a h,Int.emod_nonneg _ (by lia),Int.emod_lt_of_pos _ h⟩
def divE(a)(h:0<b)(c:b<2 ^ 64):∃v,∀S,binop S .FloorDiv (Z a) (Z b)=Y (Z v,S):=⟨_,λS=>bDi S a h c⟩
noncomputable def itD:Y0->J->J
 |0,a=>a
 |n+1,a=>itD n a / 10000000000
noncomputable abbrev drT(ns:L J)(k j many cell turn rest:J)(o:Y2 D):Sl:=[Y (scr ns),Y (.int k),Y (.int j),Y (.int many),Y (.int cell),Y (.int turn),Y (.int rest),o,B,B]
def qem(m)(st)(hj:0<=j)(f:j<100000):∃o,stepEx ?s (drT ns k j many cell turn cell B) st (.forr (.var 7) (.rng1 (.var 2)) [.set (.var 6) (.bin .FloorDiv (.var 6) (.bin .Pow (.lit (Z 10)) (.lit (Z 10))))])=Y (.nx (drT ns k j many cell turn (itD j.toNat cell) o),st):=by
 obtain⟨a,st',e,o,rfl,rfl⟩:=qz4 (c:=callD fns m) (τ:=drT ns k j many cell turn cell B) (st:=st) (it:=.rng1 (.var 2)) (s:=.rng 0 j.toNat) (ds:=(List.range j.toNat).map λ(i:Y0)=>D.int (0+i)) (t:=.var 7) (body:=[.set (.var 6) (.bin .FloorDiv (.var 6) (.bin .Pow (.lit (Z 10)) (.lit (Z 10))))])
  (λi a st'=>∃o,a=drT ns k j many cell turn (itD i cell) o/\st'=st)
  (by
   have e:(?s).ev (drT ns k j many cell turn cell B) st (.var 2)=Y (Z j,st):=qqo _ _ _ _ _ rfl;show((?s).ev _ _ (.var 2)).bind _=_;rw[e];show(if big j=O then B else Y (Src.rng 0 j.toNat,st))=_
   rw[Z7 (by unfold big; simp; lia)])
  (by simp[Src.size]) (λi _ _ _=>qj8 _ _ _) ⟨B,rfl,rfl⟩ (λi a st' d hd h=>by
   obtain⟨o,rfl,rfl⟩:=h;rw[Qqw]at hd;obtain⟨x,_,rfl⟩:=Qqd.mp hd;refine⟨drT ns k j many cell turn (itD i cell / 10000000000) (Y (Z (0+x))),st',?_,_,rfl,rfl⟩;show (?s).ex (drT ns k j many cell turn (itD i cell) (Y (Z (0+x)))) st' _=_
   exact qze (k:=m) 0 [] 0 (λq=>_/\q) [.c (Z (itD i cell / 10000000000),st')] ⟨bDi st' (itD i cell) (b:=10000000000) (by decide) (by decide),rfl⟩)
 rw[Qqz,Qj3]at e;exact⟨o,e⟩
noncomputable abbrev drZ(o y t z w x u v:J)(S:Y3):Tp:=[.b O,.b O,.b O,.c (.int o,S),.b O,.c (.int y,S),.c (.int t,S),.c (.int z,S),.b O,.c (.int w,S),.b O,.b O,.c (.int x,S),.c (.int u,S),.c (.int v,S)]
noncomputable abbrev drX(a c t:J)(τ:Sl)(S:Y3)(r:Tp):Tp:=.b O::.c (.int a,S)::.i (.int c)::.c (.int t,S)::.s (.nx τ,S)::r
def dr0(X:ns.length<=63)(k j)(hj:0<=j)(f:j<100000)(s:0<many):∃v:J,(∀m st,callD fns (m+1) 53 [scr ns,Z k,Z j,Z many] st=Y (Z v,st))/\0<=v/\v<many:=by
 obtain⟨cell,c,pre⟩:∃cell c:J,(ns=[]/\cell=0/\c=1)\/(0<((ns.map D.int).length:J)/\∃a,(∀S,binop S .Mod (Z k) (Z (ns.map D.int).length)=Y (Z a,S))/\(∀S,idxD S (scr ns) (Z a)=Y (Z cell))/\∀S,binop S .FloorDiv (Z k) (Z (ns.map D.int).length)=Y (Z c,S)):=by
  by_cases t:ns=[]
  ·exact⟨0,1,.inl ⟨t,rfl,rfl⟩⟩
  ·have W:=Qxl.mpr t;have d:(ns.map D.int).length=ns.length:=Qqz _;have e:0<((ns.map D.int).length:J):=by lia
   obtain⟨a,h,Q,P⟩:=modE k e;obtain⟨b,h'⟩:=divE k e (by lia);have p:a.toNat<ns.length:=by lia
   exact⟨ns[a.toNat],b,.inr ⟨e,a,h,λS=>by simp only[scr,idxD,seqAt,oBs,atI,ixN,Q,if_true,P,Qqw,Qqh p,oMs],h'⟩⟩
 obtain⟨one,h1,V,U⟩:=modE (cell*7919+k*104729+j*1299709+31) (b:=1000000007) (by decide);obtain⟨y,h2⟩:=divE cell (b:=1009) (by decide) (by decide);obtain⟨two,I,_,_⟩:=modE (one*48271+y) (b:=998244353) (by decide);obtain⟨z,H,T,R⟩:=modE one (b:=9973) (by decide);obtain⟨tw,p,_,_⟩:=modE (two*(z+1)+j) (b:=1000000009) (by decide);obtain⟨w,G⟩:=divE tw (b:=1013) (by decide) (by decide);obtain⟨u,F,_,_⟩:=modE (one*69621+tw*40692+w) (b:=2147483647) (by decide);obtain⟨v,E,i,g⟩:=modE u s;obtain⟨x,N,_,_⟩:=modE (itD j.toNat cell) (b:=10000000000) (by decide);obtain⟨r,K,C,A⟩:=modE x s;have tl:=λst=>(⟨qz7 (by decide) (by decide),qz7 (by decide) (by decide),qz7 (by decide) (by decide),h1 st,qz7 (by decide) (by decide),h2 st,I st,H st,qz7 (by lia) (by lia),p st,qz7 (by decide) (by decide),qz7 (by decide) (by decide),G st,F st,E st,rfl⟩:mulOk cell 7919=O/\mulOk k 104729=O/\mulOk j 1299709=O/\_/\mulOk one 48271=O/\_/\_/\_/\mulOk two (z+1)=O/\_/\mulOk one 69621=O/\mulOk tw 40692=O/\_/\_/\_/\(D.int v,st)=(D.int v,st))
 rcases pre with⟨rfl,rfl,rfl⟩|⟨e,a,p1,p2,l⟩
 ·refine⟨v,λm st=>?_,i,g⟩;obtain⟨o,d⟩:=qem m st (ns:=[]) (k:=k) (many:=many) (cell:=0) (turn:=1) hj f;exact qzz (k:=m) 0 [] 1 (λq=>_/\_/\_/\_/\_/\_/\_/\_/\_/\_/\_/\_/\_/\_/\_/\_/\_/\_/\q) (.b Y5::.s (.nx (drT [] k j many 0 1 (itD j.toNat 0) o),st)::.b Y5::drZ one y two z tw w u v st) ⟨(rfl:decide ((0:J)<0)=Y5),d,(rfl:((1:J)==0)=Y5),tl st⟩
 ·have n:decide (0<((ns.map D.int).length:J))=true:=Z5 e;have lp:=λm st=>qem m st (ns:=ns) (k:=k) (many:=many) (cell:=cell) (turn:=c) hj f
  by_cases c1:c=0
  ·by_cases c2:1000000000000000000<=cell
   ·by_cases c3:0<itD j.toNat cell
    ·refine⟨r,λm st=>?_,C,A⟩;obtain⟨o,d⟩:=lp m st;exact qzz (k:=m) 0 [] 1 (λq=>_/\_/\_/\_/\_/\_/\_/\_/\_/\_/\q) (drX a cell c (drT ns k j many cell c (itD j.toNat cell) o) st [.b O,.b O,.b O,.c (Z x,st),.c (Z r,st)]) ⟨n,p1 st,p2 st,l st,d,beq_iff_eq.mpr c1,Z5 c2,Z5 c3,N st,K st,rfl⟩
    ·refine⟨v,λm st=>?_,i,g⟩;obtain⟨o,d⟩:=lp m st;exact qzz (k:=m) 0 [] 1 (λq=>_/\_/\_/\_/\_/\_/\_/\_/\_/\_/\_/\_/\_/\_/\_/\_/\_/\_/\_/\_/\_/\_/\_/\q) (drX a cell c (drT ns k j many cell c (itD j.toNat cell) o) st (.b O::.b O::.b Y5::drZ one y two z tw w u v st)) ⟨n,p1 st,p2 st,l st,d,beq_iff_eq.mpr c1,Z5 c2,Z6 c3,tl st⟩
   ·refine⟨v,λm st=>?_,i,g⟩;obtain⟨o,d⟩:=lp m st;exact qzz (k:=m) 0 [] 1 (λq=>_/\_/\_/\_/\_/\_/\_/\_/\_/\_/\_/\_/\_/\_/\_/\_/\_/\_/\_/\_/\_/\_/\q) (drX a cell c (drT ns k j many cell c (itD j.toNat cell) o) st (.b O::.b Y5::drZ one y two z tw w u v st)) ⟨n,p1 st,p2 st,l st,d,beq_iff_eq.mpr c1,Z6 c2,tl st⟩
  ·refine⟨v,λm st=>?_,i,g⟩;obtain⟨o,d⟩:=lp m st;exact qzz (k:=m) 0 [] 1 (λq=>_/\_/\_/\_/\_/\_/\_/\_/\_/\_/\_/\_/\_/\_/\_/\_/\_/\_/\_/\_/\_/\q) (drX a cell c (drT ns k j many cell c (itD j.toNat cell) o) st (.b Y5::drZ one y two z tw w u v st)) ⟨n,p1 st,p2 st,l st,d,beq_eq_false_iff_ne.mpr c1,tl st⟩
section
variable {ns:L J}(hn:ns.length<=63)
include hn
theorem dr(m)(st)(k j)(hj:0<=j)(b:j<100000)(c:0<many):∃v:J,callD fns (m+1) 53 [scr ns,Z k,Z j,Z many] st=Y (Z v,st)/\0<=v/\v<many:=by
 obtain⟨v,h,a⟩:=dr0 hn k j hj b c;exact⟨v,h m st,a⟩
theorem qld(m)(st)(k):∃W H P:J,callD fns (m+2) 54 [scr ns,Z k] st=Y (szD W H P,st)/\1<=W/\W<=24/\1<=H/\H<=24/\0<=P/\P<=12/\(H<=3/\P<=2\/W<=3/\P<=2\/W<=3/\H<=3\/W<=6/\H<=6/\P<=5):=by
 obtain⟨a,h,u,t⟩:=dr hn m st k 0 (many:=6) (by decide) (by decide) (by decide);obtain⟨b,hb,b1,b2⟩:=dr hn m st k 1 (many:=6) (by decide) (by decide) (by decide);obtain⟨c,hc,c1,c2⟩:=dr hn m st k 2 (many:=6) (by decide) (by decide) (by decide);obtain⟨e,g,s,p⟩:=dr hn m st k 3 (many:=12) (by decide) (by decide) (by decide);have n:=qzb (st:=st) (ds:=[Y9 [Z 24,Z (1+(1+b) / 3),Z (c / 2)],Y9 [Z (1+(1+a) / 3),Z 24,Z (c / 2)]]) rfl;have l:=qzb (st:=st) (ds:=[Y9 [Z (1+(1+a) / 3),Z (1+(1+b) / 3),Z 12],Y9 [Z (1+a),Z (1+b),Z c]]) rfl;have j:=qzb (st:=st) (ds:=?y) rfl;have d:∀(i:J) (r:D),(if decide (e<3) then e else 3)=i->idxD st (Yc ?y) (Z i)=Y r->callD fns (m+2) 54 [scr ns,Z k] st=Y (r,st):=λi r hi hr=>by
  rw[<- hi]at hr
  by_cases f:e<3
  ·rw[Z5 f]at hr;exact qzz 0 [53] 2 (λq=>_/\_/\_/\_/\_/\_/\_/\_/\_/\q) [.c (Z a,st),.c (Z b,st),.c (Z c,st),.l [Y9 [Z 24,Z (1+(1+b) / 3),Z (c / 2)],Y9 [Z (1+(1+a) / 3),Z 24,Z (c / 2)]],.l [Y9 [Z (1+(1+a) / 3),Z (1+(1+b) / 3),Z 12],Y9 [Z (1+a),Z (1+b),Z c]],.k,.l ?y,.c (Z e,st),.b O,.i r] ⟨h,hb,hc,n,l,j,g,Z5 f,hr,rfl⟩
  ·rw[Z6 f]at hr;exact qzz 0 [53] 2 (λq=>_/\_/\_/\_/\_/\_/\_/\_/\_/\q) [.c (Z a,st),.c (Z b,st),.c (Z c,st),.l [Y9 [Z 24,Z (1+(1+b) / 3),Z (c / 2)],Y9 [Z (1+(1+a) / 3),Z 24,Z (c / 2)]],.l [Y9 [Z (1+(1+a) / 3),Z (1+(1+b) / 3),Z 12],Y9 [Z (1+a),Z (1+b),Z c]],.k,.l ?y,.c (Z e,st),.b Y5,.i r] ⟨h,hb,hc,n,l,j,g,Z6 f,hr,rfl⟩
 by_cases o:e=0
 ·exact⟨24,1+(1+b) / 3,c / 2,d 0 _ (by subst o; rfl) rfl,by lia,by lia,by lia,by lia,by lia,by lia,by lia⟩
 ·by_cases h1:e=1
  ·exact⟨1+(1+a) / 3,24,c / 2,d 1 _ (by subst h1; rfl) rfl,by lia,by lia,by lia,by lia,by lia,by lia,by lia⟩
  ·by_cases h2:e=2
   ·exact⟨1+(1+a) / 3,1+(1+b) / 3,12,d 2 _ (by subst h2; rfl) rfl,by lia,by lia,by lia,by lia,by lia,by lia,by lia⟩
   ·exact⟨1+a,1+b,c,d 3 _ (by rw[Z6 (by lia)]; rfl) rfl,by lia,by lia,by lia,by lia,by lia,by lia,by lia⟩
theorem qlj(m)(st)(k):∃T:J,callD fns (m+2) 55 [scr ns,Z k] st=Y (Z T,st)/\1<=T/\T<=400:=by
 obtain⟨a,e,i,f⟩:=dr hn m st k 5 (many:=400) (by decide) (by decide) (by decide);obtain⟨b,hb,b1,b2⟩:=dr hn m st k 4 (many:=4) (by decide) (by decide) (by decide);have g:=qzb (st:=st) (ds:=[Z (1+a),Z (1+a % 4),Z (4+a % 50),Z (4+a % 50)]) rfl;have c:∀T:J,idxD st (Yc [Z (1+a),Z (1+a % 4),Z (4+a % 50),Z (4+a % 50)]) (Z b)=Y (Z T)->callD fns (m+2) 55 [scr ns,Z k] st=Y (Z T,st):=λT h=>
  qzz 0 [53] 2 (λq=>_/\_/\_/\_/\q) [.c (Z a,st),.l [Z (1+a),Z (1+a % 4),Z (4+a % 50),Z (4+a % 50)],.c (Z b,st),.i (Z T)] ⟨e,g,hb,h,rfl⟩
 have d:b=0\/b=1\/b=2\/b=3:=by lia
 rcases d with rfl|rfl|rfl|rfl
 ·exact⟨1+a,c _ rfl,by lia,by lia⟩
 ·exact⟨1+a % 4,c _ rfl,by lia,by lia⟩
 ·exact⟨4+a % 50,c _ rfl,by lia,by lia⟩
 ·exact⟨4+a % 50,c _ rfl,by lia,by lia⟩
theorem qlp(m)(st)(k j)(hj:0<=j)(i:j<1000)(d:0<W)(f:0<H):∃g:J×J×J×J,callD fns (m+2) 57 [scr ns,Z k,Z j,Z W,Z H] st=Y (rD g,st)/\0<=g.1/\g.1<=g.2.2.1/\g.2.2.1<W/\0<=g.2.1/\g.2.1<=g.2.2.2/\g.2.2.2<H:=by
 obtain⟨a,n,s,r⟩:=dr hn m st k j hj (by lia) d;obtain⟨b,hb,b1,b2⟩:=dr hn m st k (j+1) (by lia) (by lia) d;obtain⟨c,hc,c1,c2⟩:=dr hn m st k (j+2) (by lia) (by lia) f;obtain⟨e,l,p,o⟩:=dr hn m st k (j+3) (by lia) (by lia) f;have so:∀x y:J,bfun st .sorted [Yc [Z x,Z y]]=Y (Y1 st.length,st++[Y6 O [Z (min x y),Z (max x y)]]):=λx y=>by
  show Y (alloc st (Y6 O ((sortInt [x,y]).map Z)))=_;have:sortInt [x,y]=[min x y,max x y]:=by
   show(if x<=y then [x,y] else [y,x])=_
   by_cases h:x<=y
   ·rw[Z8 h,Int.min_eq_left h,Int.max_eq_right h]
   ·rw[Z7 h,Int.min_eq_right (by lia),Int.max_eq_left (by lia)]
  rw[this]
  rfl
 refine⟨(min a b,min c e,max a b,max c e),?_,by simp only; lia,by simp only; lia,by simp only; lia,by simp only; lia,by simp only; lia,by simp only; lia⟩;exact qzz 0 [53] 2 (λq=>_/\_/\_/\_/\_/\_/\_/\_/\_/\_/\q) [.c (Z a,st),.c (Z b,st),.l [Z a,Z b],.c (Y1 st.length,st++[Y6 O [Z (min a b),Z (max a b)]]),.l [Z (min a b),Z (max a b)],.c (Z c,st),.c (Z e,st),.l [Z c,Z e],.c (Y1 st.length,st++[Y6 O [Z (min c e),Z (max c e)]]),.l [Z (min c e),Z (max c e)]] ⟨n,hb,qzb (st:=st) (ds:=[Z a,Z b]) rfl,so a b,qzb (st:=st) (ds:=[Z (min a b),Z (max a b)]) rfl,hc,l,qzb (st:=st) (ds:=[Z c,Z e]) rfl,so c e,qzb (st:=st) (ds:=[Z (min c e),Z (max c e)]) rfl,rfl⟩
theorem qhl(m)(st)(k j)(hj:0<=j)(c:j<1000):∃o:J,callD fns (m+2) 60 [scr ns,Z k,Z j] st=Y (Z o,st)/\1<=o/\o<=40:=by
 obtain⟨a,d,f,e⟩:=dr hn m st k (j+1) (many:=6) (by lia) (by lia) (by decide);have g:=qzb (st:=st) (ds:=[Z 40,Z 4,Z 4,Z 4,Z 4,Z 4]) rfl;have ⟨w,hw,w1,w2⟩:∃w:J,idxD st (Yc [Z 40,Z 4,Z 4,Z 4,Z 4,Z 4]) (Z a)=Y (Z w)/\0<w/\w<=40:=by
  have:a=0\/a=1\/a=2\/a=3\/a=4\/a=5:=by lia
  rcases this with rfl|rfl|rfl|rfl|rfl|rfl
  ·exact⟨40,rfl,by decide,by decide⟩
  all_goals exact⟨4,rfl,by decide,by decide⟩
 obtain⟨b,hb,b1,b2⟩:=dr hn m st k j hj (by lia) w1;exact⟨1+b,qzz 0 [53] 2 (λq=>_/\_/\_/\_/\q) [.l [Z 40,Z 4,Z 4,Z 4,Z 4,Z 4],.c (Z a,st),.i (Z w),.c (Z b,st)] ⟨g,d,hw,hb,rfl⟩,by lia,by lia⟩
theorem qyq(m)(st)(k j)(hj:0<=j)(l:j<1000){xs:L J}(i:∀x∈xs,1<=x/\x<=400):∃n:J,callD fns (m+2) 61 [scr ns,Z k,Z j,Yc (xs.map Z)] st=Y (Z n,st)/\1<=n/\n<=400:=by
 obtain⟨b,hb,b1,b2⟩:=dr hn m st k (j+1) (many:=400) (by lia) (by lia) (by decide)
 by_cases f:xs=[]
 ·subst f;exact⟨1+b,qzz 0 [53] 2 (λq=>_/\q) [.k,.c (Z b,st)] ⟨hb,rfl⟩,by lia,by lia⟩
 ·have o:=Qxl.mpr f;have h:(((xs.map D.int).length:J)==0)=false:=by
   rw[beq_eq_false_iff_ne];simp;exact f
  obtain⟨a,g,r,p⟩:=dr hn m st k j (many:=14) (by lia) (by lia) (by decide)
  by_cases h1:a=0
  ·exact⟨1+b,qzz 0 [53] 2 (λq=>_/\_/\_/\_/\q) [.b Y5,.c (Z a,st),.b O,.c (Z b,st)] ⟨h,g,(show(a==0)=O by simpa using h1),hb,rfl⟩,by lia,by lia⟩
  ·obtain⟨c,hc,c1,c2⟩:=dr hn m st k (j+1) (many:=((xs.map D.int).length:J)) (by lia) (by lia) (by simp; lia);rw[Qqz]at c2;have hi:c.toNat<xs.length:=by lia
   have d:=i xs[c.toNat] (Qxi hi);have e:idxD st (Yc (xs.map Z)) (Z c)=Y (Z xs[c.toNat]):=by
    show atI (xs.map D.int) c=_;unfold atI ixN;rw[Z8 c1,Z8 (by simpa using c2)];simp[Qqh hi]
   exact⟨xs[c.toNat],qzz 0 [53] 2 (λq=>_/\_/\_/\_/\_/\q) [.b Y5,.c (Z a,st),.b Y5,.c (Z c,st),.i (Z xs[c.toNat])] ⟨h,g,(show(a==0)=Y5 by simpa using h1),hc,e,rfl⟩,d.1,d.2⟩
end
section
variable {ns:L J}(hn:ns.length<=63)
include hn
omit hn in
noncomputable def stT(d:J):Int:=[0,1,2,3,4,0,0].getD d.toNat 0
theorem qf5(m)(st)(k j)(hj:0<=j)(u:j<1000)(w:0<=P)(p:P<=12):∃f:L J,callD fns (m+2) 58 [scr ns,Z k,Z j,Z P] st=Y (.tup (f.map Z),st)/\(f.length:J)=P/\∀s∈f,0<=s/\s<=4:=by
 obtain⟨c,o⟩:=Classical.axiomOfChoice (λx:J=>show ∃v:J,(0<=x->x<100000->∀m st,callD fns (m+1) 53 [scr ns,Z k,Z x,Z 7] st=Y (Z v,st))/\0<=v/\v<7 by
  by_cases h:0<=x/\x<100000
  ·obtain⟨v,a,b⟩:=dr0 hn k x (many:=7) h.1 h.2 (by decide);exact⟨v,λ_ _=>a,b⟩
  ·exact⟨0,λp h2=>absurd ⟨p,h2⟩ h,by decide⟩)
 have hr:(List.range P.toNat).map (λ(i:Y0)=>D.int (0+i))=(List.range P.toNat).map λ(i:Y0)=>D.int i:=Qzo λi _=>by simp
 have h:=qqj (t:=.var 0) (it:=.rng1 (.var 3)) (elt:=.idx (.gc (.lst [.lit (Z 0),.lit (Z 1),.lit (Z 2),.lit (Z 3),.lit (Z 4),.lit (Z 0),.lit (Z 0)])) (.call 53 [.var 3,.var 2,.bin .Add (.var 1) ?D,.lit (Z 7)])) (sr:=[B,Y 2,Y 1,Y 0]) (λd=>match d with|Z i=>Y (Z (stT (c (j+i))))|_=>B) (λτ=>∃a,τ=[a,Y (Z j),Y (Z k),Y (scr ns)])
  (by
   have e:(RL (callD fns (m+1))).ev [Y (scr ns),Y (Z k),Y (Z j),Y (Z P)] st (.var 3)=Y (Z P,st):=qqo _ _ _ _ _ rfl;show((RL (callD fns (m+1))).ev _ _ (.var 3)).bind _=_;rw[e];show(if big P=O then B else Y (Src.rng 0 P.toNat,st))=_
   rw[Z7 (by unfold big; simp; lia)])
  (λi=>by rw[qj8,hr]) (by simp[Src.size]) (by simp; unfold lim; lia) ⟨B,rfl⟩ (λτ d hd r=>by
   obtain⟨a,rfl⟩:=r;obtain⟨i,hi,rfl⟩:=Qqj.mp hd;have hi:=Qz6.mp hi;refine⟨[Y (Z (i:Y0)),Y (Z j),Y (Z k),Y (scr ns)],?_,Y (Z (i:Y0)),rfl⟩;obtain⟨hd,l,g⟩:=o (j+(i:Y0));have hd:=hd (by lia) (by lia) m st;have n:idxD st (.lst [Z 0,Z 1,Z 2,Z 3,Z 4,Z 0,Z 0]) (Z (c (j+(i:Y0))))=Y (Z (stT (c (j+(i:Y0))))):=by
    generalize c (j+(i:Y0))=v at l g ⊢;have:v=0\/v=1\/v=2\/v=3\/v=4\/v=5\/v=6:=by lia
    rcases this with rfl|rfl|rfl|rfl|rfl|rfl|rfl<;>rfl
   exact qk6 rfl (qzw 0 [53] 1 (λq=>_/\_/\_/\q) [.l [Z 0,Z 1,Z 2,Z 3,Z 4,Z 0,Z 0],.c (Z (c (j+(i:Y0))),st),.i (Z (stT (c (j+(i:Y0)))))] ⟨qzb (st:=st) (ds:=[Z 0,Z 1,Z 2,Z 3,Z 4,Z 0,Z 0]) rfl,hd,n,rfl⟩))
 have e:((List.range P.toNat).map λ(i:Y0)=>D.int i).filterMap (λd=>match d with|Z i=>Y (D.int (stT (c (j+i))))|_=>B)=((List.range P.toNat).map λ(i:Y0)=>stT (c (j+(i:Y0)))).map Z:=by
  rw[Qxo,Qqo];exact Qx2▸rfl
 rw[e]at h;refine⟨(List.range P.toNat).map λ(i:Y0)=>stT (c (j+(i:Y0))),qzz 0 [] 2 (λq=>_/\_/\q) [.c (Y1 st.length,st++[Y6 O (((List.range P.toNat).map λ(i:Y0)=>stT (c (j+(i:Y0)))).map Z)]),.l (((List.range P.toNat).map λ(i:Y0)=>stT (c (j+(i:Y0)))).map Z)] ⟨h,qzb (st:=st) (nlI ((List.range P.toNat).map λ(i:Y0)=>stT (c (j+(i:Y0))))),rfl⟩,by simp; lia,λs hs=>?_⟩;obtain⟨i,_,rfl⟩:=Qqj.mp hs;obtain⟨_,l,g⟩:=o (j+(i:Y0));generalize c (j+(i:Y0))=v at l g ⊢;have:v=0\/v=1\/v=2\/v=3\/v=4\/v=5\/v=6:=by lia
 rcases this with rfl|rfl|rfl|rfl|rfl|rfl|rfl<;>decide
omit hn in
theorem flat_c(ps:L (J×J)):flats 9 ?g=true:=by
 induction ps with
 |nil=>rfl
 |cons p r a=>show(flat 9 (cD p)&&flats 9 (r.map cD))=O; rw[a]; rfl
omit hn in
theorem any_c(ps:L (J×J))(p):((?g).any λy=>eqT y (cD p))=decide (p∈ps):=by
 induction ps with
 |nil=>rfl
 |cons a r b=>
  have e:eqT (cD a) (cD p)=decide (p=a):=by
   show((a.1==p.1)&&((a.2==p.2)&&O))=_;rw[Qxm,Qkx];simp only[Qqs,beq_iff_eq,decide_eq_true_eq];exact⟨λh=>Prod.ext h.1.symm h.2.symm,λh=>by rw[h]; exact⟨rfl,rfl⟩⟩
  rw[Qqm,Qxf,b,e];simp only[Qqy]
  by_cases h1:p=a<;>by_cases h2:p∈r<;>simp[h1,h2]
theorem qme(m)(st)(k j)(hj:0<=j)(a0:j<1000)(w1:1<=W)(T:W<=24)(h1:1<=H)(h2:H<=24):∃ps:L (J×J),callD fns (m+2) 59 [scr ns,Z k,Z j,szD W H P] st=Y (.tup ?g,st++[Y6 O ?g])/\1<=ps.length/\ps.length<=16/\ps.Nodup/\∀p∈ps,Cin W H p:=by
 have hc:0<W*H:=Int.mul_pos (by lia) (by lia);have a3:=Int.mul_le_mul T h2 (by lia) (by lia);obtain⟨f,hf,f1,f2⟩:=dr hn m st k j hj (by lia) hc;obtain⟨g,hg,g1,g2⟩:=dr hn m st k (j+1) (by lia) (by lia) hc;obtain⟨a,K,a1,a2⟩:=dr hn m (st++[Y6 O []]) k (j+2) (many:=4) (by lia) (by lia) (by decide);have ⟨w,hw,S,x2⟩:∃w:J,idxD (st++[Y6 O []]) (.lst [Z 16,Z 4,Z 4,Z 4]) (Z a)=Y (Z w)/\0<w/\w<=16:=by
  have:a=0\/a=1\/a=2\/a=3:=by lia
  rcases this with rfl|rfl|rfl|rfl
  ·exact⟨16,rfl,by decide,by decide⟩
  all_goals exact⟨4,rfl,by decide,by decide⟩
 obtain⟨b,hb,b1,b2⟩:=dr hn m (st++[Y6 O []]) k (j+3) (by lia) (by lia) S;have I:(RL (callD fns (m+1))).ev [Y (scr ns),Y (Z k),Y (Z j),Y ?c,Y (Z (W*H)),Y (Z f),Y (Z (1+g)),Y ?B,B,B] (st++[Y6 O []]) (.bin .Add (.lit (Z 1)) (.call 53 [.var 0,.var 1,.bin .Add (.var 2) (.lit (Z 3)),.idx (.gc (.lst [.lit (Z 16),.lit (Z 4),.lit (Z 4),.lit (Z 4)])) (.call 53 [.var 0,.var 1,.bin .Add (.var 2) (.lit (Z 2)),.lit (Z 4)])]))=Y (Z (1+b),st++[Y6 O []]):=
  qzw 0 [53] 1 (λq=>_/\_/\_/\_/\q) [.l [Z 16,Z 4,Z 4,Z 4],.c (Z a,st++[Y6 O []]),.i (Z w),.c (Z b,st++[Y6 O []])] ⟨qzb (st:=st++[Y6 O []]) (ds:=[Z 16,Z 4,Z 4,Z 4]) rfl,K,hw,hb,rfl⟩
 obtain⟨h,st',h3,k',o,D,ps,rfl,rfl,p1,p2,C,A⟩:=qz4 (st:=st++[Y6 O []]) (it:=.rng1 (.bin .Add (.lit (Z 1)) (.call 53 [.var 0,.var 1,.bin .Add (.var 2) (.lit (Z 3)),.idx (.gc (.lst [.lit (Z 16),.lit (Z 4),.lit (Z 4),.lit (Z 4)])) (.call 53 [.var 0,.var 1,.bin .Add (.var 2) (.lit (Z 2)),.lit (Z 4)])]))) (t:=.var 8)
  (body:=[.set (.var 9) (.bin .Mod (.bin .Add (.var 5) (.bin .Mult (.var 8) (.var 6))) (.var 4)),.ite (.cmp .NotIn (.tup [.bin .Mod (.var 9) (.idx (.var 3) (.lit (Z 0))),.bin .FloorDiv (.var 9) (.idx (.var 3) (.lit (Z 0)))]) (.var 7)) [.expr (.meth (.var 7) .append [.tup [.bin .Mod (.var 9) (.idx (.var 3) (.lit (Z 0))),.bin .FloorDiv (.var 9) (.idx (.var 3) (.lit (Z 0)))]])] []])
  (λi h st'=>i<=(1+b).toNat/\∃o D ps,h=[Y (scr ns),Y (Z k),Y (Z j),Y ?c,Y (Z (W*H)),Y (Z f),Y (Z (1+g)),Y ?B,o,D]/\st'=st++[Y6 O ((ps:L (J×J)).map cD)]/\ps.length<=i/\(0<i->1<=ps.length)/\ps.Nodup/\∀p∈ps,Cin W H p)
  (by
   show((RL (callD fns (m+1))).ev _ _ _).bind _=_;rw[I];show(if big (1+b)=O then B else Y (Src.rng 0 (1+b).toNat,_))=_
   rw[Z7 (by unfold big; simp; lia)])
  (by simp[Src.size]) (λi h st' _=>qj8 _ _ _) ⟨Qza _,B,B,[],rfl,rfl,by simp,by simp,List.nodup_nil,by simp⟩ (λi h st' d hd s=>by
   obtain⟨_,o,D,ps,rfl,rfl,p1,p2,C,A⟩:=s;rw[Qqw]at hd;obtain⟨i',u,rfl⟩:=Qqd.mp hd;have G:i<(1+b).toNat:=by
    have:=(Qqk.mp u).1;simpa using this
   rw[Qx4 G]at u;cases u;generalize n:(f+(0+(i:J))*(1+g)) % (W*H)=pl;have X:0<=pl:=by rw[<- n]; exact Int.emod_nonneg _ (by lia)
   have V:pl<W*H:=by rw[<- n]; exact Int.emod_lt_of_pos _ hc
   have Q:mulOk (0+(i:J)) (1+g)=true:=qz7 (by lia) (by lia);have N:binop (st++[Y6 O ?g]) .Mod (Z (f+(0+(i:J))*(1+g))) (Z (W*H))=Y (Z pl,st++[Y6 O ?g]):=by rw[bMo _ _ hc,n]
   have F:binop (st++[Y6 O ?g]) .Mod (Z pl) (Z W)=Y (Z (pl % W),st++[Y6 O ?g]):=bMo _ _ (by lia);have E:binop (st++[Y6 O ?g]) .FloorDiv (Z pl) (Z W)=Y (Z (pl / W),st++[Y6 O ?g]):=bDi _ _ (by lia) (by lia);have R:=gl (st:=st) (c:=Y6 O ?g);have l:cmpD (st++[Y6 O ?g]) .NotIn (cD (pl % W,pl / W)) ?B=Y (!decide ((pl % W,pl / W)∈ps)):=by
    have e:inD (st++[Y6 O ?g]) (cD (pl % W,pl / W)) ?B=Y (decide ((pl % W,pl / W)∈ps)):=by
     show(seqAt (st++[Y6 O ?g]) ?B).bind _=_;have:seqAt (st++[Y6 O ?g]) ?B=Y ?g:=by show listAt _ _=_; unfold listAt; rw[gl]
     rw[this];show(if flat 9 (cD (pl % W,pl / W))&&flats 9 ?g then Y ((?g).any λy=>eqT y (cD (pl % W,pl / W))) else B)=_;rw[flat_c,any_c]
     rfl
    show(inD _ _ _).map (!·)=_;rw[e]
    rfl
   by_cases v:(pl % W,pl / W)∈ps
   ·rw[Z5 v]at l;refine⟨_,_,qze 0 [] 1 (λq=>_/\_/\_/\_/\_/\q) [.b O,.c (Z pl,st++[Y6 O ?g]),.c (Z (pl % W),st++[Y6 O ?g]),.c (Z (pl / W),st++[Y6 O ?g]),.b Y5] ⟨Q,N,F,E,l,rfl⟩,by lia,Y (Z (0+(i:J))),Y (Z pl),ps,rfl,rfl,by lia,λ_=>Qxl.mpr (λz=>by rw[z]at v; cases v),C,A⟩
   ·rw[Z6 v]at l;have x:(?g).length<lim:=by rw[Qqz]; unfold lim; lia
    refine⟨_,_,qze 0 [] 1 (λq=>_/\_/\_/\_/\_/\_/\_/\_/\_/\_/\q) [.b O,.c (Z pl,st++[Y6 O ?g]),.c (Z (pl % W),st++[Y6 O ?g]),.c (Z (pl / W),st++[Y6 O ?g]),.b O,.r (Y6 O ?g),.c (Z (pl % W),st++[Y6 O ?g]),.c (Z (pl / W),st++[Y6 O ?g]),.r (Y6 O ?g),.b O] (r:=(.nx [Y (scr ns),Y (Z k),Y (Z j),Y ?c,Y (Z (W*H)),Y (Z f),Y (Z (1+g)),Y ?B,Y (Z (0+(i:J))),Y (Z pl)],(st++[Yb.lst O ?g]).set st.length (Y6 O (ps.map cD++[cD (pl % W,pl / W)])))) ⟨Q,N,F,E,l,R,F,E,R,Z5 x,rfl⟩,by lia,Y (Z (0+(i:J))),Y (Z pl),ps++[(pl % W,pl / W)],rfl,by rw[sl]; simp,by simp; lia,λ_=>by simp,?_,λp s=>?_⟩
    ·rw[Qzf];exact⟨C,by simp,λa K b hb=>by cases Qqb.mp hb; exact λz=>v (z▸K)⟩
    ·rcases Qqi.mp s with s|s
     ·exact A p s
     ·cases Qqb.mp s;refine⟨Int.emod_nonneg _ (by lia),Int.emod_lt_of_pos _ (by lia),Int.ediv_nonneg X (by lia),?_⟩
      exact Int.ediv_lt_of_lt_mul (by lia) (by rw[Int.mul_comm]; exact V))
 rw[Qqz,Qj3]at p1 p2 k';refine⟨ps,?_,p2 (by lia),by lia,C,A⟩;have U:mulOk W H=true:=qz7 (by lia) (by lia);exact qzz 0 [53] 2 (λq=>_/\_/\_/\_/\_/\q) [.b O,.c (Z f,st),.c (Z g,st),.s (.nx [Y (scr ns),Y (Z k),Y (Z j),Y ?c,Y (Z (W*H)),Y (Z f),Y (Z (1+g)),Y ?B,o,D],st++[Y6 O ?g]),.r (Y6 O ?g)] ⟨U,hf,hg,h3,gl (st:=st) (c:=Y6 O ?g),rfl⟩
end
inductive DF (W H P:J):D->Prop
 |vein {ss:L J}{ps:L (J×J)}(hP:(ss.length:J)=P) (hP2:ss.length<=100) (hs:∀s∈ss,0<=s/\s<=4) (h1:1<=ps.length) (h2:ps.length<=16) (hn:ps.Nodup) (hc:∀p∈ps,Cin W H p):DF W H P (.tup [sO "vein",.tup (ss.map .int),.tup (ps.map cD)])
 |join {a b f:J}(h1:1<=a) (h2:a<=400) (h3:1<=b) (h4:b<=400) (h5:1<=f) (h6:f<=P):DF W H P (.tup [sO "join",.int a,.int b,.int f])
 |stake {o:J}{g:J×J×J×J}(h1:1<=o) (h2:o<=40) (x0:0<=g.1) (x1:g.1<=g.2.2.1) (x2:g.2.2.1<W) (y0:0<=g.2.1) (y1:g.2.1<=g.2.2.2) (y2:g.2.2.2<H):DF W H P (.tup [sO "stake",.int o,.int g.1,.int g.2.1,.int g.2.2.1,.int g.2.2.2])
 |claim {f:D}(h:CF' f) (hs:∀m st,callD fns (m+6) 37 [szD W H P,f] st=Y (.bl O,st)):DF W H P f
def DF.sound(h:DF W H P f)(m)(st):callD fns (m+6) 37 [szD W H P,f] st=Y (.bl O,st):=by
 cases h with
 |vein j a hs h1 h2 hn hc=>exact s_vein m st j a hs h1 h2 hn hc
 |join h1 h2 o n l k=>exact s_join (m+3) st h1 h2 o n l k
 |stake h1 h2 i g e d c b=>exact s_stake (m+3) st h1 h2 i g e d c b
 |claim h hs=>exact hs m st
noncomputable def wIs(f:D)(ws:L String):Bool:=match f with
 |.tup (.str z::_)=>ws.any λw=>MS.sq z (Str.ofString w)
 |_=>Y5
noncomputable def pD(p:J×D):D:=.tup [.int p.1,p.2]
def qdd(ps:L (J×J)):noLoc (Y9 ?g)=true:=by rw[qv8]; exact qzg λ_ _=>rfl
def gT(st)(ps:L (J×J)):noLoc (Y9 ?g)=O/\(st++[Yb.lst O ?g]).take st.length=st:=⟨qdd ps,tkl⟩
section
variable {ns:L J}(hn:ns.length<=63){W H P:J}(w1:1<=W)(w2:W<=24)(h1:1<=H)(h2:H<=24)(p0:0<=P)(p1:P<=12)
include hn w1 w2 h1 h2 p0 p1
theorem qi2(m)(st)(k):∃f,callD fns (m+3) 62 [scr ns,Z k,szD W H P] st=Y (f,st)/\DF W H P f:=by
 obtain⟨a,hs,c,b⟩:=qf5 hn m st k 8 (by decide) (by decide) p0 p1;obtain⟨ps,i,h,g,e,d⟩:=qme hn m st k 1 (P:=P) (by decide) (by decide) w1 w2 h1 h2;exact⟨_,qzz 0 [58,59] 3 (λq=>_/\_/\_/\q) [.c (Y9 (a.map Z),st),.c (Y9 ?g,st++[Y6 O ?g]),.g] ⟨hs,i,gT st ps,rfl⟩,.vein c (by lia) b h g e d⟩
theorem qhh(m)(st)(k d)(G:0<=d)(F:d<8){xs:L J}(A:∀x∈xs,1<=x/\x<=400):∃f,callD fns (m+3) 63 [scr ns,Z k,Z d,szD W H P,Yc (xs.map Z)] st=Y (f,st)/\DF W H P f:=by
 obtain⟨c,hc,c1,c2⟩:=qyq hn m st k 1 (by decide) (by decide) A;obtain⟨o,p,t,r⟩:=qhl hn m st k 3 (by decide) (by decide);obtain⟨s,hs,z,I⟩:=dr hn (m+1) st k 5 (many:=2) (by decide) (by decide) (by decide);have ⟨l,j,u,y,b,hb,D⟩:∃l:J,(∃v:J,callD fns (m+2) 53 [scr ns,Z k,Z 6,Z v] st=Y (Z l,st)/\v=(if decide ((if s=0 then W else H)<23) then(if s=0 then W else H) else 23))/\0<=l/\l<23/\∃b,decide ((if s=0 then W else H)<23)=b/\True:=by
  by_cases h:(if s=0 then W else H)<23
  ·have C:0<(if s=0 then W else H):=by split<;>lia
   obtain⟨l,j,u,y⟩:=dr hn (m+1) st k 6 (by decide) (by decide) C;exact⟨l,⟨_,j,by rw[Z5 h]; rfl⟩,u,by lia,O,Z5 h,trivial⟩
  ·obtain⟨l,j,u,y⟩:=dr hn (m+1) st k 6 (many:=23) (by decide) (by decide) (by decide);exact⟨l,⟨_,j,by rw[Z6 h]; rfl⟩,u,by lia,Y5,Z6 h,trivial⟩
 obtain⟨v,j,a⟩:=j;have E:DF W H P (Y9 [sO "work",Z c]):=.claim (.work c) λm st=>s_work (m+3) st c1 c2;have dg:DF W H P (Y9 [sO "give",Z c]):=.claim (.give c) λm st=>s_give (m+3) st c1 c2;have ds:DF W H P (Y9 [sO "sell",Z c,Z o]):=.claim (.sell c o ⟨t,r⟩) λm st=>s_sell (m+3) st c1 c2 t r;have dp:DF W H P (Y9 [sO "part",Z c,Z s,Z (1+l),Z o]):=.claim (.part c s (1+l) o (by lia) ⟨t,r⟩) λm st=>s_part (m+3) st c1 c2 z (by lia) (by lia) (by lia) t r;have g:=qzb (st:=st) (ds:=[Y9 [sO "sell",Z c,Z o],Y9 [sO "part",Z c,Z s,Z (1+l),Z o],Y9 [sO "give",Z c]]) rfl;have n:∀f,(d<3/\f=Y9 [sO "work",Z c])\/(¬ d<3/\idxD st (Yc [Y9 [sO "sell",Z c,Z o],Y9 [sO "part",Z c,Z s,Z (1+l),Z o],Y9 [sO "give",Z c]]) (Z (d / 2 - 1))=Y f)->callD fns (m+3) 63 [scr ns,Z k,Z d,szD W H P,Yc (xs.map Z)] st=Y (f,st):=λf hf=>by
  have w:s=0\/s=1:=by lia
  rcases w with rfl|rfl
  ·rw[Z8 rfl]at hb a
   cases b with
   |true=>
    rw[hb,Z8 rfl]at a;subst a;rcases hf with⟨i,rfl⟩|⟨i,hf⟩
    ·exact qzz 0 [53,60,61] 3 (λq=>_/\_/\_/\_/\_/\_/\q) [.c (Z c,st),.c (Z o,st),.c (Z 0,st),.b O,.c (Z l,st),.b O] ⟨hc,p,hs,hb,j,Z5 i,rfl⟩
    ·exact qzz 0 [53,60,61] 3 (λq=>_/\_/\_/\_/\_/\_/\_/\_/\q) [.c (Z c,st),.c (Z o,st),.c (Z 0,st),.b O,.c (Z l,st),.b Y5,.l [Y9 [sO "sell",Z c,Z o],Y9 [sO "part",Z c,Z 0,Z (1+l),Z o],Y9 [sO "give",Z c]],.i f] ⟨hc,p,hs,hb,j,Z6 i,g,hf,rfl⟩
   |false=>
    rw[hb,Z7 (by simp)]at a;subst a;rcases hf with⟨i,rfl⟩|⟨i,hf⟩
    ·exact qzz 0 [53,60,61] 3 (λq=>_/\_/\_/\_/\_/\_/\q) [.c (Z c,st),.c (Z o,st),.c (Z 0,st),.b Y5,.c (Z l,st),.b O] ⟨hc,p,hs,hb,j,Z5 i,rfl⟩
    ·exact qzz 0 [53,60,61] 3 (λq=>_/\_/\_/\_/\_/\_/\_/\_/\q) [.c (Z c,st),.c (Z o,st),.c (Z 0,st),.b Y5,.c (Z l,st),.b Y5,.l [Y9 [sO "sell",Z c,Z o],Y9 [sO "part",Z c,Z 0,Z (1+l),Z o],Y9 [sO "give",Z c]],.i f] ⟨hc,p,hs,hb,j,Z6 i,g,hf,rfl⟩
  ·rw[Z7 (show ¬ (1:J)=0 by decide)]at hb a
   cases b with
   |true=>
    rw[hb,Z8 rfl]at a;subst a;rcases hf with⟨i,rfl⟩|⟨i,hf⟩
    ·exact qzz 0 [53,60,61] 3 (λq=>_/\_/\_/\_/\_/\_/\q) [.c (Z c,st),.c (Z o,st),.c (Z 1,st),.b O,.c (Z l,st),.b O] ⟨hc,p,hs,hb,j,Z5 i,rfl⟩
    ·exact qzz 0 [53,60,61] 3 (λq=>_/\_/\_/\_/\_/\_/\_/\_/\q) [.c (Z c,st),.c (Z o,st),.c (Z 1,st),.b O,.c (Z l,st),.b Y5,.l [Y9 [sO "sell",Z c,Z o],Y9 [sO "part",Z c,Z 1,Z (1+l),Z o],Y9 [sO "give",Z c]],.i f] ⟨hc,p,hs,hb,j,Z6 i,g,hf,rfl⟩
   |false=>
    rw[hb,Z7 (by simp)]at a;subst a;rcases hf with⟨i,rfl⟩|⟨i,hf⟩
    ·exact qzz 0 [53,60,61] 3 (λq=>_/\_/\_/\_/\_/\_/\q) [.c (Z c,st),.c (Z o,st),.c (Z 1,st),.b Y5,.c (Z l,st),.b O] ⟨hc,p,hs,hb,j,Z5 i,rfl⟩
    ·exact qzz 0 [53,60,61] 3 (λq=>_/\_/\_/\_/\_/\_/\_/\_/\q) [.c (Z c,st),.c (Z o,st),.c (Z 1,st),.b Y5,.c (Z l,st),.b Y5,.l [Y9 [sO "sell",Z c,Z o],Y9 [sO "part",Z c,Z 1,Z (1+l),Z o],Y9 [sO "give",Z c]],.i f] ⟨hc,p,hs,hb,j,Z6 i,g,hf,rfl⟩
 by_cases i:d<3
 ·exact⟨_,n _ (.inl ⟨i,rfl⟩),E⟩
 ·have:d / 2 - 1=0\/d / 2 - 1=1\/d / 2 - 1=2:=by lia
  rcases this with e|e|e
  ·exact⟨_,n _ (.inr ⟨i,by rw[e]; rfl⟩),ds⟩
  ·exact⟨_,n _ (.inr ⟨i,by rw[e]; rfl⟩),dp⟩
  ·exact⟨_,n _ (.inr ⟨i,by rw[e]; rfl⟩),dg⟩
end
noncomputable def dys(pl:L (J×D))(ws:L String):L Int:=(pl.filter λp=>wIs p.2 ws).map (·.1)
def dys_in(h:x∈dys pl a):∃p∈pl,p.1=x:=by
 obtain⟨p,b,rfl⟩:=Qqj.mp h;exact⟨p,(Qzr.mp b).1,rfl⟩
noncomputable def gW(ws:L String):D->Y2 D
 |.tup [.int x,f]=>if wIs f ws then Y (.int x) else B
 |_=>B
def qno(pl)(a):(pl.map pD).filterMap (gW a)=(dys pl a).map Z:=by
 unfold dys
 induction pl with
 |nil=>rfl
 |cons p r b=>
  have e:gW a (pD p)=if wIs p.2 a then Y (Z p.1) else none:=rfl
  rw[Qqm,Qzk,e,b]
  cases h:wIs p.2 a with
  |true=>simp[Qxa,h]
  |false=>simp[Qxa,h]
section
variable {ns:L J}(hn:ns.length<=63){W H P:J}(w1:1<=W)(w2:W<=24)(h1:1<=H)(h2:H<=24)(p0:0<=P)(p1:P<=12)
theorem qip(m){S:Y3}(j:rowAt S g=Y (pl.map pD))(e)(k:∀p∈pl,DF W H P p.2)(r:pl.length<1000)(c:τ[3]?=Y (Y g))(i:∀p:J×D,DF W H P p.2->(?s).tst [Y (Z p.1),Y p.2] (S) q=Y (wIs p.2 e,S)):
  stepEv ?s τ (S) (.comp (.tup [0,1]) (.var 3) (Y q) ?D [B,B])=Y (Y1 S.length,S++[Y6 O ((dys pl e).map Z)]):=by
 obtain⟨s,o,n,l⟩:=qvz c j
 have h:=qqj (t:=.tup [0,1]) (elt:=.var 0) (sr:=[B,B]) (gW e) (λτ=>∃a b,τ=[a,b]) o n l (by simp; unfold lim; lia) ⟨B,B,rfl⟩ (λτ d hd c=>by
  obtain⟨a,b,rfl⟩:=c;obtain⟨p,f,rfl⟩:=Qqj.mp hd
  exact⟨[Y (Z p.1),Y p.2],turn_if rfl (i p (k p f)) λ_=>qqo _ _ _ _ _ rfl,Y (Z p.1),Y p.2,rfl⟩)
 rw[qno]at h;exact h
theorem t_vein(m)(S)(p:J×D)(h:DF W H P p.2):(?s).tst [Y (Z p.1),Y p.2] S (.cmp .Eq (.idx (Yd 1) (.lit (Z 0))) (.lit (sO "vein")))=Y (wIs p.2 ["vein"],S):=by
 obtain⟨x,f⟩:=p
 cases h with
 |vein=>exact qzv 0 [] 0 (λq=>q) [] rfl
 |join=>exact qzv 0 [] 0 (λq=>q) [] rfl
 |stake=>exact qzv 0 [] 0 (λq=>q) [] rfl
 |claim h _=>cases h<;>exact qzv 0 [] 0 (λq=>q) [] rfl
theorem t_name(m)(S)(p:J×D)(h:DF W H P p.2):(?s).tst [Y (Z p.1),Y p.2] S (.cmp .In (.idx (.var 1) (.lit (Z 0))) (.tup [.lit (sO "stake"),.lit (sO "part")]))=Y (wIs p.2 ["stake","part"],S):=by
 obtain⟨x,f⟩:=p
 cases h with
 |vein=>exact qzv 0 [] 0 (λq=>q) [] rfl
 |join=>exact qzv 0 [] 0 (λq=>q) [] rfl
 |stake=>exact qzv 0 [] 0 (λq=>q) [] rfl
 |claim h _=>cases h<;>exact qzv 0 [] 0 (λq=>q) [] rfl
include hn w1 w2 h1 h2 p0 p1
theorem qnm(m)(S)(k){pl:L (J×D)}(Q:rowAt S A=Y (pl.map pD))(N:∀p∈pl,DF W H P p.2/\1<=p.1/\p.1<=400)(hl:pl.length<100):∃f,callD fns (m+4) 64 [scr ns,Z k,szD W H P,A] S=Y (f,S)/\DF W H P f:=by
 obtain⟨y,n,y1,y2⟩:=dr hn (m+2) S k 0 (many:=20) (by decide) (by decide) (by decide);have V:∀v,∀x∈dys pl v,1<=x/\x<=400:=λv x hx=>by
  obtain⟨p,e,rfl⟩:=dys_in hx;exact(N p e).2
 have dl:∀v,(((dys pl v).map D.int).length:J)=((dys pl v).length:J):=λv=>by simp
 have c1:=qip (m+3) Q (τ:=[Y (scr ns),Y (Z k),Y ?c,Y A,Y (Z y),B,B,B]) ["vein"] (λp e=>(N p e).1) (by lia) rfl (λp h=>t_vein (m+3) _ p h);have c2:=qip (m+3) Q (τ:=[Y (scr ns),Y (Z k),Y ?c,Y A,Y (Z y),Y (Yc ((dys pl ["vein"]).map Z)),B,B]) ["stake","part"] (λp e=>(N p e).1) (by lia) rfl (λp h=>t_name (m+3) _ p h);generalize G:dys pl ["vein"]=vs at c1 c2;generalize I:dys pl ["stake","part"]=c at c2;have T:∀x∈vs,1<=x/\x<=400:=by rw[<- G]; exact V _
 have du:∀x∈c,1<=x/\x<=400:=by rw[<- I]; exact V _
 have gv:=qzb (st:=S) (nlI vs);have t:=qzb (st:=S) (nlI c);have R:∀xs:L J,xs=[]->((((xs.map D.int).length:Y0):J)==0)=true:=λxs h=>by rw[h]; rfl
 have F:∀xs:L J,xs≠[]->((((xs.map D.int).length:Y0):J)==0)=false:=λxs h=>by
  rw[beq_eq_false_iff_ne];simpa using h
 obtain⟨E,hv,w⟩:=qi2 hn w1 w2 h1 h2 p0 p1 m S k
 by_cases l:y<3
 ·exact⟨E,qzz 0 [53,57,60,61,62,63] 4 (λq=>_/\_/\_/\_/\_/\_/\_/\q) [.c (Z y,S),.c (Y1 S.length,S++[Y6 O (vs.map Z)]),.l (vs.map Z),.c (Y1 S.length,S++[Y6 O (c.map Z)]),.l (c.map Z),.b O,.c (E,S)] ⟨n,c1,gv,c2,t,Z5 l,hv,rfl⟩,w⟩
 ·by_cases tA:y<8/\vs=[]
  ·exact⟨E,qzz 0 [53,57,60,61,62,63] 4 (λq=>_/\_/\_/\_/\_/\_/\_/\_/\_/\q) [.c (Z y,S),.c (Y1 S.length,S++[Y6 O (vs.map Z)]),.l (vs.map Z),.c (Y1 S.length,S++[Y6 O (c.map Z)]),.l (c.map Z),.b Y5,.b O,.b O,.c (E,S)] ⟨n,c1,gv,c2,t,Z6 l,Z5 tA.1,R vs tA.2,hv,rfl⟩,w⟩
  ·by_cases tB:y<5/\0<P
   ·have s:=λz=>tA ⟨by lia,z⟩;have i:y<8:=by lia
    obtain⟨fl,hf,f1,f2⟩:=dr hn (m+2) S k 5 (by decide) (by decide) tB.2;obtain⟨a,ha,a1,a2⟩:=qyq hn (m+1) S k 1 (by decide) (by decide) T;obtain⟨b,hb,b1,b2⟩:=qyq hn (m+1) S k 3 (by decide) (by decide) T;exact⟨_,qzz 0 [53,57,60,61,62,63] 4 (λq=>_/\_/\_/\_/\_/\_/\_/\_/\_/\_/\_/\_/\_/\q) [.c (Z y,S),.c (Y1 S.length,S++[Y6 O (vs.map Z)]),.l (vs.map Z),.c (Y1 S.length,S++[Y6 O (c.map Z)]),.l (c.map Z),.b Y5,.b O,.b Y5,.b O,.b O,.c (Z fl,S),.c (Z a,S),.c (Z b,S)] (r:=(Y9 [sO "join",Z a,Z b,Z (1+fl)],S)) ⟨n,c1,gv,c2,t,Z6 l,Z5 i,F vs s,Z5 tB.1,Z5 tB.2,hf,ha,hb,rfl⟩,.join a1 a2 b1 b2 (by lia) (by lia)⟩
   ·obtain⟨o,C,o1,o2⟩:=qhl hn (m+1) S k 1 (by decide) (by decide);obtain⟨g,hg,x0,x1,x2,z0,z1,X⟩:=qlp hn (m+1) S k 3 (W:=W) (H:=H) (by decide) (by decide) (by lia) (by lia);have ds:DF W H P (Y9 ?t):=.stake o1 o2 x0 x1 x2 z0 z1 X
    by_cases d:y<12
    ·by_cases i:y<8
     ·have s:=λz=>tA ⟨i,z⟩
      by_cases j:y<5
      ·have tp:=λz=>tB ⟨j,z⟩;exact⟨_,qzz 0 [53,57,60,61,62,63] 4 (λq=>_/\_/\_/\_/\_/\_/\_/\_/\_/\_/\_/\_/\_/\q) [.c (Z y,S),.c (Y1 S.length,S++[Y6 O (vs.map Z)]),.l (vs.map Z),.c (Y1 S.length,S++[Y6 O (c.map Z)]),.l (c.map Z),.b Y5,.b O,.b Y5,.b O,.b Y5,.b O,.c (Z o,S),.c (rD g,S)] ⟨n,c1,gv,c2,t,Z6 l,Z5 i,F vs s,Z5 j,Z6 tp,Z5 d,C,hg,rfl⟩,ds⟩
      ·exact⟨_,qzz 0 [53,57,60,61,62,63] 4 (λq=>_/\_/\_/\_/\_/\_/\_/\_/\_/\_/\_/\_/\q) [.c (Z y,S),.c (Y1 S.length,S++[Y6 O (vs.map Z)]),.l (vs.map Z),.c (Y1 S.length,S++[Y6 O (c.map Z)]),.l (c.map Z),.b Y5,.b O,.b Y5,.b Y5,.b O,.c (Z o,S),.c (rD g,S)] ⟨n,c1,gv,c2,t,Z6 l,Z5 i,F vs s,Z6 j,Z5 d,C,hg,rfl⟩,ds⟩
     ·have j:¬ y<5:=by lia
      exact⟨_,qzz 0 [53,57,60,61,62,63] 4 (λq=>_/\_/\_/\_/\_/\_/\_/\_/\_/\_/\_/\q) [.c (Z y,S),.c (Y1 S.length,S++[Y6 O (vs.map Z)]),.l (vs.map Z),.c (Y1 S.length,S++[Y6 O (c.map Z)]),.l (c.map Z),.b Y5,.b Y5,.b Y5,.b O,.c (Z o,S),.c (rD g,S)] ⟨n,c1,gv,c2,t,Z6 l,Z6 i,Z6 j,Z5 d,C,hg,rfl⟩,ds⟩
    ·have i:¬ y<8:=by lia
     have j:¬ y<5:=by lia
     by_cases tC:y<17/\c=[]
     ·exact⟨_,qzz 0 [53,57,60,61,62,63] 4 (λq=>_/\_/\_/\_/\_/\_/\_/\_/\_/\_/\_/\_/\_/\q) [.c (Z y,S),.c (Y1 S.length,S++[Y6 O (vs.map Z)]),.l (vs.map Z),.c (Y1 S.length,S++[Y6 O (c.map Z)]),.l (c.map Z),.b Y5,.b Y5,.b Y5,.b Y5,.b O,.b O,.c (Z o,S),.c (rD g,S)] ⟨n,c1,gv,c2,t,Z6 l,Z6 i,Z6 j,Z6 d,Z5 tC.1,R c tC.2,C,hg,rfl⟩,ds⟩
     ·obtain⟨f,hf,U⟩:=qhh hn w1 w2 h1 h2 p0 p1 m S k (y - 12) (by lia) (by lia) du
      by_cases u:y<17
      ·have K:=λz=>tC ⟨u,z⟩;exact⟨f,qzz 0 [53,57,60,61,62,63] 4 (λq=>_/\_/\_/\_/\_/\_/\_/\_/\_/\_/\_/\_/\q) [.c (Z y,S),.c (Y1 S.length,S++[Y6 O (vs.map Z)]),.l (vs.map Z),.c (Y1 S.length,S++[Y6 O (c.map Z)]),.l (c.map Z),.b Y5,.b Y5,.b Y5,.b Y5,.b O,.b Y5,.c (f,S)] ⟨n,c1,gv,c2,t,Z6 l,Z6 i,Z6 j,Z6 d,Z5 u,F c K,hf,rfl⟩,U⟩
      ·exact⟨f,qzz 0 [53,57,60,61,62,63] 4 (λq=>_/\_/\_/\_/\_/\_/\_/\_/\_/\_/\_/\q) [.c (Z y,S),.c (Y1 S.length,S++[Y6 O (vs.map Z)]),.l (vs.map Z),.c (Y1 S.length,S++[Y6 O (c.map Z)]),.l (c.map Z),.b Y5,.b Y5,.b Y5,.b Y5,.b Y5,.c (f,S)] ⟨n,c1,gv,c2,t,Z6 l,Z6 i,Z6 j,Z6 d,Z6 u,hf,rfl⟩,U⟩
end
theorem qdp{ds:L D}(P:Y0->Sl->Y3->Prop)(c:D->Y3->Prop)(b:∀i τ st,P i τ st->s.at st i=Y ds[i]?)(hs:∀i τ st d,ds[i]?=Y d->P i τ st->(∃a st',f τ st d=Y (.nx a,st')/\P (i+1) a st')\/∃v st',f τ st d=Y (.rt v,st')/\c v st'):
  ∀(k i:Y0) (τ:Sl) (st:Y3),i+k=ds.length->P i τ st->(∃a st',loop s f (k+1) i τ st=Y (.nx a,st')/\P ds.length a st')\/∃v st',loop s f (k+1) i τ st=Y (.rt v,st')/\c v st'
 |0,i,τ,st,h,p=>by
  have e:i=ds.length:=by lia
  subst e;refine .inl ⟨τ,st,?_,p⟩;rw[loop,b _ _ _ p];simp[Qzp (Qqv _)]
 |k+1,i,τ,st,h,p=>by
  have hi:i<ds.length:=by lia
  have h1:ds[i]?=Y ds[i]:=by simp
  rw[loop,b _ _ _ p,h1];simp only[oBs];rcases hs i τ st _ h1 p with⟨a,st',e,q⟩|⟨v,st',e,q⟩
  ·rw[e]; exact qdp P c b hs k (i+1) a st' (by lia) q
  ·rw[e]; exact .inr ⟨v,st',rfl,q⟩
def qie{ds:L D}(P:Y0->Sl->Y3->Prop)(h:D->Y3->Prop)(m:src (RL c) τ st it=Y (s,st))(l:s.size st=ds.length)(j:∀k a st',P k a st'->s.at st' k=Y ds[k]?)(n:P 0 τ st)(hs:∀k a st' d,ds[k]?=Y d->P k a st'->(∃g b,((setT t d a).bind λf=>(RL c).ex f st' body)=Y (.nx g,b)/\P (k+1) g b)\/∃v b,((setT t d a).bind λf=>(RL c).ex f st' body)=Y (.rt v,b)/\h v b):
  (∃a st',stepEx (RL c) τ st (.forr t it body)=Y (.nx a,st')/\P ds.length a st')\/∃v st',stepEx (RL c) τ st (.forr t it body)=Y (.rt v,st')/\h v st':=by
 have e:∀x,loop s (λτ st d=>(setT t d τ).bind λa=>(RL c).ex a st body) (ds.length+1) 0 τ st=x->stepEx (RL c) τ st (.forr t it body)=x:=λx i=>by
  show(src (RL c) τ st it).bind _=_;rw[m];simp only[oBs];rw[l];exact i
 rcases qdp P h j hs ds.length 0 τ st (by lia) n with⟨a,st',q,p⟩|⟨v,st',q,p⟩
 ·exact .inl ⟨a,st',e _ q,p⟩
 ·exact .inr ⟨v,st',e _ q,p⟩
def gS(x)(st:Y3)(h:noLoc x=O):noLoc x=O/\st.take st.length=st:=⟨h,Qzm⟩
noncomputable def sgD(gs:L Cl):L D:=gs.map λc=>.tup [.int c.nm,rD c.g]
def nl_sg(gs):noLocs (sgD gs)=true:=qzg λ_ _=>rfl
section
variable {p:Pl}{sz:D}{d:J}{fo jo:L (D×D)}{ro:L J}{S:Y3}{cs:L Cl}
def qek(m)(A:FA p sz d fo jo cs ro S)(hc:c∈cs):callD fns (m+3) 8 [Y1 p.a,Z c.nm] S=Y (rD c.g,S):=
 qzz 0 [51] 3 (λq=>_/\_/\q) [.r (p.fc sz d),.c (clT c,S)] ⟨A.hf,qvh m A hc,rfl⟩
noncomputable def stC(cs:L Cl)(ro:L J)(d:J):L Cl:=ro.filterMap λn=>if stB cs d n then cs.find? λc=>c.nm==n else B
def qw7(h:c∈stC cs ro d):c∈cs:=by
 obtain⟨n,_,e⟩:=Qxn.mp h
 split at e
 ·exact Qxj e
 ·cases e
def qci:(?J).length<=ro.length:=Qjq _ _
def qkf(a:∀n∈ro,∃c∈cs,c.nm=n):(?J).map (·.nm)=ro.filter (stB cs d):=by
 unfold stC
 induction ro with
 |nil=>rfl
 |cons n r b=>
  have b:=b λx f=>a x (.tail _ f);rw[Qzk,Qxa];obtain⟨c,hc,e⟩:=a n (.head _)
  cases hb:stB cs d n with
  |false=>exact b
  |true=>
   cases hf:cs.find? λc=>c.nm==n with
   |none=>exact absurd (beq_iff_eq.mpr e) (List.find?_eq_none.mp hf c hc)
   |some x=>
    have f:x.nm=n:=by simpa using Qx6 hf
    show x.nm::_=n::_;rw[b,f]
def sg_ok(m)(A:FA p sz d fo jo cs ro S)(nd:(cs.map (·.nm)).Nodup)(f:∀n∈ro,∃c∈cs,c.nm=n)(j:ro.length<1000):callD fns (m+4) 12 [Y1 p.a] S=Y (Y1 S.length,S++[Y6 O (sgD ?J)]):=by
 have b:=qy1 m A nd f j;rw[<- qkf f]at b;have l:=qci (cs:=cs) (ro:=ro) (d:=d);have hg:=λc (h:c∈stC cs ro d)=>qw7 h;generalize stC cs ro d=a at *;have i:(RL (callD fns (m+3))).ev [Y (Y1 p.a)] S (.gc (.mcall 642 52 "standing" ?D []))=Y (.lst (rowD (a.map (·.nm))),S):=
  qzw 0 [52] 3 (λq=>_/\_/\_/\q) [.r (p.fc sz d),.c (Y1 S.length,S++[Y6 O (rowD (a.map (·.nm)))]),.l (rowD (a.map (·.nm)))] ⟨A.hf,b,qzb (st:=S) (nlI (a.map (·.nm))),rfl⟩
 have hc:=qjj (it:=.gc (.mcall 642 52 "standing" ?D [])) (elt:=.tup [.var 0,.call 8 [.var 1,.var 0]]) (sr:=[B,Y 0]) (es:=sgD a)
  (by show((RL (callD fns (m+3))).ev _ _ _).bind _=_; rw[i]; rfl) (qqq rfl) (qzn rfl) rfl (by unfold sgD; simp) (by simp; unfold lim; lia) λk x e hd g=>by
   have hd:((a.map (·.nm)).map D.int)[k]?=Y x:=hd;rw[Qqo,Qqw]at hd;unfold sgD at g;rw[Qqw]at g;obtain⟨c,h1,rfl⟩:=Qqd.mp hd;rw[h1]at g;cases g;exact qzw 0 [8] 3 (λq=>_/\q) [.c (rD c.g,S)] ⟨qek m A (hg c (Qqe h1)),rfl⟩
 exact qzz 0 [] 4 (λq=>_/\q) [.c (Y1 S.length,S++[Y6 O (sgD a)])] ⟨hc,rfl⟩
end
noncomputable def ing(W H P x y z:J):Bool:=(decide (0<=x)&&decide (x<W))&&((decide (0<=y)&&decide (y<H))&&(decide (0<=z)&&decide (z<=P)))
def qiy(m)(st)(W H P x y z):callD fns (m+1) 4 [szD W H P,Y9 [Z x,Z y,Z z]] st=Y (.bl (ing W H P x y z),st):=by
 unfold ing
 by_cases h1:0<=x
 ·by_cases h2:x<W
  ·by_cases a:0<=y
   ·by_cases b:y<H
    ·by_cases c:0<=z
     ·rw[Z5 h1,Z5 h2,Z5 a,Z5 b,Z5 c];have e:((O&&O)&&((O&&O)&&(O&&decide (z<=P))))=decide (z<=P):=by cases decide (z<=P)<;>rfl
      rw[e];exact qzz 0 [] 1 (λq=>_/\_/\_/\_/\_/\_/\q) [.b O,.b O,.b O,.b O,.b O,.b (decide (z<=P))] ⟨Z5 h1,Z5 h2,Z5 a,Z5 b,Z5 c,(show decide (z<=P)=decide (z<=P) from rfl),rfl⟩
     ·rw[Z5 h1,Z5 h2,Z5 a,Z5 b,Z6 c];exact qzz 0 [] 1 (λq=>_/\_/\_/\_/\_/\q) [.b O,.b O,.b O,.b O,.b Y5] ⟨Z5 h1,Z5 h2,Z5 a,Z5 b,Z6 c,rfl⟩
    ·rw[Z5 h1,Z5 h2,Z5 a,Z6 b];exact qzz 0 [] 1 (λq=>_/\_/\_/\_/\q) [.b O,.b O,.b O,.b Y5] ⟨Z5 h1,Z5 h2,Z5 a,Z6 b,rfl⟩
   ·rw[Z5 h1,Z5 h2,Z6 a];exact qzz 0 [] 1 (λq=>_/\_/\_/\q) [.b O,.b O,.b Y5] ⟨Z5 h1,Z5 h2,Z6 a,rfl⟩
  ·rw[Z5 h1,Z6 h2];exact qzz 0 [] 1 (λq=>_/\_/\q) [.b O,.b Y5] ⟨Z5 h1,Z6 h2,rfl⟩
 ·rw[Z6 h1];exact qzz 0 [] 1 (λq=>_/\q) [.b Y5] ⟨Z6 h1,rfl⟩
noncomputable abbrev mvD:D:=.tup [.tup [.int 0,.int 0],.tup [.int 1,.int 0],.tup [.int (-1),.int 0],.tup [.int 0,.int 1],.tup [.int 0,.int (-1)]]
noncomputable abbrev clB:L M.S:=[.set (.var 3) (.bin .Sub (.var 3) (.idx (.idx (.glo "MOVES" mvD) (.var 5)) (.lit (.int 0)))),.set (.var 4) (.bin .Sub (.var 4) (.idx (.idx (.glo "MOVES" mvD) (.var 5)) (.lit (.int 1)))),.ite (.not (.call 4 [.var 0,.tup [.var 3,.var 4,.lit (.int 0)]])) [.ret (.lit .non)] []]
noncomputable def mvX:J->J×J
 |1=>(1,0)
 |2=>(-1,0)
 |3=>(0,1)
 |4=>(0,-1)
 |_=>(0,0)
noncomputable def stp(W H P x y s:J):Y2 (J×J):=if ing W H P (x - (mvX s).1) (y - (mvX s).2) 0 then Y (x - (mvX s).1,y - (mvX s).2) else B
def clb_ok(m)(st)(d:0<=s)(c:s<=4)(u v):(RL (callD fns (m+1))).ex [Y ?c,Y u,Y v,Y (Z x),Y (Z y),Y (Z s)] st clB=Y (match stp W H P x y s with|some q=>.nx [Y ?c,Y u,Y v,Y (Z q.1),Y (Z q.2),Y (Z s)]|none=>.rt .non,st):=by
 have b:∀s:J,atI [D.tup [Z 0,Z 0],Y9 [Z 1,Z 0],Y9 [Z (-1),Z 0],Y9 [Z 0,Z 1],Y9 [Z 0,Z (-1)]] s=Y (Y9 [Z (mvX s).1,Z (mvX s).2])->(RL (callD fns (m+1))).ex [Y ?c,Y u,Y v,Y (Z x),Y (Z y),Y (Z s)] st clB=Y (match stp W H P x y s with|some q=>.nx [Y ?c,Y u,Y v,Y (Z q.1),Y (Z q.2),Y (Z s)]|none=>.rt .non,st):=λs hi=>by
  unfold stp;generalize mvX s=q at hi ⊢;obtain⟨dx,a⟩:=q;have hg:=qiy m st W H P (x - dx) (y - a) 0;dsimp only at hi ⊢
  cases hb:ing W H P (x - dx) (y - a) 0 with
  |true=>
   rw[hb]at hg;exact qze 0 [4] 1 (λq=>_/\_/\_/\q) [.i (Y9 [Z dx,Z a]),.n,.i (Y9 [Z dx,Z a]),.n,.c (.bl O,st)] ⟨hi,hi,hg,rfl⟩
  |false=>
   rw[hb]at hg;exact qze 0 [4] 1 (λq=>_/\_/\_/\q) [.i (Y9 [Z dx,Z a]),.n,.i (Y9 [Z dx,Z a]),.n,.c (.bl Y5,st)] ⟨hi,hi,hg,rfl⟩
 have hc:s=0\/s=1\/s=2\/s=3\/s=4:=by lia
 rcases hc with rfl|rfl|rfl|rfl|rfl<;>exact b _ rfl
noncomputable def cO:Y2 (J×J)->D
 |some p=>cD p
 |none=>.non
noncomputable def clm(W H P:J):J->J->L J->Y2 (J×J)
 |x,y,[]=>Y (x,y)
 |x,y,s::r=>(stp W H P x y s).bind λq=>clm W H P q.1 q.2 r
theorem qd7{Q:J->Prop}:∀{l:L D},(∀q∈l,∃s,q=Z s/\Q s)->∃a:L J,l=a.map Z/\∀s∈a,Q s
 |[],_=>⟨[],rfl,Qqt _⟩
 |d::r,h=>by
  obtain⟨s,rfl,hs⟩:=h _ (.head _);obtain⟨a,rfl,c⟩:=qd7 λq b=>h q (.tail _ b);exact⟨s::a,rfl,Qjl.mpr ⟨hs,c⟩⟩
def qhc{c:L J}(hs:∀s∈c,0<=s/\s<=4):∃o:Y2 (J×J),∀m st,callD fns (m+2) 5 [szD W H P,.tup (c.map Z),.tup [Z x,Z y,Z z]] st=Y (cO o,st):=by
 obtain⟨C,r,E⟩:=qd7 (l:=cut (c.map D.int) B (Y z)) (Q:=λs=>0<=s/\s<=4) λq j=>by
  unfold cut at j;obtain⟨s,h1,rfl⟩:=Qqj.mp (Qxh (Qx3 j));exact⟨s,rfl,hs s h1⟩
 refine⟨clm W H P x y C.reverse,λm st=>?_⟩;have n:(RL (callD fns (m+1))).ev [Y ?c,Y (.tup (c.map Z)),Y (.tup [Z x,Z y,Z z]),Y (Z x),Y (Z y),B] st (.sli (.var 1) B (Y (.idx (.var 2) (.lit (Z 2)))))=Y (.tup (cut (c.map Z) B (Y z)),st):=qzw 0 [] 1 (λq=>q) [] rfl;generalize w:C.reverse=R;have u:∀s∈R,0<=s/\s<=4:=λs h=>E s (by rw[<- w]at h; exact List.mem_reverse.mp h);have i:(cut (c.map D.int) B (Y z)).reverse=R.map Z:=by rw[r,<- List.map_reverse,w]
 generalize cut (c.map D.int) B (Y z)=p at n i;rcases qie (it:=.rev (.sli (.var 1) B (Y (.idx (.var 2) (.lit (Z 2)))))) (t:=.var 5) (ds:=R.map Z)
  (λk d st'=>∃g f a,clm W H P x y R=clm W H P g f (R.drop k)/\d=[Y ?c,Y (.tup (c.map Z)),Y (.tup [Z x,Z y,Z z]),Y (Z g),Y (Z f),a]/\st'=st) (λv st'=>clm W H P x y R=B/\v=.non/\st'=st)
  (by show((RL (callD fns (m+1))).ev _ _ _).bind _=_; rw[n]; rfl) (by rw[<- i,List.length_reverse]; rfl) (λk d st' _=>by
   rw[<- i];show Y (if k<p.length then p[p.length - 1 - k]? else B)=_
   by_cases hk:k<p.length
   ·rw[Z8 hk,List.getElem?_reverse hk]
   ·rw[Z7 hk,Qzp (by rw[List.length_reverse]; lia)]) ⟨_,_,_,rfl,rfl,rfl⟩ (λk d st' q j h=>by
   obtain⟨g,f,a,b,rfl,rfl⟩:=h;rw[Qqw]at j;obtain⟨s,hs,rfl⟩:=Qqd.mp j;obtain⟨hk,hs⟩:=Qqk.mp hs;have A:=u s (hs▸Qxi hk);rw[Qxk hk,hs]at b;have e:=clb_ok m st' A.1 A.2 (.tup (c.map Z)) (.tup [Z x,Z y,Z z]) (W:=W) (H:=H) (P:=P) (x:=g) (y:=f);have b:clm W H P x y R=(stp W H P g f s).bind λq=>clm W H P q.1 q.2 (R.drop (k+1)):=b
   cases hb:stp W H P g f s with
   |some q=>
    rw[hb]at b e;exact .inl ⟨_,_,e,q.1,q.2,_,b,rfl,rfl⟩
   |none=>
    rw[hb]at b e
    exact .inr ⟨_,_,e,b,rfl,rfl⟩) with⟨d,st',e,g,f,a,b,rfl,rfl⟩|⟨v,st',e,b,rfl,rfl⟩
 ·rw[Qqz,Qj8]at b;rw[b];exact qzz 0 [] 2 (λq=>_/\q) [.n,.n,.s (.nx [Y ?c,Y (.tup (c.map Z)),Y (.tup [Z x,Z y,Z z]),Y (Z g),Y (Z f),a],st')] ⟨e,rfl⟩
 ·rw[b];exact qzz 0 [] 2 (λq=>_/\q) [.n,.n,.s (.rt .non,st')] ⟨e,rfl⟩
theorem qeb{g:D->Y2 D}{Q:J->Prop}:∀{ds:L D},(∀d∈ds,∀x,g d=Y x->∃i,x=Z i/\Q i)->∃ys:L J,ds.filterMap g=ys.map Z/\ys.length<=ds.length/\∀y∈ys,Q y
 |[],_=>⟨[],rfl,Qqv _,Qqt _⟩
 |d::r,h=>by
  obtain⟨ys,e,l,q⟩:=qeb λx b=>h x (.tail _ b);rw[Qzk,e]
  cases hg:g d with
  |none=>exact⟨ys,rfl,Nat.le_succ_of_le l,q⟩
  |some x=>
   obtain⟨i,rfl,hi⟩:=h d (.head _) x hg
   exact⟨i::ys,rfl,Nat.succ_le_succ l,λy a=>by
    rcases Qqy.mp a with rfl|a
    ·exact hi
    ·exact q y a⟩
def VsOk(vs:L (J×D×L (J×J))):Prop:=∀v∈vs,(∃ss:L J,v.2.1=.tup (ss.map .int)/\(∀s∈ss,0<=s/\s<=4)/\ss.length<1000)/\v.2.2.length<=16
noncomputable def enW(w:D):D->Y2 D
 |.tup [.int i,x]=>if eqT x w then Y (.int i) else B
 |_=>B
noncomputable def ltW(n:Y0):D->Y2 D
 |.int i=>if decide (i<(n:J)) then Y (.int i) else B
 |_=>B
section
variable {p:Pl}{d:J}{jo:L (D×D)}{ro:L J}{S:Y3}{cs:L Cl}{vs:L (J×D×L (J×J))}
noncomputable abbrev vD(v:J×D×L (J×J)):D:=.tup [v.2.1,.tup (v.2.2.map cD)]
def qk5(m)(A:FA p sz d ?i jo cs ro S)(a:(vs.map (·.1)).Nodup)(hv:v∈vs):callD fns (m+1) 49 [Y1 p.a,Z v.1] S=Y (vD v,S):=by
 have h:=qjk hv a;exact qzz 0 [] 1 (λq=>_/\_/\_/\_/\_/\_/\q) [.r (p.fc sz d),.r (.dic O ?i),.q (Y (vD v)),.r (p.fc sz d),.r (.dic O ?i),.q (Y (vD v))] ⟨A.hf,A.hv,h,A.hf,A.hv,h,rfl⟩
def qaf(m)(A:FA p sz d ?i jo cs ro S)(a:(vs.map (·.1)).Nodup)(hv:v∈vs):callD fns (m+1) 50 [Y1 p.a,Z v.1] S=Y ((dget jo (Z v.1)).getD .non,S):=by
 have h:=qjk hv a;exact qzz 0 [] 1 (λq=>_/\_/\_/\_/\_/\_/\_/\q) [.r (p.fc sz d),.r (.dic O ?i),.q (Y (vD v)),.r (p.fc sz d),.r (.dic O jo),.r (.dic O jo),.q (dget jo (Z v.1))] ⟨A.hf,A.hv,h,A.hf,A.hj,A.hj,(show dget jo (Z v.1)=dget jo (Z v.1) from rfl),rfl⟩
def met_ok(r:(vs.map (·.1)).Nodup)(hv:v∈vs)(hV:VsOk vs){xs:L J}(a1:xs.length<=16)(N:∀x∈xs,0<=x)(hj:dget jo (Z v.1)=B\/∃b f,dget jo (Z v.1)=Y (.tup [Z b,Z f])):
  ∃ys:L J,(∀(m:Y0) (p:Pl) (S:Y3),FA p ?c d ?i jo cs ro S->∀j kvs,S[j]?=Y (.dic O kvs)->(∀b f,dget jo (Z v.1)=Y (.tup [Z b,Z f])->∃l,dget kvs (Z b)=Y (Y1 l)/\S[l]?=Y (Y6 O (xs.map Z)))->callD fns (m+3) 6 [Y1 p.a,Z v.1,.tup [Z x,Z y,Z z],Y1 j] S=Y (Y1 S.length,S++[Y6 O (ys.map Z)]))/\ys.length<=16/\∀y∈ys,0<=y/\y<(v.2.2.length:J):=by
 obtain⟨⟨ss,es,T,_⟩,a0⟩:=hV v hv;obtain⟨o,hc⟩:=qhc (W:=W) (H:=H) (P:=P) (x:=x) (y:=y) (z:=z) T;generalize hw:cO o=w at hc;have R:∀(m:Y0) (p:J×J) (S:Y3) (n:Y0),(RL (callD fns (m+2))).tst [Y (Z n),Y (cD p),Y w] S (.cmp .Eq (.var 1) (.var 2))=Y (eqT (cD p) w,S):=λm p S n=>by
  subst hw
  cases o with
  |none=>exact qzv 0 [] 2 (λq=>q) [] rfl
  |some q=>exact qzv 0 [] 2 (λq=>q) [] rfl
 obtain⟨ys,e,l,q⟩:=qeb (g:=enW w) (Q:=λy=>0<=y/\y<(v.2.2.length:J)) (ds:=v.2.2.zipIdx.map λp=>D.tup [Z (p.2:J),cD p.1]) (λx G u c=>by
  obtain⟨p,hp,rfl⟩:=Qqj.mp G;have hi:=List.snd_lt_of_mem_zipIdx hp;have c:(if eqT (cD p.1) w then Y (D.int (p.2:J)) else B)=Y u:=c
  split at c
  ·cases c; exact⟨_,rfl,by lia,by lia⟩
  ·cases c)
 rw[Qqz,Qjs]at l;have own:∀(m:Y0) (S:Y3) (a j:Y0) (k:D),stepEv (RL (callD fns (m+2))) [Y (Y1 a),Y (Z v.1),Y (.tup [Z x,Z y,Z z]),Y (Y1 j),Y (vD v),Y k,Y w] S (.comp (.tup [0,1]) (.enu (.idx (.var 4) (.lit (Z 1)))) (Y (.cmp .Eq (.var 1) (.var 2))) ?D [B,B,Y 6])=Y (Y1 S.length,S++[Y6 O (ys.map Z)]):=λm S a j k=>by
  have F:(RL (callD fns (m+2))).ev [Y (Y1 a),Y (Z v.1),Y (.tup [Z x,Z y,Z z]),Y (Y1 j),Y (vD v),Y k,Y w] S (.idx (.var 4) (.lit (Z 1)))=Y (.tup (v.2.2.map cD),S):=qzw 0 [] 2 (λq=>q) [] rfl;have X:∀i:Y0,((v.2.2.zipIdx.map λp=>D.tup [Z (p.2:J),cD p.1])[i]?)=((v.2.2.map cD)[i]?).map λx=>D.tup [Z i,x]:=λi=>by
   rw[Qqw,List.getElem?_zipIdx,Qqw]
   cases v.2.2[i]? with
   |none=>rfl
   |some p=>show Y (D.tup [Z ((0+i:Y0):J),cD p])=_; rw[Qx1]; rfl
  have h:=qqj (t:=.tup [0,1]) (it:=.enu (.idx (.var 4) (.lit (Z 1)))) (elt:=.var 0) (sr:=[B,B,Y 6]) (enW w) (λτ=>∃a b,τ=[a,b,Y w])
   (by show((RL (callD fns (m+2))).ev _ _ _).bind _=_; rw[F]; rfl) (λi=>by rw[X]; rfl) (by rw[Qqz,Qjs]; show(v.2.2.map cD).length=_; rw[Qqz]) (by rw[Qqz,Qjs]; unfold lim; lia) ⟨B,B,rfl⟩ (λτ x G C=>by
    obtain⟨a,b,rfl⟩:=C;obtain⟨p,hp,rfl⟩:=Qqj.mp G
    exact⟨[Y (Z (p.2:J)),Y (cD p.1),Y w],turn_if rfl (R m p.1 S p.2) λ_=>qqo _ _ _ _ _ rfl,_,_,rfl⟩)
  rw[e]at h;exact h
 have K:∀k:D,(dget jo (Z v.1)).getD .non=k->(isNon k=O\/∃b f,k=.tup [Z b,Z f]/\¬ f<=z)->∀(m:Y0) (p:Pl) (S:Y3),FA p ?c d ?i jo cs ro S->∀j,callD fns (m+3) 6 [Y1 p.a,Z v.1,.tup [Z x,Z y,Z z],Y1 j] S=Y (Y1 S.length,S++[Y6 O (ys.map Z)]):=λk hn h2 m p S A j=>by
  have hg:=qk5 (m+1) A r hv;have h1:=qaf (m+1) A r hv;rw[hn]at h1;have hc:=hc m S;have e:=own m S p.a j k;unfold vD at hg e;rw[es]at hg e;rcases h2 with h2|⟨b,f,rfl,h2⟩
  ·exact qzz 0 [49,50,5] 3 (λq=>_/\_/\_/\_/\_/\_/\_/\_/\_/\q) [.r (p.fc ?c d),.c (.tup [.tup (ss.map Z),.tup (v.2.2.map cD)],S),.r (p.fc ?c d),.c (k,S),.b Y5,.r (p.fc ?c d),.r (p.fc ?c d),.c (w,S),.c (Y1 S.length,S++[Y6 O (ys.map Z)])] ⟨A.hf,hg,A.hf,h1,(show(!isNon k)=Y5 by rw[h2]; rfl),A.hf,A.hf,hc,e,rfl⟩
  ·exact qzz 0 [49,50,5] 3 (λq=>_/\_/\_/\_/\_/\_/\_/\_/\_/\q) [.r (p.fc ?c d),.c (.tup [.tup (ss.map Z),.tup (v.2.2.map cD)],S),.r (p.fc ?c d),.c (.tup [Z b,Z f],S),.k,.b Y5,.r (p.fc ?c d),.r (p.fc ?c d),.c (w,S),.c (Y1 S.length,S++[Y6 O (ys.map Z)])] ⟨A.hf,hg,A.hf,h1,Z6 h2,A.hf,A.hf,hc,e,rfl⟩
 rcases hj with hj|⟨b,f,hj⟩
 ·exact⟨ys,λm p S A j kvs _ _=>K .non (by rw[hj]; rfl) (.inl rfl) m p S A j,by lia,q⟩
 ·by_cases hf:f<=z
  ·obtain⟨ys,e,le,q⟩:=qeb (g:=ltW (v.2.2.map cD).length) (Q:=λy=>0<=y/\y<(v.2.2.length:J)) (ds:=xs.map Z) (λx G u c=>by
    obtain⟨i,hi,rfl⟩:=Qqj.mp G;have c:(if decide (i<((v.2.2.map cD).length:J)) then Y (D.int i) else B)=Y u:=c
    split at c
    ·rename_i U;cases c;have:=of_decide_eq_true U;rw[Qqz]at this;exact⟨_,rfl,N i hi,this⟩
    ·cases c)
   rw[Qqz]at le;refine⟨ys,λm p S A j kvs hk V=>?_,by lia,q⟩;obtain⟨l,hb,hl⟩:=V b f hj;have hg:=qk5 (m+1) A r hv;have I:=qaf (m+1) A r hv;rw[hj]at I;have E:listAt S l=Y (xs.map Z):=by unfold listAt; rw[hl]
   have F:(RL (callD fns (m+2))).ev [Y (Y1 p.a),Y (Z v.1),Y (.tup [Z x,Z y,Z z]),Y (Y1 j),Y (vD v),Y (.tup [Z b,Z f]),B] S (.didx (.var 3) (.idx (.var 5) (.lit (Z 0))))=Y (Y1 l,S):=
    qzw 0 [] 2 (λq=>_/\_/\q) [.n,.r (.dic O kvs),.q (Y (Y1 l))] ⟨hk,hb,rfl⟩
   have h:=qqj (t:=.var 0) (it:=.didx (.var 3) (.idx (.var 5) (.lit (Z 0)))) (test:=Y (.cmp .Lt ?D (.bcall .len [.idx (.var 1) (.lit (Z 1))]))) (elt:=.var 0) (sr:=[B,Y 4]) (s:=.lst (Y1 l)) (ltW (v.2.2.map cD).length) (λτ=>∃a,τ=[a,Y (vD v)])
    (by show((RL (callD fns (m+2))).ev _ _ _).bind _=_; rw[F]; show(listAt S l).map _=_; rw[E]; rfl) (qqq E) (qzn E) (by rw[Qqz]; unfold lim; lia) ⟨B,rfl⟩ (λτ u c C=>by
     obtain⟨a,rfl⟩:=C;obtain⟨i,hi,rfl⟩:=Qqj.mp c
     exact⟨[Y (Z i),Y (vD v)],turn_if rfl (qzv 0 [] 2 (λq=>_/\q) [.b (decide (i<((v.2.2.map cD).length:J)))] ⟨(show decide (i<((v.2.2.map cD).length:J))=decide (i<((v.2.2.map cD).length:J)) from rfl),rfl⟩) λ_=>qqo _ _ _ _ _ rfl,_,rfl⟩)
   rw[e]at h;exact qzz 0 [49,50,5] 3 (λq=>_/\_/\_/\_/\_/\_/\q) [.r (p.fc ?c d),.c (vD v,S),.r (p.fc ?c d),.c (.tup [Z b,Z f],S),.k,.b O,.c (Y1 S.length,S++[Y6 O (ys.map Z)])] ⟨A.hf,hg,A.hf,I,Z5 hf,h,rfl⟩
  ·exact⟨ys,λm p S A j kvs _ _=>K _ (by rw[hj]; rfl) (.inr ⟨b,f,rfl,hf⟩) m p S A j,by lia,q⟩
end
noncomputable def metD:Y0->L J->L (D×D)
 |_,[]=>[]
 |Bq,a::r=>(.int a,.loc Bq)::metD (Bq+1) r
theorem qay(a):∀(r:L J) (Bq:Y0),metD Bq (r++[a])=metD Bq r++[(Z a,Y1 (Bq+r.length))]
 |[],Bq=>rfl
 |x::r,Bq=>by
  show(D.int x,D.loc Bq)::metD (Bq+1) (r++[a])=_;rw[qay a r,Qqg,show Bq+1+r.length=Bq+(r.length+1) by lia]
  rfl
theorem qyv:∀{r}{Bq i},r.Nodup->r[i]?=Y n->dget (metD Bq r) (Z n)=Y (Y1 (Bq+i))
 |x::r,Bq,i,hn,hi=>by
  unfold dget;show Option.map _ (match (x==n) with|true=>_|false=>_)=_;rw[Qq8]at hn
  cases i with
  |zero=>cases hi; rw[beq_self_eq_true]; rfl
  |succ i=>
   have hi:=hi;have a:x≠n:=λe=>hn.1 (by rw[e]; exact Qqe hi);rw[beq_false_of_ne a];have:=qyv (Bq:=Bq+1) hn.2 hi;rw[show Bq+1+i=Bq+(i+1) by lia]at this;exact this
theorem qdh:∀(r:L J) (Bq:Y0),(metD Bq r).length=r.length
 |[],_=>rfl
 |_::r,Bq=>congrArg (· + 1) (qdh r (Bq+1))
theorem qdi:∀{r}{Bq},p∈metD Bq r->∃x∈r,p.1=Z x
 |a::r,Bq,h=>by
  rcases Qqy.mp h with rfl|h
  ·exact⟨a,.head _,rfl⟩
  ·obtain⟨x,b,e⟩:=qdi h;exact⟨x,.tail _ b,e⟩
theorem set0{a':Yb}:∀{R},(R++a::b::ls).set R.length a'=R++a'::b::ls
 |[]=>rfl
 |x::r=>congrArg (x::·) (set0)
theorem set1:∀{R:Y3},(R++a::b::ls).set (R.length+1) b'=R++a::b'::ls
 |[]=>rfl
 |x::r=>congrArg (x::·) (set1)
theorem get0(i):∀{R:Y3},(R++ls)[R.length+i]?=ls[i]?
 |[]=>by rw[Qjg,Qxp,Qx1]
 |x::r=>by
  rw[Qqg,show r.length+1+i=(r.length+i)+1 by lia];exact get0 i
def qnh(h:ex[i]?=Y (Y6 O ds))(a:noLocs ds=O):gcD st (Y1 (st.length+i),st++ex)=(Yc ds,st):=by
 rw[gc_x (by simp)];unfold gcX;rw[Z7 (by simp[noLoc])];simp only[Qja,if_true,get0,h,a];simp
def CoI(vs:L (J×D×L (J×J)))(pr:L (J×J)):Prop:=∀p∈pr,∃v∈vs,v.1=p.1/\0<=p.2/\p.2<(v.2.2.length:J)
noncomputable abbrev ysC(ys:L J):Yb:=.lst O (ys.map .int)
def JoI(vs:L (J×D×L (J×J)))(jo:L (D×D)):Prop:=∀p∈jo,∃a b f:J,p=(.int a,.tup [.int b,.int f])/\b<a/\b∈vs.map (·.1)
def qiw(d:JoI vs jo)(h:dget jo (Z a)=Y x):∃b f:J,x=Y9 [Z b,Z f]/\b<a/\b∈vs.map (·.1):=by
 unfold dget at h;obtain⟨p,c,rfl⟩:=Qqd.mp h;obtain⟨g,b,f,rfl,h1,h2⟩:=d p (Qxj c);have e:=Qx6 c;have e:=e;cases beq_iff_eq.mp e;exact⟨b,f,rfl,h1,h2⟩
section
noncomputable abbrev coB:L M.S:=[.dset (.var 2) (.var 4) (.call 6 [.var 0,.var 4,.var 1,.var 2]),.expr (.meth (.var 3) .extend [.gc (.comp ?D (.didx (.var 2) (.var 4)) B (.tup [.var 1,.var 0]) [B,Y 4])])]
noncomputable abbrev coX(S:Y3)(vs:L (J×D×L (J×J)))(k:Y0)(s:L (J×J)×L (L J)):Y3:=S++.dic O (metD (S.length+2) ((vs.take k).map (·.1)))::.lst O (s.1.map cD)::s.2.map ysC
theorem chain{S:Type}{I:Y0->S->Prop}{R:Y0->S->S->Prop}{s0:S}(a:I 0 s0):∀n:Y0,(∀k s,k<n->I k s->∃s',I (k+1) s'/\R k s s')->∃f:Y0->S,f 0=s0/\(∀k,k<=n->I k (f k))/\∀k,k<n->R k (f k) (f (k+1))
 |0,_=>⟨λ_=>s0,rfl,λk hk=>by cases Nat.le_zero.mp hk; exact a,λk hk=>absurd hk (Nat.not_lt_zero k)⟩
 |n+1,h=>by
  obtain⟨f,e,hi,hr⟩:=chain a n λk s hk=>h k s (Qxu hk);obtain⟨s',h1,h2⟩:=h n (f n) (Qzc n) (hi n (Qqv n));refine⟨λk=>if k<=n then f k else s',(Z8 (Qza n)).trans e,λk hk=>?_,λk hk=>?_⟩<;>dsimp only
  ·by_cases c:k<=n
   ·rw[Z8 c]; exact hi k c
   ·rw[Z7 c,show k=n+1 by lia]; exact h1
  ·rw[Z8 (Qxy hk)]
   by_cases c:k+1<=n
   ·rw[Z8 c]; exact hr k c
   ·rw[Z7 c,show k=n by lia]; exact h2
noncomputable abbrev coT(a n:Y0)(x y z:J)(o:Y2 D):Sl:=[Y (.loc a),Y (.tup [.int x,.int y,.int z]),Y (.loc n),Y (.loc (n+1)),o]
def qnt(a0:(vs.map (·.1)).Pairwise (· < ·))(c7:vs.length<60)(hV:VsOk vs)(Jq:JoI vs jo){x y z:J}(b7:ing W H P x y z=O):
  ∃l:L (J×J),CoI vs l/\l.length<=16*vs.length/\∀(m:Y0) (p:Pl) (S:Y3),FA p ?c d ?i jo cs ro S->∃ex:Y3,callD fns (m+4) 7 [Y1 p.a,.tup [Z x,Z y,Z z]] S=Y (Y1 (S.length+1),S++ex)/\ex[1]?=Y (Y6 O (l.map cD)):=by
 have G:(vs.map (·.1)).Nodup:=a0.imp λh=>by lia
 have keys:keysOf ?i=vs.map λv=>D.int v.1:=by unfold keysOf voD; rw[Qqo]; rfl
 obtain⟨F,c6,c5,c4⟩:=chain (S:=L (J×J)×L (L J)) (I:=λk s=>s.2.length=k/\(∀ys∈s.2,ys.length<=16/\∀u∈ys,0<=u)/\CoI vs s.1/\s.1.length<=16*k)
  (R:=λk s s'=>∀v,vs[k]?=Y v->∀(m:Y0) (p:Pl) (S:Y3),FA p ?c d ?i jo cs ro S->∀o:Y2 D,((setT (.var 4) (Z v.1) (coT p.a S.length x y z o)).bind λa8=>(RL (callD fns (m+3))).ex a8 (coX S vs k s) coB)=Y (.nx (coT p.a S.length x y z (Y (Z v.1))),coX S vs (k+1) s')) (s0:=([],[])) ⟨rfl,Qqt _,Qqt _,Qqv _⟩ vs.length λk s n h=>by
  obtain⟨l,j⟩:=s;obtain⟨h4,T,h6,h7⟩:=h;dsimp only at h4 T h6 h7;obtain⟨v,hv⟩:∃v,vs[k]?=Y v:=⟨_,Qqh n⟩
  have a1:=Qqe hv;have tk:(vs.take (k+1)).map (·.1)=(vs.take k).map (·.1)++[v.1]:=by rw[Qjo,hv,Qqc]; rfl
  have nk:=(List.Sublist.map (·.1) (Qj0 k vs)).nodup G;have C:=(List.Sublist.map (·.1) (Qj0 (k+1) vs)).nodup G;generalize N:(vs.take k).map (·.1)=ns at nk C tk;have nl:ns.length=k:=by rw[<- N,Qqz,Qzv]; lia
  have b0:∃xs:L J,xs.length<=16/\(∀x∈xs,0<=x)/\(dget jo (Z v.1)=B\/∃b f,dget jo (Z v.1)=Y (.tup [Z b,Z f]))/\∀b f,dget jo (Z v.1)=Y (.tup [Z b,Z f])->∃i:Y0,ns[i]?=Y b/\j[i]?=Y xs:=by
   cases hj:dget jo (Z v.1) with
   |none=>exact⟨[],Qza _,Qqt _,.inl rfl,λb f e=>by cases e⟩
   |some u=>
    obtain⟨b,f,rfl,hb,c2⟩:=qiw Jq hj;obtain⟨vb,b5,rfl⟩:=Qqj.mp c2;obtain⟨i,hi⟩:=Qje.mp b5;have b8:=(Qqk.mp hi).1;have b9:i<k:=by
     by_cases c:i<k
     ·exact c
     ·exfalso;have b3:(vs.map (·.1))[k]?=Y v.1:=by rw[Qqw,hv]; rfl
      have b4:(vs.map (·.1))[i]?=Y vb.1:=by rw[Qqw,hi]; rfl
      obtain⟨_,e1⟩:=Qqk.mp b3;obtain⟨_,e2⟩:=Qqk.mp b4
      by_cases e:i=k
      ·subst e; rw[e1]at e2; lia
      ·have:=Qxg.mp a0 k i (by simpa using n) (by simpa using b8) (by lia);rw[e1,e2]at this
       lia
    have a4:ns[i]?=Y vb.1:=by rw[<- N,Qqw,Qj5 b9,hi]; rfl
    have V:i<j.length:=by lia
    have T:=T _ (Qxi V);exact⟨j[i],T.1,T.2,.inr ⟨_,_,rfl⟩,λb f e=>by cases e; exact⟨i,a4,Qqh V⟩⟩
  obtain⟨xs,x1,x2,x3,x4⟩:=b0;obtain⟨ys,hm,m1,m2⟩:=met_ok (W:=W) (H:=H) (P:=P) (d:=d) (cs:=cs) (ro:=ro) (x:=x) (y:=y) (z:=z) G a1 hV x1 x2 x3;refine⟨(l++ys.map (λi=>(v.1,i)),j++[ys]),⟨by simp[h4],?_,?_,?_⟩,λv' b6 m p S A o=>?_⟩
  ·intro u E;rcases Qqi.mp E with E|E
   ·exact T u E
   ·cases Qqb.mp E; exact⟨m1,λi hi=>(m2 i hi).1⟩
  ·intro p K;rcases Qqi.mp K with K|K
   ·exact h6 p K
   ·obtain⟨i,hi,rfl⟩:=Qqj.mp K;exact⟨v,a1,rfl,m2 i hi⟩
  ·rw[Qqn,Qqz]; lia
  cases hv.symm.trans b6;have c0:∀p∈metD (S.length+2) ns,eqT p.1 (Z v.1)=false:=λp K=>by
   obtain⟨u,E,e⟩:=qdi K;rw[tk,Qzf]at C;rw[e];exact beq_false_of_ne (C.2.2 u E v.1 (Qqb.mpr rfl))
  have a2:dput (metD (S.length+2) ns) (Z v.1) (Y1 (S.length+2+k))=metD (S.length+2) (ns++[v.1]):=by
   rw[qku c0,qay,nl]
  have hm:=hm m p _ (A.app (.dic O (metD (S.length+2) ns)::Y6 O (l.map cD)::j.map ysC)) S.length (metD (S.length+2) ns) (get0 0) λb f e=>by
   obtain⟨i,i1,i2⟩:=x4 b f e;refine⟨_,qyv nk i1,?_⟩;rw[show S.length+2+i=S.length+(i+2) by lia,get0];show(j.map ysC)[i]?=_;rw[Qqw,i2]
   rfl
  unfold coX;rw[N,tk];dsimp only;generalize hX:S++.dic O (metD (S.length+2) ns)::Y6 O (l.map cD)::j.map ysC=X at hm ⊢;have c3:X.length=S.length+2+k:=by rw[<- hX]; simp[h4]; lia
  have r0:(X++[ysC ys])[S.length]?=Y (.dic O (metD (S.length+2) ns)):=by rw[<- hX,Qq7]; exact get0 0
  have a3:(ns++[v.1])[k]?=Y v.1:=by rw[<- nl]; simp
  have hq:=qyv (Bq:=S.length+2) (tk▸C) a3;have b1:decide ((metD (S.length+2) ns).length<lim)=true:=Z5 (by rw[qdh,nl]; unfold lim; lia);have e2:=set1 (a:=.dic O (metD (S.length+2) (ns++[v.1]))) (b:=Y6 O (l.map cD)) (b':=Y6 O (l.map cD++(ys.map λi=>(v.1,i)).map cD)) (ls:=(j++[ys]).map ysC) (R:=S);have r1:=get0 (R:=S) (ls:=.dic O (metD (S.length+2) (ns++[v.1]))::Y6 O (l.map cD)::(j++[ys]).map ysC) 1;have g:=get0 (R:=S) (ls:=.dic O (metD (S.length+2) (ns++[v.1]))::Y6 O (l.map cD)::(j++[ys]).map ysC) 0;have Q:listAt (S++.dic O (metD (S.length+2) (ns++[v.1]))::Y6 O (l.map cD)::(j++[ys]).map ysC) (S.length+2+k)=Y (ys.map Z):=by
   unfold listAt;rw[show S.length+2+k=S.length+(k+2) by lia,get0,<- h4];simp
  have eY:(coT p.a S.length x y z (Y (Z v.1)),(X++[ysC ys]).set S.length (.dic O (dput (metD (S.length+2) ns) (Z v.1) (Y1 X.length))))=(coT p.a S.length x y z (Y (Z v.1)),S++.dic O (metD (S.length+2) (ns++[v.1]))::Y6 O (l.map cD)::(j++[ys]).map ysC):=by
   rw[c3,a2,<- hX,Qq7];show(_,(S++.dic O (metD (S.length+2) ns)::Y6 O (l.map cD)::(j.map ysC++[ysC ys])).set _ _)=_;rw[set0,Qqc]
   rfl
  rw[Qqc,<- e2];generalize S++.dic O (metD (S.length+2) (ns++[v.1]))::Y6 O (l.map cD)::(j++[ys]).map ysC=U at *;have a6:(RL (callD fns (m+3))).ev (coT p.a S.length x y z (Y (Z v.1))) U (.didx (.var 2) (.var 4))=Y (Y1 (S.length+2+k),U):=
   qzw 0 [] 3 (λq=>_/\_/\q) [.r (.dic O (metD (S.length+2) (ns++[v.1]))),.q (Y (Y1 (S.length+2+k)))] ⟨g,hq,rfl⟩
  have a7:=qqj (t:=.var 0) (it:=.didx (.var 2) (.var 4)) (elt:=.tup [.var 1,.var 0]) (sr:=[B,Y 4]) (s:=.lst (Y1 (S.length+2+k))) (λu=>Y (.tup [Z v.1,u])) (λτ=>∃a,τ=[a,Y (Z v.1)])
   (by show((RL (callD fns (m+3))).ev _ _ _).bind _=_; rw[a6]; show(listAt _ _).map _=_; rw[Q]; rfl) (qqq Q) (qzn Q) (by rw[Qqz]; unfold lim; lia) ⟨B,rfl⟩ (λτ u E a9=>by
    obtain⟨a,rfl⟩:=a9;obtain⟨i,hi,rfl⟩:=Qqj.mp E
    exact⟨[Y (Z i),Y (Z v.1)],qk6 rfl (qzw 0 [] 3 (λq=>q) [] rfl),_,rfl⟩)
  have ef:(ys.map D.int).filterMap (λu=>Y (D.tup [Z v.1,u]))=(ys.map λi=>(v.1,i)).map cD:=by
   rw[Qxo,Qqo];exact Qx2▸rfl
  rw[ef]at a7;have g2:=qzb (st:=U) (ds:=(ys.map λi=>(v.1,i)).map cD) (qzg λ_ _=>rfl);have b2:decide ((l.map cD).length+((ys.map λi=>(v.1,i)).map cD).length<=lim)=true:=Z5 (by simp only[Qqz]; unfold lim; lia);exact qze 0 [6] 3 (λq=>_/\_/\_/\_/\_/\_/\_/\_/\_/\q) [.c (Y1 X.length,X++[ysC ys]),.r (.dic O (metD (S.length+2) ns)),.b O,.e (coT p.a S.length x y z (Y (Z v.1)),U),.r (Y6 O (l.map cD)),.c (Y1 U.length,U++[Y6 O ((ys.map λi=>(v.1,i)).map cD)]),.l ((ys.map λi=>(v.1,i)).map cD),.r (Y6 O (l.map cD)),.b O]
   (r:=(.nx (coT p.a S.length x y z (Y (Z v.1))),U.set (S.length+1) (Y6 O (l.map cD++(ys.map λi=>(v.1,i)).map cD)))) ⟨hm,r0,b1,eY,r1,a7,g2,r1,b2,rfl⟩
 obtain⟨h4,T,h6,h7⟩:=c5 vs.length (Qqv _);refine⟨(F vs.length).1,h6,h7,λm p S A=>⟨.dic O (metD (S.length+2) (vs.map (·.1)))::Y6 O ((F vs.length).1.map cD)::(F vs.length).2.map ysC,?_,rfl⟩⟩;have A2:=A.app [.dic O [],Y6 O []];have c1:(RL (callD fns (m+3))).ev (coT p.a S.length x y z B) (S++[.dic O [],Y6 O []]) (.gc (.mcall 642 48 "veins" ?D []))=Y (.lst (vs.map λv=>D.int v.1),S++[.dic O [],Y6 O []]):=by
  have g:=qzb (st:=S++[.dic O [],Y6 O []]) (ds:=keysOf ?i) (by rw[keys]; exact qzg λ_ _=>rfl);rw[<- keys];exact qzw 0 [] 3 (λq=>_/\_/\_/\_/\q) [.r (p.fc ?c d),.r (p.fc ?c d),.r (.dic O ?i),.l (keysOf ?i)] ⟨A2.hf,A2.hf,A2.hv,g,rfl⟩
 obtain⟨w,st',h1,hk,o,rfl,rfl⟩:=qz4 (st:=S++[.dic O [],Y6 O []]) (it:=.gc (.mcall 642 48 "veins" ?D [])) (t:=.var 4) (body:=coB)
  (λk w st'=>k<=vs.length/\∃o:Y2 D,w=coT p.a S.length x y z o/\st'=coX S vs k (F k))
  (by show((RL (callD fns (m+3))).ev _ _ _).bind _=_; rw[c1]; rfl) (qzn rfl) (λk w st' _=>qqq rfl k) ⟨Qza _,B,rfl,by rw[c6]; rfl⟩ (λk w st' q hq h=>by
   obtain⟨hk,o,rfl,rfl⟩:=h;rw[Qqw]at hq;obtain⟨v,hv,rfl⟩:=Qqd.mp hq;have n:=(Qqk.mp hv).1
   exact⟨_,_,c4 k n v hv m p S A o,n,_,rfl,rfl⟩)
 unfold coX at h1;rw[Qqz,Qzm]at h1;have a5:=qiy (m+2) S W H P x y z;rw[b7]at a5;have e0:(([Y (Y1 p.a),Y (.tup [Z x,Z y,Z z]),Y (Y1 S.length),B,B]:Sl),(S++[Yb.dic O []]).set S.length (.dic O (dall [])))=([Y (Y1 p.a),Y (.tup [Z x,Z y,Z z]),Y (Y1 S.length),B,B],S++[Yb.dic O []]):=by
  rw[sl]
  rfl
 have e1:(([Y (Y1 p.a),Y (.tup [Z x,Z y,Z z]),Y (Y1 S.length),Y (Y1 (S++[Yb.dic O []]).length),B]:Sl),S++[Yb.dic O []]++[Y6 O []])=(coT p.a S.length x y z B,S++[.dic O [],Y6 O []]):=by
  rw[Qqn,Qq7]
  rfl
 exact qzz 0 [4] 4 (λq=>_/\_/\_/\_/\_/\_/\_/\q) [.r (p.fc ?c d),.r (p.fc ?c d),.c (.bl O,S),.r (.dic O []),.e ([Y (Y1 p.a),Y (.tup [Z x,Z y,Z z]),Y (Y1 S.length),B,B],S++[Yb.dic O []]),.e (coT p.a S.length x y z B,S++[.dic O [],Y6 O []]),.s (.nx (coT p.a S.length x y z o),S++.dic O (metD (S.length+2) (vs.map (·.1)))::Y6 O ((F vs.length).1.map cD)::(F vs.length).2.map ysC)] ⟨A.hf,A.hf,a5,gl (st:=S) (c:=.dic O []),e0,e1,h1,rfl⟩
end
noncomputable def hiD(p:J×String):D:=.tup [.int p.1,sO p.2]
def nl_h(a:L (J×String)):noLocs (a.map hiD)=true:=qzg λ_ _=>rfl
def cov_ok(m)(st)(g)(x y z):callD fns (m+2) 11 [rD g,Y9 [Z x,Z y,Z z]] st=Y (.bl (inB g (x,y)),st):=
 qzz 0 [0] 2 (λq=>_/\q) [.c (.bl (inB g (x,y)),st)] ⟨qwe m st g (x,y),rfl⟩
noncomputable abbrev rkB:L M.S:=[.ite (.call 1 [.var 6,.var 1]) [.expr (.meth (.var 3) .append [.tup [.var 5,.lit (sO "dip")]])] [.ite (.call 11 [.var 6,.var 2]) [.expr (.meth (.var 4) .append [.tup [.var 5,.lit (sO "ground")]])] []]]
noncomputable abbrev rkS(st:Y3)(a b:L (J×String)):Y3:=st++[.lst O (a.map hiD)]++[.lst O (b.map hiD)]
def ap1{c:Yb}:(st++[a]++[b]).set st.length c=st++[c]++[b]:=by
 rw[Qq7,Qq7];exact set0
noncomputable def rkA(ps:L (J×J))(gs:L Cl):L (J×String):=gs.filterMap λc=>if hasB c.g ps then Y (c.nm,"dip") else B
noncomputable def rkG(ps:L (J×J))(p:J×J)(gs:L Cl):L (J×String):=gs.filterMap λc=>if hasB c.g ps then B else if inB c.g p then Y (c.nm,"ground") else B
def qc2(I:gs.length<1000)(E:ps.length<lim)(x y z)(m)(st):callD fns (m+3) 13 [.lst (sgD gs),.lst ?g,.tup [Z x,Z y,Z z]] st=Y (Y1 (rkS st (rkA ps gs) (rkG ps (x,y) gs)).length,rkS st (rkA ps gs) (rkG ps (x,y) gs)++[Y6 O ((rkA ps gs).map hiD++(rkG ps (x,y) gs).map hiD)]):=by
 obtain⟨e,st',h1,hk,u,v,a,b,rfl,rfl,h2,s,p⟩:=qea (c:=callD fns (m+2)) (i:=0) (t:=.tup [5,6]) (body:=rkB)
  (λk e st'=>k<=gs.length/\∃(u v:Y2 D) (a b:L (J×String)),e=[Y (.lst (sgD gs)),Y (.lst ?g),Y (.tup [Z x,Z y,Z z]),Y ?B,Y (Y1 (st++[Yb.lst O []]).length),u,v]/\st'=rkS st a b/\a.length+b.length<=k/\a=rkA ps (gs.take k)/\b=rkG ps (x,y) (gs.take k))
  rfl ⟨Qza _,B,B,[],[],rfl,rfl,Qqv _,rfl,rfl⟩ (λk e st' _=>rfl) (λk e st' q l h=>by
   obtain⟨hk,u,v,a,b,rfl,rfl,h2,s,p⟩:=h;have d:=(Qqk.mp l).1;unfold sgD at l d;rw[Qqz]at d;rw[Qqw]at l;obtain⟨c,hc,rfl⟩:=Qqd.mp l;have tk:gs.take (k+1)=gs.take k++[c]:=by rw[Qjo,hc]; rfl
   have tA:rkA ps (gs.take (k+1))=a++rkA ps [c]:=by rw[tk,s]; exact Qjd
   have C:rkG ps (x,y) (gs.take (k+1))=b++rkG ps (x,y) [c]:=by rw[tk,p]; exact Qjd
   have A:rkA ps [c]=if hasB c.g ps then [(c.nm,"dip")] else []:=by unfold rkA; rw[Qzk]; split<;>simp_all
   have w:rkG ps (x,y) [c]=if hasB c.g ps then [] else if inB c.g (x,y) then [(c.nm,"ground")] else []:=by unfold rkG; rw[Qzk]; split<;>simp_all
   have j:=qia m (st:=rkS st a b) (g:=c.g) (q:=.lst ?g) rfl E;have hv:=cov_ok m (rkS st a b) c.g x y z;have L2:(st++[Yb.lst O []]).length=(st++[Yb.lst O (a.map hiD)]).length:=by simp
   have o:(rkS st a b)[st.length]?=Y (Y6 O (a.map hiD)):=by unfold rkS; rw[Qq7]; exact get0 0
   have n:(rkS st a b)[(st++[Yb.lst O []]).length]?=Y (Y6 O (b.map hiD)):=by unfold rkS; rw[L2]; exact gl
   have H:decide ((a.map hiD).length<lim)=true:=Z5 (by rw[Qqz]; unfold lim; lia);have G:decide ((b.map hiD).length<lim)=true:=Z5 (by rw[Qqz]; unfold lim; lia)
   cases hb:hasB c.g ps with
   |true=>
    rw[hb]at j;refine⟨_,_,qze 0 [1,11] 2 (λq=>_/\_/\_/\_/\q) [.c (.bl O,rkS st a b),.r (Y6 O (a.map hiD)),.r (Y6 O (a.map hiD)),.b O] (r:=(.nx [Y (.lst (sgD gs)),Y (.lst ?g),Y (.tup [Z x,Z y,Z z]),Y ?B,Y (Y1 (st++[Yb.lst O []]).length),Y (Z c.nm),Y (rD c.g)],(rkS st a b).set st.length (Y6 O (a.map hiD++[hiD (c.nm,"dip")])))) ⟨j,o,o,H,rfl⟩,d,_,_,a++[(c.nm,"dip")],b,rfl,by unfold rkS; rw[ap1,Qqc]; rfl,by rw[Qqn]; simp only[Qz1]; lia,by rw[tA,A,hb]; rfl,by rw[C,w,hb]; exact(Qzj b).symm⟩
   |false=>
    rw[hb]at j
    cases f:inB c.g (x,y) with
    |true=>
     rw[f]at hv;refine⟨_,_,qze 0 [1,11] 2 (λq=>_/\_/\_/\_/\_/\q) [.c (.bl Y5,rkS st a b),.c (.bl O,rkS st a b),.r (Y6 O (b.map hiD)),.r (Y6 O (b.map hiD)),.b O] (r:=(.nx [Y (.lst (sgD gs)),Y (.lst ?g),Y (.tup [Z x,Z y,Z z]),Y ?B,Y (Y1 (st++[Yb.lst O []]).length),Y (Z c.nm),Y (rD c.g)],(rkS st a b).set (st++[Yb.lst O []]).length (Y6 O (b.map hiD++[hiD (c.nm,"ground")])))) ⟨j,hv,n,n,G,rfl⟩,d,_,_,a,b++[(c.nm,"ground")],rfl,by unfold rkS; rw[L2,sl,Qqc]; rfl,by rw[Qqn]; simp only[Qz1]; lia,by rw[tA,A,hb]; exact(Qzj a).symm,by rw[C,w,hb,f]; rfl⟩
    |false=>
     rw[f]at hv
     exact⟨_,_,qze 0 [1,11] 2 (λq=>_/\_/\q) [.c (.bl Y5,rkS st a b),.c (.bl Y5,rkS st a b)] (r:=(.nx [Y (.lst (sgD gs)),Y (.lst ?g),Y (.tup [Z x,Z y,Z z]),Y ?B,Y (Y1 (st++[Yb.lst O []]).length),Y (Z c.nm),Y (rD c.g)],rkS st a b)) ⟨j,hv,rfl⟩,d,_,_,a,b,rfl,rfl,by lia,by rw[tA,A,hb]; exact(Qzj a).symm,by rw[C,w,hb,f]; exact(Qzj b).symm⟩)
 rw[show(sgD gs).length=gs.length by unfold sgD; rw[Qqz],Qzm]at s p;rw[<- s,<- p];have L2:(st++[Yb.lst O []]).length=(st++[Yb.lst O (a.map hiD)]).length:=by simp
 have o:(rkS st a b)[st.length]?=Y (Y6 O (a.map hiD)):=by unfold rkS; rw[Qq7]; exact get0 0
 have n:(rkS st a b)[(st++[Yb.lst O []]).length]?=Y (Y6 O (b.map hiD)):=by unfold rkS; rw[L2]; exact gl
 have d:(sgD gs).length=gs.length:=by unfold sgD; rw[Qqz]
 have F:decide (lim<(a.map hiD).length+(b.map hiD).length)=false:=Z6 (by simp only[Qqz]; unfold lim; lia);exact qzz 0 [] 3 (λq=>_/\_/\_/\_/\q) [.s (.nx [Y (.lst (sgD gs)),Y (.lst ?g),Y (.tup [Z x,Z y,Z z]),Y ?B,Y (Y1 (st++[Yb.lst O []]).length),u,v],rkS st a b),.r (Y6 O (a.map hiD)),.r (Y6 O (b.map hiD)),.b Y5] ⟨h1,o,n,F,rfl⟩
section
variable {p:Pl}{d:J}{jo:L (D×D)}{ro:L J}{S:Y3}{cs:L Cl}{vs:L (J×D×L (J×J))}
def out_ok(m)(A:FA p sz d ?i jo cs ro S)(a:(vs.map (·.1)).Nodup)(hv:v∈vs)(e:v.1=u.1)(f:0<=u.2)(c:u.2<(v.2.2.length:J)):callD fns (m+2) 9 [Y1 p.a,cD u] S=Y (cD (v.2.2[u.2.toNat]?.getD (0,0)),S):=by
 have hi:u.2.toNat<v.2.2.length:=by lia
 have hg:=qk5 m A a hv;rw[e]at hg;rw[Qqh hi];have b:idxD S (Y9 (v.2.2.map cD)) (Z u.2)=Y (cD v.2.2[u.2.toNat]):=by
  show atI (v.2.2.map cD) u.2=_;unfold atI ixN;rw[Z8 f,Z8 (by rw[Qqz]; exact c)];simp[Qqh hi]
 exact qzz 0 [49] 2 (λq=>_/\_/\_/\q) [.r (p.fc sz d),.n,.c (vD v,S),.n,.n,.i (cD v.2.2[u.2.toNat])] ⟨A.hf,hg,b,rfl⟩
def qgr(b:(vs.map (·.1)).Nodup)(j:CoI vs a)(k:a.length<lim):∃ps:L (J×J),ps.length=a.length/\∀(m:Y0) (p:Pl) (S:Y3) (sz:D),FA p sz d ?i jo cs ro S->callD fns (m+3) 10 [Y1 p.a,Yc (a.map cD)] S=Y (Y1 S.length,S++[Y6 O ?g]):=by
 obtain⟨f,hf⟩:=Classical.axiomOfChoice (r:=λ(u q:J×J)=>u∈a->∀(m:Y0) (p:Pl) (S:Y3) (sz:D),FA p sz d ?i jo cs ro S->callD fns (m+2) 9 [Y1 p.a,cD u] S=Y (cD q,S)) λu=>by
  by_cases h:u∈a
  ·obtain⟨v,hv,e,h1,h2⟩:=j u h;exact⟨_,λ_ m p S sz A=>out_ok m A b hv e h1 h2⟩
  ·exact⟨u,λz=>absurd z h⟩
 refine⟨a.map f,Qqz ..,λm p S sz A=>?_⟩;have h:=qxg (c:=callD fns (m+2)) (τ:=[Y (Y1 p.a),Y (Yc (a.map cD))]) (st:=S) (i:=1) (elt:=.call 9 [Yd 1,Yd 0]) (sr:=[B,Y 0]) a cD (λu=>cD (f u)) rfl rfl k rfl λu g=>qzw 0 [9] 2 (λq=>_/\q) [.c (cD (f u),S)] ⟨hf u g m p S sz A,rfl⟩;have e:a.map (λp=>cD (f p))=(a.map f).map cD:=by rw[Qqo]; rfl
 rw[e]at h;exact qzz 0 [] 3 (λq=>_/\q) [.c (Y1 S.length,S++[Y6 O ((a.map f).map cD)])] ⟨h,rfl⟩
def qhx(nd:(cs.map (·.nm)).Nodup)(r:∀n∈ro,∃c∈cs,c.nm=n)(C:ro.length<1000)(f:(vs.map (·.1)).Pairwise (· < ·))(o:vs.length<60)(E:VsOk vs)(I:JoI vs jo)(s:ing W H P x y z=O):
  ∃ps:L (J×J),∀(m:Y0) (p:Pl) (S:Y3),FA p ?c d ?i jo cs ro S->∃q:D×Y3,callD fns (m+5) 14 [Y1 p.a,Y9 [Z x,Z y,Z z]] S=Y q/\gcD S q=(Yc ((rkA ps ?J++rkG ps (x,y) ?J).map hiD),S):=by
 have l:(vs.map (·.1)).Nodup:=f.imp λh=>by lia
 obtain⟨w,c3,c4,g⟩:=qnt (d:=d) (cs:=cs) (ro:=ro) f o E I s;obtain⟨ps,p1,p2⟩:=qgr (d:=d) (jo:=jo) (cs:=cs) (ro:=ro) l c3 (by unfold lim; lia);have F:=qci (cs:=cs) (ro:=ro) (d:=d);have k:=qc2 (ps:=ps) (gs:=stC cs ro d) (by lia) (by unfold lim; lia) x y z;refine⟨ps,λm p S A=>?_⟩;obtain⟨ex,c1,c2⟩:=g m p S A;have p2:=p2 (m+1) p S _ A;have G:=sg_ok m A nd r C;have k:=k (m+1) S;generalize stC cs ro d=j at *;generalize rkA ps j=a at *;generalize rkG ps (x,y) j=b at *;have v:=qnh (st:=S) c2 (qzg λ_ _=>rfl);have u:=qzb (st:=S) (ds:=ps.map cD) (qzg λ_ _=>rfl);have t:=qzb (st:=S) (nl_sg j);refine⟨(Y1 (rkS S a b).length,rkS S a b++[Y6 O (a.map hiD++b.map hiD)]),qzz 0 [7,10,12,13] 5 (λq=>_/\_/\_/\_/\_/\_/\_/\q) [.c (Y1 (S.length+1),S++ex),.l (w.map cD),.c (Y1 S.length,S++[Y6 O ?g]),.l ?g,.c (Y1 S.length,S++[Y6 O (sgD j)]),.l (sgD j),.c (Y1 (rkS S a b).length,rkS S a b++[Y6 O (a.map hiD++b.map hiD)])] ⟨c1,v,p2,u,G,t,k,rfl⟩,?_⟩;have:=qnh (st:=S) (ex:=[Y6 O (a.map hiD),Y6 O (b.map hiD),Y6 O ((a++b).map hiD)]) (i:=2) rfl (nl_h (a++b));rw[Qqc]at this ⊢;have e:(rkS S a b).length=S.length+2:=by simp
 rw[e];unfold rkS;rw[Qq7,Qq7];exact this
end
noncomputable def Cl.mc(c:Cl):Yb:=.lst O [.int c.o,rD c.g,.int c.la,oD c.v,oD c.gv,.loc (c.j+8)]
abbrev InvM:=InvK Cl.mc
noncomputable abbrev mdC(sz:D)(T d:J):Yb:=.dic O [(sO "size",sz),(sO "term",.int T),(sO "day",.int d),(sO "row",.loc 2),(sO "book",.loc 3),(sO "dug",.loc 4),(sO "veins",.loc 5),(sO "joins",.loc 6),(sO "claims",.loc 7)]
noncomputable abbrev GM(F:L D)(sz:D)(T d:J)(ro:L J)(fo jo bo:L (D×D))(r:Y3):Y3:=.lst O F::mdC sz T d::.lst O (rowD ro)::.lst O []::.lst O []::.dic O fo::.dic O jo::.dic O bo::r
def qxb(n)(g)(d)(c)(P:Prop->Prop)(t)(b:P (c=r))(h:qjb n (runT n (RL (callD fns (k+d))) (qka fns n g k d) 40) τ st s t (λa _=>a=r)=P (c=r):=by kernel_rfl):stepEx (RL (callD fns (k+d))) τ st s=Y r:=by
 rw[<- h]at b;obtain⟨a,i,e,rfl⟩:=qjy (qxn (λf ds st=>qq7 d f ds st) 40) τ st s t _ b;exact e
def ixm{S:Y3}(h:S[l]?=Y (Y6 O ds))(hi:atI ds i=Y x):idxD S (Y1 l) (Z i)=Y x:=by
 show(listAt S l).bind _=_;unfold listAt;rw[h];exact hi
section
variable {F:L D}{sz:D}{T d:J}{ro:L J}{fo jo bo:L (D×D)}{r:Y3}{c:Cl}{i:Y0}
def qkm(m)(f:dget bo (Z c.nm)=Y (Y1 (i+9)))(h:r[i+1]?=Y c.mc):callD fns (m+1) 68 [Y1 1,Z c.nm] ?e=Y (sO (stW c d),GM F sz T d ro fo jo bo r):=by
 have h:?e[i+9]?=Y c.mc:=h;have e:=ixm (i:=4) h rfl;have j:=ixm (i:=2) h rfl;have k:=ixm (i:=3) h rfl;have g:=qzb (st:=GM F sz T d ro fo jo bo r) (ds:=[sO "stands",sO "unvested"]) rfl;unfold stW
 cases a:c.gv with
 |some x=>exact qzz 8 [] 1 (λq=>_/\_/\_/\q) [.k,.q ?C,.i (oD c.gv),.b O] ⟨f,e,nnS a,rfl⟩
 |none=>
  by_cases b:c.la<d
  ·rw[Z8 b];exact qzz 8 [] 1 (λq=>_/\_/\_/\_/\_/\q) [.k,.q ?C,.i (oD c.gv),.b Y5,.k,.i (Z c.la),.b O] ⟨f,e,nnN a,j,Z5 b,rfl⟩
  ·rw[Z7 b]
   cases hv:c.v with
   |none=>exact qzz 8 [] 1 (λq=>_/\_/\_/\_/\_/\_/\_/\_/\q) [.k,.q ?C,.i (oD c.gv),.b Y5,.k,.i (Z c.la),.b Y5,.l [sO "stands",sO "unvested"],.i (oD c.v),.b O] ⟨f,e,nnN a,j,Z6 b,g,k,isN hv,rfl⟩
   |some x=>exact qzz 8 [] 1 (λq=>_/\_/\_/\_/\_/\_/\_/\_/\q) [.k,.q ?C,.i (oD c.gv),.b Y5,.k,.i (Z c.la),.b Y5,.l [sO "stands",sO "unvested"],.i (oD c.v),.b Y5] ⟨f,e,nnN a,j,Z6 b,g,k,isS hv,rfl⟩
def qiq(m)(a:dget bo (Z c.nm)=Y (Y1 (i+9)))(h:r[i+1]?=Y c.mc)(k:rowAt ?e q=Y ?g)(l:ps.length<lim)(hr:ro.length<1000):
  callD fns (m+2) 69 [Y1 1,Z c.nm,q] ?e=Y (.non,if hit d ps c then GM F sz T d (ro++[c.nm]) fo jo bo (r.set (i+1) (vst d ps c).mc) else GM F sz T d ro fo jo bo r):=by
 have hs:=qkm (F:=F) (sz:=sz) (T:=T) (d:=d) (ro:=ro) (fo:=fo) (jo:=jo) m a h;have h':?e[i+9]?=Y c.mc:=h;have j:=ixm (i:=1) h' rfl;have h1:=qxg (c:=callD fns (m+1)) (τ:=[Y (Y1 1),Y (Z c.nm),Y q,Y (Y1 (i+9))]) (i:=2) (elt:=.call 66 [.idx (Yd 1) (.lit (Z 1)),Yd 0]) (sr:=[B,Y 3]) ps cD (λp=>.bl (inB c.g p)) rfl k l rfl λp _=>qzw 0 [66] 1 (λq=>_/\_/\q) [.i (rD c.g),.c (.bl (inB c.g p),GM F sz T d ro fo jo bo r)] ⟨j,qd8 (.inr rfl) m ?e c.g p,rfl⟩;have e:ps.map (λp=>D.bl (inB c.g p))=(ps.map (inB c.g)).map .bl:=by rw[Qqo]; rfl
 rw[e]at h1;have f:bfun ?e .any [Yc ((ps.map (inB c.g)).map .bl)]=Y (.bl (hasB c.g ps),GM F sz T d ro fo jo bo r):=by
  show(asBools _).map _=_;rw[asB];simp[hasB,List.any_map,Function.comp_def]
 have g:=qzb (st:=GM F sz T d ro fo jo bo r) (nlB (ps.map (inB c.g)));have b:=λx:String=>gS (sO x) ?e rfl;have no:∀w,stW c d=w->(w = "stands"\/w = "given"\/w = "fallen")->hit d ps c=false:=λw e h=>by
  unfold hit;rw[e];rcases h with rfl|rfl|rfl<;>rfl
 rcases qz1 c d with⟨e,n,h2,_⟩|⟨e,_⟩|⟨e,_⟩|⟨e,_⟩
 ·rw[e]at hs;have hi:hit d ps c=hasB c.g ps:=by unfold hit; rw[e]; rfl
  cases hb:hasB c.g ps with
  |true=>
   rw[hb]at hi f;have hv:vst d ps c={ c with v:=Y d }:=by unfold vst; rw[hi]; rfl
   rw[hi,Z8 rfl,hv];have el:rowD (ro++[c.nm])=rowD ro++[Z c.nm]:=by simp
   unfold GM;rw[el];exact qzz 8 [68] 2 (λq=>_/\_/\_/\_/\_/\_/\_/\_/\q) [.k,.q ?C,.c (sO "unvested",GM F sz T d ro fo jo bo r),.g,.c (Y1 (?e).length,GM F sz T d ro fo jo bo r++[Y6 O ((ps.map (inB c.g)).map .bl)]),.l ((ps.map (inB c.g)).map .bl),.c (.bl O,GM F sz T d ro fo jo bo r),.k,.r c.mc,.k,.b O] ⟨a,hs,b "unvested",h1,g,f,h',Z5 (show(rowD ro).length<lim by simp; unfold lim; lia),rfl⟩
  |false=>
   rw[hb]at hi f;rw[hi,Z7 (by simp)];exact qzz 8 [68] 2 (λq=>_/\_/\_/\_/\_/\_/\q) [.k,.q ?C,.c (sO "unvested",GM F sz T d ro fo jo bo r),.g,.c (Y1 (?e).length,GM F sz T d ro fo jo bo r++[Y6 O ((ps.map (inB c.g)).map .bl)]),.l ((ps.map (inB c.g)).map .bl),.c (.bl Y5,GM F sz T d ro fo jo bo r)] ⟨a,hs,b "unvested",h1,g,f,rfl⟩
 ·rw[no _ e (.inl rfl),Z7 (by simp)];rw[e]at hs;exact qzz 8 [68] 2 (λq=>_/\_/\_/\q) [.k,.q ?C,.c (sO "stands",GM F sz T d ro fo jo bo r),.g] ⟨a,hs,b "stands",rfl⟩
 ·rw[no _ e (.inr (.inl rfl)),Z7 (by simp)];rw[e]at hs;exact qzz 8 [68] 2 (λq=>_/\_/\_/\q) [.k,.q ?C,.c (sO "given",GM F sz T d ro fo jo bo r),.g] ⟨a,hs,b "given",rfl⟩
 ·rw[no _ e (.inr (.inr rfl)),Z7 (by simp)];rw[e]at hs;exact qzz 8 [68] 2 (λq=>_/\_/\_/\q) [.k,.q ?C,.c (sO "fallen",GM F sz T d ro fo jo bo r),.g] ⟨a,hs,b "fallen",rfl⟩
end
section
variable {F:L D}{sz:D}{T d:J}{ro:L J}{fo jo bo:L (D×D)}{r:Y3}{c:Cl}{i:Y0}
def mc_no(m)(h:dget bo (Z n)=B):callD fns (m+1) 72 [Y1 1,Y9 (sO w::Z n::l)] ?e=Y (sO "noclaim",GM F sz T d ro fo jo bo r):=
 qzz 8 [] 1 (λq=>_/\_/\q) [.i (Z n),.k,.q B] ⟨ix1 (st:=GM F sz T d ro fo jo bo r) (a:=sO w) (b:=Z n) (r:=l),h,rfl⟩
def qmu(m)(g:dget bo (Z c.nm)=Y (Y1 (i+9)))(h:r[i+1]?=Y c.mc)(f:over d c):callD fns (m+2) 72 [Y1 1,Y9 (sO w::Z c.nm::l)] ?e=Y (sO "ended",GM F sz T d ro fo jo bo r):=by
 have hs:=qkm (F:=F) (sz:=sz) (T:=T) (d:=d) (ro:=ro) (fo:=fo) (jo:=jo) m g h;have x:=ix1 (st:=GM F sz T d ro fo jo bo r) (a:=sO w) (b:=Z c.nm) (r:=l);have j:=λx:String=>gS (sO x) ?e rfl;rcases qz1 c d with⟨e,_,h2,k⟩|⟨e,_,h2,k⟩|⟨e,_⟩|⟨e,_⟩
 ·rcases f with f|f
  ·exact absurd h2 f
  ·lia
 ·rcases f with f|f
  ·exact absurd h2 f
  ·lia
 ·rw[e]at hs;exact qzz 8 [68] 2 (λq=>_/\_/\_/\_/\_/\_/\_/\q) [.i (Z c.nm),.k,.q ?C,.k,.i (Z c.nm),.q ?C,.i (Z c.nm),.c (sO "given",GM F sz T d ro fo jo bo r),.g] ⟨x,g,x,g,x,hs,j "given",rfl⟩
 ·rw[e]at hs;exact qzz 8 [68] 2 (λq=>_/\_/\_/\_/\_/\_/\_/\q) [.i (Z c.nm),.k,.q ?C,.k,.i (Z c.nm),.q ?C,.i (Z c.nm),.c (sO "fallen",GM F sz T d ro fo jo bo r),.g] ⟨x,g,x,g,x,hs,j "fallen",rfl⟩
def qm0(m)(a:dget bo (Z c.nm)=Y (Y1 (i+9)))(h:r[i+1]?=Y c.mc)(f:¬ over d c):callD fns (m+2) 72 [Y1 1,Y9 [sO "give",Z c.nm]] ?e=Y (sO "good",GM F sz T d ro fo jo bo (r.set (i+1) ({ c with gv:=Y d }:Cl).mc)):=by
 have hs:=qkm (F:=F) (sz:=sz) (T:=T) (d:=d) (ro:=ro) (fo:=fo) (jo:=jo) m a h;have b:=λx:String=>gS (sO x) ?e rfl;have h':?e[i+9]?=Y c.mc:=h;rcases qxr f with e|e<;>rw[e]at hs
 ·exact qzz 8 [68] 2 (λq=>_/\_/\_/\_/\_/\q) [.k,.q ?C,.k,.q ?C,.c (sO "unvested",GM F sz T d ro fo jo bo r),.g,.k,.r c.mc] ⟨a,a,hs,b "unvested",h',rfl⟩
 ·exact qzz 8 [68] 2 (λq=>_/\_/\_/\_/\_/\q) [.k,.q ?C,.k,.q ?C,.c (sO "stands",GM F sz T d ro fo jo bo r),.g,.k,.r c.mc] ⟨a,a,hs,b "stands",h',rfl⟩
def qms(m)(a:dget bo (Z c.nm)=Y (Y1 (i+9)))(h:r[i+1]?=Y c.mc)(f:¬ over d c)(o):callD fns (m+2) 72 [Y1 1,Y9 [sO "sell",Z c.nm,Z o]] ?e=Y (sO "good",GM F sz T d ro fo jo bo (r.set (i+1) ({ c with o:=o }:Cl).mc)):=by
 have hs:=qkm (F:=F) (sz:=sz) (T:=T) (d:=d) (ro:=ro) (fo:=fo) (jo:=jo) m a h;have b:=λx:String=>gS (sO x) ?e rfl;have h':?e[i+9]?=Y c.mc:=h;rcases qxr f with e|e<;>rw[e]at hs
 ·exact qzz 8 [68] 2 (λq=>_/\_/\_/\_/\_/\q) [.k,.q ?C,.k,.q ?C,.c (sO "unvested",GM F sz T d ro fo jo bo r),.g,.r c.mc] ⟨a,a,hs,b "unvested",h',rfl⟩
 ·exact qzz 8 [68] 2 (λq=>_/\_/\_/\_/\_/\q) [.k,.q ?C,.k,.q ?C,.c (sO "stands",GM F sz T d ro fo jo bo r),.g,.r c.mc] ⟨a,a,hs,b "stands",h',rfl⟩
def qmr(m)(a:dget bo (Z c.nm)=Y (Y1 (i+9)))(h:r[i+1]?=Y c.mc)(k:r[i]?=Y c.dl)(hj:c.j=i)(n:c.ds.length<900)(l:¬ over d c):callD fns (m+2) 72 [Y1 1,Y9 [sO "work",Z c.nm]] ?e=Y (sO "good",GM F sz T d ro fo jo bo ((r.set (i+1) ({ c with la:=d+T }:Cl).mc).set i (Y6 O (c.ds.map Z++[Z d])))):=by
 have hs:=qkm (F:=F) (sz:=sz) (T:=T) (d:=d) (ro:=ro) (fo:=fo) (jo:=jo) m a h;have j:=λx:String=>gS (sO x) ?e rfl;have h':?e[i+9]?=Y c.mc:=h;have h2:(GM F sz T d ro fo jo bo (r.set (i+1) ({ c with la:=d+T }:Cl).mc))[i+9]?=Y ({ c with la:=d+T }:Cl).mc:=Qq5 (Qqk.mp h).1;have g:idxD (GM F sz T d ro fo jo bo (r.set (i+1) ({ c with la:=d+T }:Cl).mc)) (Y1 (i+9)) (Z 5)=Y (Y1 (i+8)):=ixm h2 (by show Y (D.loc (c.j+8))=_; rw[hj]);have f:(GM F sz T d ro fo jo bo (r.set (i+1) ({ c with la:=d+T }:Cl).mc))[i+8]?=Y c.dl:=by
  show(r.set (i+1) _)[i]?=_;rw[Qqr (by lia)];exact k
 have b:decide ((c.ds.map D.int).length<lim)=true:=Z5 (by rw[Qqz]; unfold lim; lia);rcases qxr l with e|e<;>rw[e]at hs
 ·exact qzz 8 [68] 2 (λq=>_/\_/\_/\_/\_/\_/\_/\_/\_/\q) [.k,.q ?C,.k,.q ?C,.c (sO "unvested",GM F sz T d ro fo jo bo r),.g,.k,.k,.r c.mc,.i (Y1 (i+8)),.r c.dl,.k,.r c.dl,.b O] ⟨a,a,hs,j "unvested",h',g,f,f,b,rfl⟩
 ·exact qzz 8 [68] 2 (λq=>_/\_/\_/\_/\_/\_/\_/\_/\_/\q) [.k,.q ?C,.k,.q ?C,.c (sO "stands",GM F sz T d ro fo jo bo r),.g,.k,.k,.r c.mc,.i (Y1 (i+8)),.r c.dl,.k,.r c.dl,.b O] ⟨a,a,hs,j "stands",h',g,f,f,b,rfl⟩
end
abbrev Rc:=J×J×J×J
noncomputable def lo(g:Rc)(s:J):Int:=if s=0 then g.1 else g.2.1
noncomputable def hi(g:Rc)(s:J):Int:=if s=0 then g.2.2.1 else g.2.2.2
noncomputable def aG(g:Rc)(s l:J):Rc:=if s=0 then(g.1,g.2.1,l - 1,g.2.2.2) else(g.1,g.2.1,g.2.2.1,l - 1)
noncomputable def bG(g:Rc)(s l:J):Rc:=if s=0 then(l,g.2.1,g.2.2.1,g.2.2.2) else(g.1,l,g.2.2.1,g.2.2.2)
def qio(g)(s l):cutG g s l=if lo g s<l/\l<=hi g s then Y (aG g s l,bG g s l) else none:=by
 unfold cutG lo hi aG bG
 by_cases h:s=0
 ·simp only[Z8 h]
 ·simp only[Z7 h]
noncomputable abbrev G4(g:Rc):Yb:=.lst O [.int g.1,.int g.2.1,.int g.2.2.1,.int g.2.2.2]
noncomputable abbrev ptF(n s l o:J):D:=.tup [sO "part",.int n,.int s,.int l,.int o]
section
variable {F:L D}{sz:D}{T d:J}{ro:L J}{fo jo bo:L (D×D)}{r:Y3}{c:Cl}{i:Y0}
noncomputable abbrev ptT(n s l o d:J)(i k:Y0):Sl:=[Y (.loc 1),Y (ptF n s l o),Y (.int d),Y (.loc (i+9)),Y (.loc (k+8)),Y (.loc (k+9))]
noncomputable abbrev pt5:M.S:=.six (.var 4) (.bin .Add (.idx (.var 1) (.lit (.int 2))) (.lit (.int 2))) (.bin .Sub (.idx (.var 1) (.lit (.int 3))) (.lit (.int 1)))
noncomputable abbrev pt6:M.S:=.six (.var 5) (.idx (.var 1) (.lit (.int 2))) (.idx (.var 1) (.lit (.int 3)))
def pt_ok(m)(n)(hs:s=0\/s=1):stepEx (RL (callD fns (m+0))) (ptT n s l o d i r.length) (GM F sz T d ro fo jo bo (r++[G4 g,G4 g])) pt5=Y (.nx (ptT n s l o d i r.length),GM F sz T d ro fo jo bo (r++[G4 (aG g s l),G4 g]))/\stepEx (RL (callD fns (m+0))) (ptT n s l o d i r.length) (GM F sz T d ro fo jo bo (r++[G4 (aG g s l),G4 g])) pt6=Y (.nx (ptT n s l o d i r.length),GM F sz T d ro fo jo bo (r++[G4 (aG g s l),G4 (bG g s l)])):=by
 have b:(r++[G4 g,G4 g])[r.length]?=Y (G4 g):=get0 0;have f:(Out.nx (ptT n s l o d i r.length),GM F sz T d ro fo jo bo ((r++[G4 g,G4 g]).set r.length (G4 (aG g s l))))=(.nx (ptT n s l o d i r.length),GM F sz T d ro fo jo bo (r++[G4 (aG g s l),G4 g])):=by rw[set0]
 have a:(r++[G4 (aG g s l),G4 g])[r.length+1]?=Y (G4 g):=get0 1;have e:(Out.nx (ptT n s l o d i r.length),GM F sz T d ro fo jo bo ((r++[G4 (aG g s l),G4 g]).set (r.length+1) (G4 (bG g s l))))=(.nx (ptT n s l o d i r.length),GM F sz T d ro fo jo bo (r++[G4 (aG g s l),G4 (bG g s l)])):=by rw[set1]
 constructor
 ·rcases hs with rfl|rfl<;>exact qxb 8 [] 0 _ (λq=>_/\q) [.r (G4 g)] ⟨b,f⟩
 ·rcases hs with rfl|rfl<;>exact qxb 8 [] 0 _ (λq=>_/\q) [.r (G4 g)] ⟨a,e⟩
def ix_lo(S)(g)(hs:s=0\/s=1):idxD S (rD g) (Z s)=Y (Z (lo g s))/\idxD S (rD g) (Z (s+2))=Y (Z (hi g s)):=by rcases hs with rfl|rfl<;>exact⟨rfl,rfl⟩
variable (hg:dget bo (Z c.nm)=Y (Y1 (i+9)))(h:r[i+1]?=Y c.mc){s l:J}(hs:s=0\/s=1)(o:J)
include hg h hs
theorem qg3(m)(hc:cutG c.g s l=B):callD fns (m+1) 71 [Y1 1,ptF c.nm s l o] ?e=Y (sO "nocut",GM F sz T d ro fo jo bo (r++[G4 (aG c.g s l),G4 (bG c.g s l)])):=by
 have h1:?e[i+9]?=Y c.mc:=h;have h2:(GM F sz T d ro fo jo bo (r++[G4 c.g]))[i+9]?=Y c.mc:=ga _ h;have t:(GM F sz T d ro fo jo bo (r++[G4 (aG c.g s l),G4 (bG c.g s l)]))[i+9]?=Y c.mc:=ga _ h;have j:=ixm (i:=1) h1 rfl;have f:=ixm (i:=1) h2 rfl;have a:=ixm (i:=1) t rfl;have ⟨e,b⟩:=pt_ok (F:=F) (sz:=sz) (T:=T) (d:=d) (ro:=ro) (fo:=fo) (jo:=jo) (bo:=bo) (r:=r) (i:=i) m c.nm (l:=l) (o:=o) (g:=c.g) hs;have ⟨k,p⟩:=ix_lo (GM F sz T d ro fo jo bo (r++[G4 (aG c.g s l),G4 (bG c.g s l)])) c.g hs;have n:(([Y (Y1 1),Y (ptF c.nm s l o),Y (Z d),Y (Y1 (i+9)),Y (Y1 (r.length+8)),Y (Y1 ((r++[G4 c.g]).length+8))]:Sl),GM F sz T d ro fo jo bo (r++[G4 c.g]++[G4 c.g]))=?I:=by
  rw[Qqn,Qq7]
  rfl
 rw[qio]at hc
 by_cases c1:lo c.g s<l
 ·by_cases c2:l<=hi c.g s
  ·rw[Z8 ⟨c1,c2⟩]at hc;cases hc
  ·exact qzz 8 [] 1 (λq=>_/\_/\_/\_/\_/\_/\_/\_/\_/\_/\_/\_/\q) [.k,.k,.q ?C,.i (rD c.g),.i (rD c.g),.e ?I,.t (.nx (ptT c.nm s l o d i r.length),GM F sz T d ro fo jo bo (r++[G4 (aG c.g s l),G4 c.g])),.t (.nx (ptT c.nm s l o d i r.length),GM F sz T d ro fo jo bo (r++[G4 (aG c.g s l),G4 (bG c.g s l)])),.i (rD c.g),.n,.i (Z (lo c.g s)),.n,.b O,.i (rD c.g),.n,.i (Z (hi c.g s)),.b Y5] ⟨hg,j,f,n,e,b,a,k,Z5 c1,a,p,Z6 c2,rfl⟩
 ·exact qzz 8 [] 1 (λq=>_/\_/\_/\_/\_/\_/\_/\_/\_/\q) [.k,.k,.q ?C,.i (rD c.g),.i (rD c.g),.e ?I,.t (.nx (ptT c.nm s l o d i r.length),GM F sz T d ro fo jo bo (r++[G4 (aG c.g s l),G4 c.g])),.t (.nx (ptT c.nm s l o d i r.length),GM F sz T d ro fo jo bo (r++[G4 (aG c.g s l),G4 (bG c.g s l)])),.i (rD c.g),.n,.i (Z (lo c.g s)),.n,.b Y5] ⟨hg,j,f,n,e,b,a,k,Z6 c1,rfl⟩
end
noncomputable abbrev pt10:M.S:=.ite (.cmp .IsNot (.idx (.var 3) (.lit (.int 3))) (.lit .non)) [.expr (.meth (.didx ?D (.lit (sO "row"))) .insert [.bin .Add (.meth (.didx ?D (.lit (sO "row"))) .index [.idx (.var 1) (.lit (.int 1))]) (.lit (.int 1)),.var 2])] []
section
variable {F:L D}{sz:D}{T d:J}{ro ro':L J}{fo jo bo:L (D×D)}{r:Y3}{c:Cl}{i k:Y0}
def qlu(m)(h:r[i+1]?=Y ({ c with g:=g }:Cl).mc)(t:ro.length<900)(hr:c.v=B/\ro'=ro\/∃x A R,c.v=Y x/\ro=A++c.nm::R/\c.nm ∉ A/\ro'=A++c.nm::d::R):stepEx (RL (callD fns (m+0))) (ptT c.nm s l o d i k) ?e pt10=Y (.nx (ptT c.nm s l o d i k),GM F sz T d ro' fo jo bo r):=by
 have h1:?e[i+9]?=Y ({ c with g:=g }:Cl).mc:=h;have j:idxD ?e (Y1 (i+9)) (Z 3)=Y (oD c.v):=ixm h1 rfl;rcases hr with⟨hv,rfl⟩|⟨x,A,R,hv,e,p,rfl⟩
 ·exact qxb 8 [] 0 (.nx (ptT c.nm s l o d i k),GM F sz T d ro' fo jo bo r) (λq=>_/\_/\q) [.i (oD c.v),.b Y5] ⟨j,nnN hv,rfl⟩
 ·have b:=qy7 (R:=R) p ?e;rw[<- e]at b;have a:(rowD ro).length=ro.length:=by simp
  have n:ro.length=A.length+(R.length+1):=by rw[e]; simp
  have hok:decide (0<=(A.length:J)+1/\(A.length:J)+1<=(rowD ro).length/\(rowD ro).length<lim)=true:=Z5 ⟨by lia,by rw[a]; lia,by rw[a]; unfold lim; lia⟩;have f:(rowD ro).take ((A.length:J)+1).toNat++Z d::(rowD ro).drop ((A.length:J)+1).toNat=rowD (A++c.nm::d::R):=by
   rw[show((A.length:J)+1).toNat=(rowD A).length+1 by simp,e];have:=qd9 (rowD A) (Z c.nm) (Z d) (rowD R);simpa[rowD] using this
  unfold GM;rw[<- f];exact qxb 8 [] 0 _ (λq=>_/\_/\_/\_/\q) [.i (oD c.v),.b O,.k,.k,.c (Z (A.length:J),GM F sz T d ro fo jo bo r),.b O] ⟨j,nnS hv,b,hok,rfl⟩
noncomputable abbrev ptP(d o:J)(b:Rc)(c:Cl)(k:Y0):Cl:=⟨d,k+2,o,b,c.ds,c.la,c.v,B⟩
def qmt(m)(hg:dget bo (Z c.nm)=Y (Y1 (i+9)))(h:r[i+1]?=Y c.mc)(V:r[i]?=Y c.dl)(hj:c.j=i)(hs:s=0\/s=1)(o)(hc:cutG c.g s l=Y (a,b))(X:ro.length<900)(hb:bo.length<900)(hr:c.v=B/\ro'=ro\/∃x A R,c.v=Y x/\ro=A++c.nm::R/\c.nm ∉ A/\ro'=A++c.nm::d::R):
  callD fns (m+1) 71 [Y1 1,ptF c.nm s l o] ?e=Y (sO "good",GM F sz T d ro' fo jo (dput bo (Z d) (Y1 (r.length+11))) (r.set (i+1) ({ c with g:=a }:Cl).mc++[G4 a,G4 b,c.dl,(ptP d o b c r.length).mc])):=by
 rw[qio]at hc
 split at hc
 case isFalse=>cases hc
 case isTrue f=>
  obtain⟨c1,c2⟩:=f;obtain⟨ha,t⟩:=Prod.mk.inj (Option.some.inj hc);have lt:=(Qqk.mp h).1;have h1:?e[i+9]?=Y c.mc:=h;have h2:(GM F sz T d ro fo jo bo (r++[G4 c.g]))[i+9]?=Y c.mc:=ga _ h;have z:(GM F sz T d ro fo jo bo (r++[G4 (aG c.g s l),G4 (bG c.g s l)]))[i+9]?=Y c.mc:=ga _ h;have N:=ixm (i:=1) h1 rfl;have K:=ixm (i:=1) h2 rfl;have v:=ixm (i:=1) z rfl;have ⟨I,H⟩:=pt_ok (F:=F) (sz:=sz) (T:=T) (d:=d) (ro:=ro) (fo:=fo) (jo:=jo) (bo:=bo) (r:=r) (i:=i) m c.nm (l:=l) (o:=o) (g:=c.g) hs;have ⟨Q,P⟩:=ix_lo (GM F sz T d ro fo jo bo (r++[G4 (aG c.g s l),G4 (bG c.g s l)])) c.g hs;rw[ha,t]at *;have e0:(([Y (Y1 1),Y (ptF c.nm s l o),Y (Z d),Y (Y1 (i+9)),Y (Y1 (r.length+8)),Y (Y1 ((r++[G4 c.g]).length+8))]:Sl),GM F sz T d ro fo jo bo (r++[G4 c.g]++[G4 c.g]))=?I:=by
   rw[Qqn,Qq7]
   rfl
  have U:(r++[G4 a,G4 b])[r.length]?=Y (G4 a):=get0 0;have e8:(ptT c.nm s l o d i r.length,GM F sz T d ro fo jo bo ((r++[G4 a,G4 b]).set (i+1) ({ c with g:=a }:Cl).mc))=(ptT c.nm s l o d i r.length,GM F sz T d ro fo jo bo (r.set (i+1) ({ c with g:=a }:Cl).mc++[G4 a,G4 b])):=by rw[List.set_append_left _ _ lt]
  have y:(r.set (i+1) ({ c with g:=a }:Cl).mc)[i+1]?=Y ({ c with g:=a }:Cl).mc:=Qq5 lt;have n:(r.set (i+1) ({ c with g:=a }:Cl).mc)[i]?=Y c.dl:=by rw[Qqr (by lia)]; exact V
  have w:(r.set (i+1) ({ c with g:=a }:Cl).mc).length=r.length:=Qzs ..;generalize W:r.set (i+1) ({ c with g:=a }:Cl).mc=q at *;have S:(q++[G4 a,G4 b])[r.length+1]?=Y (G4 b):=by rw[<- w]; exact get0 1
  have u:(GM F sz T d ro fo jo bo (q++[G4 a,G4 b]))[i+9]?=Y ({ c with g:=a }:Cl).mc:=ga _ y;have G:idxD (GM F sz T d ro fo jo bo (q++[G4 a,G4 b])) (Y1 (i+9)) (Z 2)=Y (Z c.la):=ixm u rfl;have E:idxD (GM F sz T d ro fo jo bo (q++[G4 a,G4 b])) (Y1 (i+9)) (Z 3)=Y (oD c.v):=ixm u rfl;have C:idxD (GM F sz T d ro fo jo bo (q++[G4 a,G4 b])) (Y1 (i+9)) (Z 5)=Y (Y1 (i+8)):=ixm u (by show Y (D.loc (c.j+8))=_; rw[hj]);have d9:(q++[G4 a,G4 b])[i]?=Y c.dl:=ga _ n;have e:(q++[G4 a,G4 b,c.dl,(ptP d o b c r.length).mc])[i+1]?=Y ({ c with g:=a }:Cl).mc:=ga _ y;have j:=qlu (F:=F) (sz:=sz) (T:=T) (d:=d) (fo:=fo) (jo:=jo) (bo:=dput bo (Z d) (Y1 (r.length+11))) (k:=r.length) (s:=s) (l:=l) (o:=o) m e X hr;have e9:(ptT c.nm s l o d i r.length,GM F sz T d ro fo jo (dput bo (Z d) (Y1 ((q++[G4 a,G4 b]++[c.dl]).length+8))) (q++[G4 a,G4 b]++[c.dl]++[Y6 O [Z o,rD b,Z c.la,oD c.v,.non,Y1 ((q++[G4 a,G4 b]).length+8)]]))=(ptT c.nm s l o d i r.length,GM F sz T d ro fo jo (dput bo (Z d) (Y1 (r.length+11))) (q++[G4 a,G4 b,c.dl,(ptP d o b c r.length).mc])):=by
   rw[Qqn,Qqn,w,Qq7,Qq7]
   rfl
  exact qzz 8 [] 1 (λq=>_/\_/\_/\_/\_/\_/\_/\_/\_/\_/\_/\_/\_/\_/\_/\_/\_/\_/\_/\_/\_/\_/\_/\q) [.k,.k,.q ?C,.i (rD c.g),.i (rD c.g),.e ?I,.t (.nx (ptT c.nm s l o d i r.length),GM F sz T d ro fo jo bo (r++[G4 a,G4 c.g])),.t (.nx (ptT c.nm s l o d i r.length),GM F sz T d ro fo jo bo (r++[G4 a,G4 b])),.i (rD c.g),.n,.i (Z (lo c.g s)),.n,.b O,.i (rD c.g),.n,.i (Z (hi c.g s)),.b O,.r (G4 a),.r c.mc,.e (ptT c.nm s l o d i r.length,GM F sz T d ro fo jo bo (q++[G4 a,G4 b])),.n,.r (G4 b),.i (Z c.la),.i (oD c.v),.i (Y1 (i+8)),.r c.dl,.k,.b O,.e (ptT c.nm s l o d i r.length,GM F sz T d ro fo jo (dput bo (Z d) (Y1 (r.length+11))) (q++[G4 a,G4 b,c.dl,(ptP d o b c r.length).mc])),.t (.nx (ptT c.nm s l o d i r.length),GM F sz T d ro' fo jo (dput bo (Z d) (Y1 (r.length+11))) (q++[G4 a,G4 b,c.dl,(ptP d o b c r.length).mc]))]
   ⟨hg,N,K,e0,I,H,v,Q,Z5 c1,v,P,Z5 c2,U,z,e8,S,G,E,C,d9,Z5 (p:=bo.length<lim) (by unfold lim; lia),e9,j,rfl⟩
end
def Dl(ms ms':L Cl):Prop:=∀c∈ms',∃x,x.ds.length<=c.ds.length/\c.ds.length<=x.ds.length+1/\x∈ms
def Dl.refl:Dl ms ms:=λc hc=>⟨c,Qqv _,Qzl _,hc⟩
theorem Dl.upd(hc:c∈ms)(b:c.ds.length<=c'.ds.length)(a:c'.ds.length<=c.ds.length+1):Dl ms (K27.upd ms c'):=qj9 Dl.refl ⟨c,b,a,hc⟩
section
variable {F:L D}{sz:D}{T d:J}{ro ro':L J}{fo jo:L (D×D)}{r:Y3}{ms zs:L Cl}
def qbf(I:InvM r ms)(hc:c∈ms.map Cl.z):∃x,x∈ms/\x.z=c/\dget (qzq ms) (Z x.nm)=Y (Y1 (x.j+9))/\r[x.j+1]?=Y x.mc/\r[x.j]?=Y x.dl:=by
 obtain⟨x,a,rfl⟩:=Qqj.mp hc;exact⟨x,a,rfl,I.get a,(I.at_ x a).2,(I.at_ x a).1⟩
def mc_pt(m)(a:dget bo (Z c.nm)=Y (Y1 (i+9)))(h:r[i+1]?=Y c.mc)(g:¬ over d c){S:Y3}(b:callD fns (m+2) 71 [Y1 1,ptF c.nm s l o] ?e=Y (sO w,S)):callD fns (m+3) 72 [Y1 1,ptF c.nm s l o] ?e=Y (sO w,S):=by
 have hs:=qkm (F:=F) (sz:=sz) (T:=T) (d:=d) (ro:=ro) (fo:=fo) (jo:=jo) (m+1) a h;have f:=λx:String=>gS (sO x) ?e rfl;rcases qxr g with e|e<;>rw[e]at hs
 ·exact qzz 8 [68,71] 3 (λq=>_/\_/\_/\_/\_/\q) [.k,.q ?C,.k,.q ?C,.c (sO "unvested",GM F sz T d ro fo jo bo r),.g,.c (sO w,S)] ⟨a,a,hs,f "unvested",b,rfl⟩
 ·exact qzz 8 [68,71] 3 (λq=>_/\_/\_/\_/\_/\q) [.k,.q ?C,.k,.q ?C,.c (sO "stands",GM F sz T d ro fo jo bo r),.g,.c (sO w,S)] ⟨a,a,hs,f "stands",b,rfl⟩
def mcl_ok(m)(I:InvM r ms)(hl:ms.length<800)(P:∀c∈ms,c.ds.length<800)(hr:ro.length<900)(hd:∀c∈ms,c.nm≠d)(U:Tr T d (ms.map Cl.z) ro f w zs ro'):
  ∃ms' r',callD fns (m+3) 72 [Y1 1,f] (GM F sz T d ro fo jo (qzq ms) r)=Y (sO w,GM F sz T d ro' fo jo (qzq ms') r')/\ms'.map Cl.z=zs/\InvM r' ms'/\Op d ms ro ms' ro'/\Dl ms ms':=by
 have one:∀{x:Cl}(n:Cl),x∈ms->n.nm=x.nm->n.j=x.j->n.ds=x.ds->n.v=x.v->callD fns (m+3) 72 [Y1 1,f] (GM F sz T d ro fo jo (qzq ms) r)=Y (sO w,GM F sz T d ro fo jo (qzq ms) (r.set (x.j+1) n.mc))->callD fns (m+3) 72 [Y1 1,f] (GM F sz T d ro fo jo (qzq ms) r)=Y (sO w,GM F sz T d ro fo jo (qzq (upd ms n)) (r.set (x.j+1) n.mc))/\InvM (r.set (x.j+1) n.mc) (upd ms n)/\Op d ms ro (upd ms n) ro/\Dl ms (upd ms n):=λ{x n} i G Q E e4 hc=>
  ⟨by rw[hc,qqd i I.nd G Q],I.cell i G Q E,.upd i G e4,.upd i (by rw[E]; exact Qqv _) (by rw[E]; exact Qzl _)⟩
 cases U with
 |no h=>exact⟨ms,r,mc_no (m+2) (qeo λc hc e=>h c.z (Qqj.mpr ⟨c,hc,rfl⟩) e),rfl,I,.same,.refl⟩
 |over hc p=>
  obtain⟨x,i,rfl,k,j,t⟩:=qbf I hc;exact⟨ms,r,qmu (c:=x) (m+1) k j p,rfl,I,.same,.refl⟩
 |give hc p=>
  obtain⟨x,i,rfl,k,j,t⟩:=qbf I hc;obtain⟨N,K,H⟩:=one { x with gv:=Y d } i rfl rfl rfl rfl (qm0 (m+1) k j p);exact⟨_,_,N,qvo ..,K,H⟩
 |sell hc p=>
  obtain⟨x,i,rfl,k,j,t⟩:=qbf I hc;rename_i o;obtain⟨N,K,H⟩:=one { x with o:=o } i rfl rfl rfl rfl (qms (m+1) k j p o);exact⟨_,_,N,qvo ..,K,H⟩
 |work hc p=>
  obtain⟨x,i,rfl,k,j,t⟩:=qbf I hc;have Jq:=I.put (c':={ x with ds:=x.ds++[d],la:=d+T }) i rfl rfl ⟨by simp,by have:=P x i; simp; lia⟩;refine⟨upd ms { x with ds:=x.ds++[d],la:=d+T },_,?_,qvo ..,Jq,.upd i rfl rfl,.upd i (by simp) (by simp)⟩;rw[qqd (c':={ x with ds:=x.ds++[d],la:=d+T }) i I.nd rfl rfl];have:=qmr (F:=F) (sz:=sz) (ro:=ro) (fo:=fo) (jo:=jo) (T:=T) (m+1) k j t rfl (by have:=P x i; lia) p;rw[List.set_comm _ _ (by lia)]at this;rw[show(Cl.dl { x with ds:=x.ds++[d],la:=d+T })=Y6 O (x.ds.map Z++[Z d]) by unfold Cl.dl; simp];exact this
 |nocut hc p hs q=>
  obtain⟨x,i,rfl,k,j,t⟩:=qbf I hc;rename_i s l o;have:=mc_pt m (l:=l) (s:=s) (o:=o) k j p (qg3 (F:=F) (sz:=sz) (T:=T) (d:=d) (ro:=ro) (fo:=fo) (jo:=jo) k j hs o (m+1) q);exact⟨ms,_,this,rfl,I.more _,.same,.refl⟩
 |part hc p hs q C=>
  obtain⟨x,i,rfl,k,j,t⟩:=qbf I hc;rename_i s l o a b;have hp:=mc_pt m (l:=l) (s:=s) (o:=o) k j p (qmt (F:=F) (sz:=sz) (T:=T) (d:=d) (ro:=ro) (ro':=ro') (fo:=fo) (jo:=jo) (m+1) k j t rfl hs o q hr (by unfold qzq; rw[Qqz]; lia) C);have J2:=(I.cell (c':={ x with g:=a }) i rfl rfl rfl).more [G4 a,G4 b];have hn:∀y∈upd ms { x with g:=a },y.nm≠(ptP d o b x r.length).nm:=λy W=>by
   have:y.nm∈(upd ms { x with g:=a }).map (·.nm):=Qqj.mpr ⟨y,W,rfl⟩;rw[qxi]at this;obtain⟨u,X,e⟩:=Qqj.mp this;rw[<- e];exact hd u X
  have V:(r.set (x.j+1) ({ x with g:=a }:Cl).mc++[G4 a,G4 b]).length=r.length+2:=by simp
  have S:=J2.add (ptP d o b x r.length) V.symm hn (I.ne x i);rw[Qq7]at S;refine⟨upd ms { x with g:=a }++[ptP d o b x r.length],_,?_,?_,S,?_,qff (Dl.upd (c:=x) (c':={ x with g:=a }) i (Qqv _) (Qzl _)) ⟨x,Qqv _,Qzl _,i⟩⟩
  ·rw[<- qjx hn,qqd (c':={ x with g:=a }) i I.nd rfl rfl];exact hp
  ·rw[Qqc,qvo]
   rfl
  ·rcases C with⟨e,rfl⟩|⟨v,A,R,e,rfl,_,rfl⟩
   ·exact .part0 (c:=x) i rfl rfl rfl rfl e
   ·exact .part1 (c:=x) i rfl rfl rfl rfl (λz=>nomatch z.symm.trans e) rfl
end
theorem qcn:∀{l},l.Pairwise (· < ·)->sortInt l=l
 |[],_=>rfl
 |x::l,h=>by
  rw[Qze]at h;show insInt x (sortInt l)=_;rw[qcn h.2]
  cases l with
  |nil=>rfl
  |cons y r=>
   show(if x<=y then _ else _)=_;rw[Z8 (Int.le_of_lt (h.1 y (.head _)))]
theorem asI:∀l:L J,asInts (l.map Z)=Y l
 |[]=>rfl
 |x::l=>by show(asInts (l.map Z)).map (x::·)=_; rw[asI l]; rfl
def qjd{ns:L J}(h:st[l]?=Y (.dic O kvs))(hk:keysOf kvs=ns.map Z)(a:ns.Pairwise (· < ·))(d:ns.length<64):bfun st .sorted [Y1 l]=Y (Y1 st.length,st++[Y6 O (ns.map Z)]):=by
 have c:seqAt st (Y1 l)=none:=by show listAt st l=_; unfold listAt; rw[h]
 have b:dkeys st (Y1 l)=Y (ns.map Z):=by
  show(dicAt st l).map keysOf=_;unfold dicAt;rw[h];exact congrArg Y hk
 show((seqAt st (Y1 l)).or (dkeys st (Y1 l))).bind _=_;rw[c,b];show Option.map _ (if 64<=(ns.map D.int).length then B else asInts (ns.map Z))=_;rw[Z7 (by rw[Qqz]; lia),asI];show Y (alloc st (Y6 O ((sortInt ns).map Z)))=_;rw[qcn a]
 rfl
section
variable {F:L D}{sz:D}{T d:J}{ro:L J}{fo jo jo' bo:L (D×D)}{r:Y3}{ms:L Cl}
def mjn_ok(m)(g:jo.length<900)(h:Jn fo jo a b f w jo'):callD fns (m+1) 73 [Y1 1,Y9 [sO "join",Z a,Z b,Z f]] ?e=Y (sO w,GM F sz T d ro fo jo' bo r):=by
 cases h with
 |nv1 h1=>exact qzz 8 [] 1 (λq=>_/\q) [.k,.q B] ⟨h1,rfl⟩
 |nv2 h1 h2=>rename_i x; exact qzz 8 [] 1 (λq=>_/\_/\q) [.k,.q (Y x),.k,.q B] ⟨h1,h2,rfl⟩
 |ord h1 h2 c=>rename_i x y; exact qzz 8 [] 1 (λq=>_/\_/\_/\q) [.k,.q (Y x),.k,.q (Y y),.b O] ⟨h1,h2,Z5 c,rfl⟩
 |joi h1 h2 c e=>rename_i x y z; exact qzz 8 [] 1 (λq=>_/\_/\_/\_/\q) [.k,.q (Y x),.k,.q (Y y),.b Y5,.k,.q (Y z)] ⟨h1,h2,Z6 c,e,rfl⟩
 |good h1 h2 c e=>rename_i x y; exact qzz 8 [] 1 (λq=>_/\_/\_/\_/\_/\q) [.k,.q (Y x),.k,.q (Y y),.b Y5,.k,.q B,.k,.b O] ⟨h1,h2,Z6 c,e,Z5 (p:=jo.length<lim) (by unfold lim; lia),rfl⟩
def qa0(day)(ps)(A R):qzq (A.map (vst day ps)++R)=qzq (A++R):=by
 unfold qzq;rw[Qqc,Qqc,Qqo]
 congr 1
 exact Qzo λc _=>by
  show(D.int (vst day ps c).nm,D.loc ((vst day ps c).j+9))=_;rw[(qzo day ps c).1,(qzo day ps c).2.1]
noncomputable abbrev enT(day:J)(f:D)(a b:Y2 D):Sl:=[Y (.loc 1),Y (.int day),Y f,a,b]
noncomputable abbrev vnF(s:D)(ps:L (J×J)):D:=.tup [sO "vein",s,.tup ?g]
def mva_ok(m)(I:InvM r ms)(v:(ms.map (·.nm)).Pairwise (· < ·))(w:ms.length<64)(hr:ro.length<800)(s)(u:ps.length<lim):∃r' a,stepEx (RL (callD fns (m+2))) (enT d (vnF s ps) B B) (GM F sz T d ro fo jo (qzq ms) r) (.forr (.var 3) (.gc (.bcall .sorted [.didx ?D (.lit (sO "claims"))])) [.expr (.call 69 [.var 0,.var 3,.idx (.var 2) (.lit (Z 2))])])=Y (.nx (enT d (vnF s ps) a B),GM F sz T d (ro++(ms.filter (hit d ps)).map (·.nm)) fo jo (qzq (ms.map (vst d ps))) r')/\InvM r' (ms.map (vst d ps)):=by
 have keys:keysOf (qzq ms)=(ms.map (·.nm)).map Z:=by unfold keysOf qzq; rw[Qqo,Qqo]; rfl
 have hs:=qjd (st:=GM F sz T d ro fo jo (qzq ms) r) (l:=7) rfl keys v (by rw[Qqz]; exact w);have n:(RL (callD fns (m+2))).ev (enT d (vnF s ps) B B) (GM F sz T d ro fo jo (qzq ms) r) (.gc (.bcall .sorted [.didx ?D (.lit (sO "claims"))]))=Y (.lst ((ms.map (·.nm)).map Z),GM F sz T d ro fo jo (qzq ms) r):=
  qzw 8 [] 2 (λq=>_/\_/\q) [.k,.c (Y1 (GM F sz T d ro fo jo (qzq ms) r).length,GM F sz T d ro fo jo (qzq ms) r++[Y6 O ((ms.map (·.nm)).map Z)]),.l ((ms.map (·.nm)).map Z)] ⟨hs,qzb (st:=GM F sz T d ro fo jo (qzq ms) r) (nlI (ms.map (·.nm))),rfl⟩
 obtain⟨b,st',h1,a,r',rfl,rfl,e⟩:=qz4 (st:=GM F sz T d ro fo jo (qzq ms) r) (it:=.gc (.bcall .sorted [.didx ?D (.lit (sO "claims"))])) (ds:=(ms.map (·.nm)).map Z) (t:=.var 3) (body:=[.expr (.call 69 [.var 0,.var 3,.idx (.var 2) (.lit (Z 2))])])
  (λk b st'=>∃a r',b=enT d (vnF s ps) a B/\st'=GM F sz T d (ro++((ms.take k).filter (hit d ps)).map (·.nm)) fo jo (qzq ((ms.take k).map (vst d ps)++ms.drop k)) r'/\InvM r' ((ms.take k).map (vst d ps)++ms.drop k))
  (by show((RL (callD fns (m+2))).ev _ _ _).bind _=_; rw[n]; rfl) (qzn rfl) (λk b st' _=>qqq rfl k) ⟨B,r,rfl,by simp,by simpa using I⟩ (λk b st' x o h=>by
   obtain⟨a,r',rfl,rfl,e⟩:=h;rw[Qqo,Qqw]at o;obtain⟨c,hc,rfl⟩:=Qqd.mp o;obtain⟨hk,f⟩:=Qqk.mp hc;have dr:ms.drop k=c::ms.drop (k+1):=by rw[Qxk hk,f]
   have tk:ms.take (k+1)=ms.take k++[c]:=by rw[Qzw hk,f]
   have hb:qzq ((ms.take (k+1)).map (vst d ps)++ms.drop (k+1))=qzq ((ms.take k).map (vst d ps)++c::ms.drop (k+1)):=by rw[qa0,qa0,Qxe,<- dr,Qxe]
   rw[dr]at e ⊢;have j:c∈(ms.take k).map (vst d ps)++c::ms.drop (k+1):=by simp
   have A:=e.get j;have z:=(e.at_ c j).2;have i:(ro++((ms.take k).filter (hit d ps)).map (·.nm)).length<1000:=by
    have:=Qz2 (hit d ps) (ms.take k);rw[Qqn,Qqz];rw[Qzv]at this
    lia
   have hv:=qiq (F:=F) (sz:=sz) (T:=T) (d:=d) (fo:=fo) (jo:=jo) m A z (q:=.tup ?g) rfl u i;generalize y:(if hit d ps c=O then _ else _:Y3)=p at hv;refine⟨enT d (vnF s ps) (Y (Z c.nm)) B,p,qze 0 [69] 2 (λq=>_/\q) [.c (.non,p)] ⟨hv,rfl⟩,Y (Z c.nm),if hit d ps c then r'.set (c.j+1) (vst d ps c).mc else r',rfl,?_,?_⟩
   ·rw[<- y,hb,tk,Qxc,Qqc]
    cases g:hit d ps c with
    |true=>simp[g]
    |false=>simp[g]
   ·rw[tk,Qqc,Qq7];show InvM _ (List.map (vst d ps) (ms.take k)++vst d ps c::ms.drop (k+1))
    cases g:hit d ps c with
    |true=>
     have:=e.cell j (qzo d ps c).1 (qzo d ps c).2.1 (qzo d ps c).2.2;rwa [qw3 (qzo d ps c).1 e.nd]at this
    |false=>
     have:vst d ps c=c:=by unfold vst; rw[g]; rfl
     rw[this]
     exact e)
 simp only[Qqz,Qzm,Qj8,Qzj]at h1 e;exact⟨r',a,h1,e⟩
end
def qez(d)(A Bq)(c):hit d (A++Bq) c=(hit d A c||hit d Bq c):=by
 unfold hit hasB;rw[List.any_append];cases decide (stW c d = "unvested")<;>rfl
def qj1(d)(A Bq)(c):hit d Bq (vst d A c)=(!hit d A c&&hit d Bq c):=by
 unfold vst
 cases h:hit d A c with
 |false=>rw[Z7 (by simp)]; rfl
 |true=>
  rw[Z8 rfl];have:stW { c with v:=Y d } d ≠ "unvested":=by
   unfold stW;dsimp only
   split
   ·decide
   ·split
    ·decide
    ·rw[Z7 (by simp)]
     decide
  unfold hit;rw[Z6 this]
  rfl
def qk4(d)(A Bq)(c):vst d Bq (vst d A c)=vst d (A++Bq) c:=by
 have h1:=qj1 d A Bq c;have h2:=qez d A Bq c
 show(if hit d Bq (vst d A c) then _ else _)=if hit d (A++Bq) c then _ else _
 rw[h1,h2];unfold vst;cases hit d A c<;>cases hit d Bq c<;>rfl
noncomputable abbrev skF(o:J)(g:Rc):D:=.tup [sO "stake",.int o,.int g.1,.int g.2.1,.int g.2.2.1,.int g.2.2.2]
section
variable {F:L D}{sz:D}{T d:J}{ro:L J}{jo bo:L (D×D)}{r:Y3}{vs:L (J×D×L (J×J))}
def mvs_ok(m)(H:dget bo (Z d)=Y (Y1 (r.length+9)))(hc:c.nm=d)(x)(j:(vs.map (·.1)).Pairwise (· < ·))(s:vs.length<64)(n:∀v∈vs,v.2.2.length<=16)(hr:ro.length<800)(f):∃b,stepEx (RL (callD fns (m+2))) (enT d f B B) (GM F sz T d ro ?i jo bo (r++[x,c.mc])) (.forr (.var 4) (.gc (.bcall .sorted [.didx ?D (.lit (sO "veins"))])) [.expr (.call 69 [.var 0,.var 1,.idx (.didx (.didx ?D (.lit (sO "veins"))) (.var 4)) (.lit (Z 1))])])=Y (.nx (enT d f B b),GM F sz T d (ro++if hit d (vs.flatMap (·.2.2)) c then [d] else []) ?i jo bo (r++[x,(vst d (vs.flatMap (·.2.2)) c).mc])):=by
 have p:(vs.map (·.1)).Nodup:=j.imp λh=>by lia
 have keys:keysOf ?i=(vs.map (·.1)).map Z:=by unfold keysOf voD; rw[Qqo,Qqo]; rfl
 have hs:=qjd (st:=GM F sz T d ro ?i jo bo (r++[x,c.mc])) (l:=5) rfl keys j (by rw[Qqz]; exact s);have w:(RL (callD fns (m+2))).ev (enT d f B B) (GM F sz T d ro ?i jo bo (r++[x,c.mc])) (.gc (.bcall .sorted [.didx ?D (.lit (sO "veins"))]))=Y (.lst ((vs.map (·.1)).map Z),GM F sz T d ro ?i jo bo (r++[x,c.mc])):=
  qzw 8 [] 2 (λq=>_/\_/\q) [.k,.c (Y1 (GM F sz T d ro ?i jo bo (r++[x,c.mc])).length,GM F sz T d ro ?i jo bo (r++[x,c.mc])++[Y6 O ((vs.map (·.1)).map Z)]),.l ((vs.map (·.1)).map Z)] ⟨hs,qzb (st:=GM F sz T d ro ?i jo bo (r++[x,c.mc])) (nlI (vs.map (·.1))),rfl⟩
 obtain⟨a,st',h1,b,rfl,rfl⟩:=qz4 (st:=GM F sz T d ro ?i jo bo (r++[x,c.mc])) (it:=.gc (.bcall .sorted [.didx ?D (.lit (sO "veins"))])) (ds:=(vs.map (·.1)).map Z) (t:=.var 4) (body:=[.expr (.call 69 [.var 0,.var 1,.idx (.didx (.didx ?D (.lit (sO "veins"))) (.var 4)) (.lit (Z 1))])])
  (λk a st'=>∃b,a=enT d f B b/\st'=GM F sz T d (ro++if hit d ((vs.take k).flatMap (·.2.2)) c then [d] else []) ?i jo bo (r++[x,(vst d ((vs.take k).flatMap (·.2.2)) c).mc]))
  (by show((RL (callD fns (m+2))).ev _ _ _).bind _=_; rw[w]; rfl) (qzn rfl) (λk a st' _=>qqq rfl k) ⟨B,rfl,by
   have:hit d [] c=false:=by unfold hit hasB; simp
   have e:vst d [] c=c:=by unfold vst; rw[this]; rfl
   simp[this,e]⟩ (λk a st' y C h=>by
   obtain⟨b,rfl,rfl⟩:=h;rw[Qqo,Qqw]at C;obtain⟨v,hv,rfl⟩:=Qqd.mp C;obtain⟨hk,z⟩:=Qqk.mp hv;have tk:(vs.take (k+1)).flatMap (·.2.2)=(vs.take k).flatMap (·.2.2)++v.2.2:=by rw[Qzw hk,z]; simp
   have E:=Qqe hv;have o:=qjk E p;generalize K:(vs.take k).flatMap (·.2.2)=A at tk ⊢;rw[tk];have g:(vst d A c).nm=d:=(qzo d A c).1.trans hc;have u:=qiq (F:=F) (sz:=sz) (T:=T) (d:=d) (fo:=voD vs) (jo:=jo) (c:=vst d A c) (r:=r++[x,(vst d A c).mc]) (i:=r.length) (ro:=ro++if hit d A c then [d] else []) m (by rw[g]; exact H) (get0 1) (q:=.tup (v.2.2.map cD)) (ps:=v.2.2) rfl (by have:=n v E; unfold lim; lia) (by rw[Qqn]; split<;>simp<;>lia);rw[g,qj1,qk4,set1]at u;generalize I:(if (!hit d A c&&hit d v.2.2 c)=O then _ else _:Y3)=G at u;refine⟨enT d f B (Y (Z v.1)),G,qze 8 [69] 2 (λq=>_/\_/\q) [.k,.q (Y (.tup [v.2.1,.tup (v.2.2.map cD)])),.c (.non,G)] ⟨o,u,rfl⟩,Y (Z v.1),rfl,?_⟩;rw[<- I];rw[qez];cases h1:hit d A c<;>cases h2:hit d v.2.2 c
   ·have:vst d (A++v.2.2) c=vst d A c:=by rw[<- qk4]; show(if hit d v.2.2 (vst d A c) then _ else _)=_; rw[qj1,h1,h2]; rfl
    rw[this]
    rfl
   ·simp
   ·have:vst d (A++v.2.2) c=vst d A c:=by rw[<- qk4]; show(if hit d v.2.2 (vst d A c) then _ else _)=_; rw[qj1,h1,h2]; rfl
    rw[this]
    rfl
   ·have:vst d (A++v.2.2) c=vst d A c:=by rw[<- qk4]; show(if hit d v.2.2 (vst d A c) then _ else _)=_; rw[qj1,h1,h2]; rfl
    rw[this]
    rfl)
 rw[Qqz,Qqz,Qzm]at h1;exact⟨b,h1⟩
end
section
variable {F:L D}{sz:D}{T d day:J}{ro:L J}{fo jo jo' bo:L (D×D)}{r:Y3}{ms:L Cl}{vs:L (J×D×L (J×J))}
def qdm(m)(hf:CF' f){S:Y3}(h:callD fns (m+3) 72 [Y1 1,f] (GM F sz T day ro fo jo bo r)=Y (sO w,S)):callD fns (m+4) 74 [Y1 1,Z day,f] ?e=Y (sO w,S):=by
 cases hf<;>exact qzz 8 [72] 4 (λq=>_/\q) [.k,.c (sO w,S)] ⟨h,rfl⟩
def qg2(m)(c:jo.length<900)(h:Jn fo jo a b f w jo'):callD fns (m+4) 74 [Y1 1,Z day,Y9 [sO "join",Z a,Z b,Z f]] ?e=Y (sO w,GM F sz T day ro fo jo' bo r):=
 qzz 8 [73] 4 (λq=>_/\q) [.k,.c (sO w,GM F sz T day ro fo jo' bo r)] ⟨mjn_ok (F:=F) (sz:=sz) (T:=T) (d:=day) (ro:=ro) (bo:=bo) (r:=r) (m+2) c h,rfl⟩
def qg1(m)(I:InvM r ms)(e:(ms.map (·.nm)).Pairwise (· < ·))(f:ms.length<64)(hr:ro.length<800)(s)(c:ps.length<lim)(hv:∀v∈vs,v.1≠day)(b:vs.length<900):∃r',callD fns (m+4) 74 [Y1 1,Z day,vnF s ps] (GM F sz T d ro ?i jo (qzq ms) r)=Y (sO "good",GM F sz T day (ro++(ms.filter (hit day ps)).map (·.nm)) (voD (vs++[(day,s,ps)])) jo (qzq (ms.map (vst day ps))) r')/\InvM r' (ms.map (vst day ps)):=by
 obtain⟨r',a,h1,h2⟩:=mva_ok (F:=F) (sz:=sz) (T:=T) (d:=day) (ro:=ro) (fo:=voD (vs++[(day,s,ps)])) (jo:=jo) (m+1) I e f hr s c;have hb:decide ((?i).length<lim)=true:=Z5 (by unfold voD lim; rw[Qqz]; lia);refine⟨r',?_,h2⟩;rw[<- qyo hv]at h1 ⊢;exact qzz 8 [] 4 (λq=>_/\_/\q) [.k,.k,.b O,.s (.nx (enT day (vnF s ps) a B),GM F sz T day (ro++(ms.filter (hit day ps)).map (·.nm)) (dput ?i (Z day) (Y9 [s,Y9 ?g])) jo (qzq (ms.map (vst day ps))) r')] ⟨hb,h1,rfl⟩
noncomputable abbrev nwC(day T o:J)(g:Rc)(k:Y0):Cl:=⟨day,k,o,g,[day],day+T,B,B⟩
def qdl(m)(I:InvM r ms)(t:ms.length<64)(hr:ro.length<800)(hd:∀c∈ms,c.nm≠day)(o)(g)(i:(vs.map (·.1)).Pairwise (· < ·))(j:vs.length<64)(f:∀v∈vs,v.2.2.length<=16):∃e r',callD fns (m+4) 74 [Y1 1,Z day,skF o g] (GM F sz T d ro ?i jo (qzq ms) r)=Y (sO "good",GM F sz T day (ro++if hit day (vs.flatMap (·.2.2)) ⟨day,0,o,g,[day],day+T,B,B⟩ then [day] else []) ?i jo (qzq e) r')/\e.map Cl.z=ms.map Cl.z++[vst day (vs.flatMap (·.2.2)) ⟨day,0,o,g,[day],day+T,B,B⟩]/\InvM r' e/\Op day ms ro e (ro++if hit day (vs.flatMap (·.2.2)) ⟨day,0,o,g,[day],day+T,B,B⟩ then [day] else [])/\(∀c∈e,c∈ms\/c.ds.length=1):=by
 have hn:∀x∈ms,x.nm≠(nwC day T o g r.length).nm:=hd;have bk:=qjx hn;have hb:decide ((qzq ms).length<lim)=true:=Z5 (by unfold qzq lim; rw[Qqz]; lia);have nd:((ms++[nwC day T o g r.length]).map (·.nm)).Nodup:=by
  rw[Qqc,Qzf];refine⟨I.nd,by simp,λa p b hb=>?_⟩;obtain⟨x,h,rfl⟩:=Qqj.mp p;cases Qqb.mp hb;exact hd x h
 have hg:=qar (cs:=ms++[nwC day T o g r.length]) (c:=nwC day T o g r.length) (Qq0 _ (Qqb.mpr rfl)) nd;obtain⟨b,h1⟩:=mvs_ok (F:=F) (sz:=sz) (T:=T) (d:=day) (ro:=ro) (jo:=jo) (r:=r) (bo:=qzq (ms++[nwC day T o g r.length])) (m+1) hg (c:=nwC day T o g r.length) rfl (Y6 O [Z day]) i j f hr (skF o g);have vn:=qzo day (vs.flatMap (·.2.2)) (nwC day T o g r.length);have n:=I.add (vst day (vs.flatMap (·.2.2)) (nwC day T o g r.length)) vn.2.1 (λx h=>by rw[vn.1]; exact hd x h) (by rw[vn.2.2]; exact⟨by simp,by simp⟩);have l:qzq (ms++[vst day (vs.flatMap (·.2.2)) (nwC day T o g r.length)])=qzq (ms++[nwC day T o g r.length]):=by
  unfold qzq;rw[Qqc,Qqc,Qxr,Qxr,vn.1,vn.2.1]
 have k:(vst day (vs.flatMap (·.2.2)) (nwC day T o g r.length)).dl=Y6 O [Z day]:=by
  unfold Cl.dl;rw[vn.2.2]
  rfl
 rw[k]at n;refine⟨ms++[vst day (vs.flatMap (·.2.2)) (nwC day T o g r.length)],r++[Y6 O [Z day],(vst day (vs.flatMap (·.2.2)) (nwC day T o g r.length)).mc],?_,?_,n,.stake (c:=nwC day T o g r.length) (vs.flatMap (·.2.2)) rfl rfl,λc hc=>?_⟩
 ·rw[l];have s:(enT day (skF o g) B B,GM F sz T day ro ?i jo (dput (qzq ms) (Z day) (Y1 ((r++[Yb.lst O [Z day]]).length+8))) (r++[Y6 O [Z day]]++[Y6 O [Z o,rD g,Z (day+T),.non,.non,Y1 (r.length+8)]]))=(enT day (skF o g) B B,GM F sz T day ro ?i jo (qzq (ms++[nwC day T o g r.length])) (r++[Y6 O [Z day],(nwC day T o g r.length).mc])):=by
   rw[<- bk,Qqn,Qq7]
   rfl
  exact qzz 8 [] 4 (λq=>_/\_/\_/\q) [.k,.k,.k,.b O,.e (enT day (skF o g) B B,GM F sz T day ro ?i jo (qzq (ms++[nwC day T o g r.length])) (r++[Y6 O [Z day],(nwC day T o g r.length).mc])),.s (.nx (enT day (skF o g) B b),GM F sz T day (ro++if hit day (vs.flatMap (·.2.2)) (nwC day T o g r.length) then [day] else []) ?i jo (qzq (ms++[nwC day T o g r.length])) (r++[Y6 O [Z day],(vst day (vs.flatMap (·.2.2)) (nwC day T o g r.length)).mc]))] ⟨hb,s,h1,rfl⟩
 ·rw[Qqc,Qxr,vst_z]
  rfl
 ·rcases Qqi.mp hc with hc|hc
  ·exact .inl hc
  ·cases Qqb.mp hc;rw[vn.2.2];exact .inr rfl
end
def Tr.nms{T:J}(h:Tr T day b ro f w a ro'):a.map (·.nm)=b.map (·.nm)\/a.map (·.nm)=b.map (·.nm)++[day]:=by
 cases h with
 |no=>exact .inl rfl
 |over=>exact .inl rfl
 |work=>exact .inl qxi
 |give=>exact .inl qxi
 |sell=>exact .inl qxi
 |nocut=>exact .inl rfl
 |part=>exact .inr (by rw[Qqc,qxi]; rfl)
def Tr.chi{T:J}(h:Tr T day i ro f w e ro')(hc:∀c∈i,ChI T c)(j:∀c∈i,c.ds≠[]):∀c∈e,ChI T c:=by
 cases h with
 |no=>exact hc
 |over=>exact hc
 |@work c d g=>
  refine qj9 hc ?_;have h:=hc c d;have:day<=thr T c.ds:=by rw[<- h.2]; have:¬ c.la<day:=λz=>g (.inr z); lia
  have:=qcw (j c d) h.1 this;exact⟨this.1,this.2.symm⟩
 |@give c d g=>exact qj9 hc (hc c d)
 |@sell c o d g=>exact qj9 hc (hc c d)
 |nocut=>exact hc
 |@part c s l o a b _ d g hs h hr=>exact qff (qj9 hc (hc c d)) (hc c d)
def qhn(h:(dget ?i (Z b)).isSome):b∈vs.map (·.1):=by
 obtain⟨x,a⟩:=Qz4.mp h;unfold dget at a;obtain⟨p,c,_⟩:=Qqd.mp a;have e:=Qx6 c;obtain⟨v,hv,rfl⟩:=Qqj.mp (Qxj c);have e:=e;cases beq_iff_eq.mp e;exact Qqj.mpr ⟨v,hv,rfl⟩
def JoI.put(g:JoI vs jo)(h:b<a)(hb:b∈vs.map (·.1)):JoI vs (dput jo (Z a) (Y9 [Z b,Z f])):=λp c=>by
 unfold dput at c
 split at c
 ·obtain⟨q,i,rfl⟩:=Qqj.mp c;obtain⟨d,k,j,rfl,h1,h2⟩:=g q i
  by_cases e:eqT (Z d) (Z a)=O
  ·rw[Z8 e];have e:=e;cases beq_iff_eq.mp e;exact⟨_,b,f,rfl,h,hb⟩
  ·rw[Z7 e];exact⟨d,k,j,rfl,h1,h2⟩
 ·rcases Qqi.mp c with c|c
  ·exact g p c
  ·cases Qqb.mp c;exact⟨a,b,f,rfl,h,hb⟩
def JoI.app(d:JoI vs jo)(v):JoI (vs++[v]) jo:=λp c=>by
 obtain⟨a,b,f,e,h1,h2⟩:=d p c;exact⟨a,b,f,e,h1,by rw[Qqc]; exact Qzz _ h2⟩
structure Pu (W H:J) (k:Y0) (T d:J) (vs:L (J×D×L (J×J))) (jo:L (D×D)) (cs:L Cl) (ro:L J):Prop where
 R:RowI d cs ro
 ch:∀c∈cs,ChI T c
 up:(cs.map (·.nm)).Pairwise (· < ·)
 cl:cs.length<=k
 rl:ro.length<=25*k
 dl:∀c∈cs,c.ds.length<=k
 vl:vs.length<=k
 vn:(vs.map (·.1)).Pairwise (· < ·)
 vd:∀v∈vs,v.1<=d
 V:VsOk vs
 VC:∀v∈vs,v.2.2≠[]/\∀p∈v.2.2,Cin W H p
 jl:jo.length<=k
 jv:JoI vs jo
def qby{l:L J}(h:l.Pairwise (· < ·)):l.Nodup:=h.imp Int.ne_of_lt
def qyz{day:J}(h:l.Pairwise (· < ·))(c:∀x∈l,x<=d)(hd:d<day):(l++[day]).Pairwise (· < ·):=by
 rw[Qzi];refine⟨h,Qjz _ _,λa e b hb=>?_⟩;cases Qqb.mp hb;have:=c a e
 lia
section
variable {W H:J}{k:Y0}{T d day:J}{vs:L (J×D×L (J×J))}{jo:L (D×D)}{cs cs':L Cl}{ro ro':L J}
def Pu.nms(h:Pu W H k T d vs jo cs ro):∀x∈cs.map (·.nm),x<=d:=λx a=>by obtain⟨c,hc,rfl⟩:=Qqj.mp a; exact h.R.le c hc
def Pu.claim(h:Pu W H k T d vs jo cs ro)(hk:k<24)(hd:d<day)(n:∀c∈cs,c.ds≠[])(m:Op day cs ro cs' ro')(j:Tr T day (cs.map Cl.z) ro f w (cs'.map Cl.z) ro')(i:∀c∈cs',∃x,x.ds.length<=c.ds.length/\c.ds.length<=x.ds.length+1/\x∈cs):Pu W H (k+1) T day vs jo cs' ro':=by
 have on:=qaj m;have:=h.cl;have:=h.rl;have a:(cs'.map (·.nm)).Pairwise (· < ·):=by
  have e:∀l:L Cl,(l.map Cl.z).map (·.nm)=l.map (·.nm):=λl=>by rw[Qqo]; rfl
  have:=j.nms;rw[e,e]at this;rcases this with e|e<;>rw[e]
  ·exact h.up
  ·exact qyz h.up h.nms hd
 refine⟨qdw (qby h.up) (qby a) hd h.R m,λc hc=>?_,a,by lia,by lia,λc hc=>?_,by have:=h.vl; lia,h.vn,λv hv=>by have:=h.vd v hv; lia,h.V,h.VC,by have:=h.jl; lia,h.jv⟩
 ·exact j.chi (λx b=>by obtain⟨y,g,rfl⟩:=Qqj.mp b; exact h.ch y g) (λx b=>by obtain⟨y,g,rfl⟩:=Qqj.mp b; exact n y g) c.z (Qqj.mpr ⟨c,hc,rfl⟩)
 ·obtain⟨x,_,h2,b⟩:=i c hc;have:=h.dl x b
  lia
theorem Pu.vein(h:Pu W H k T d vs jo cs ro)(hk:k<24)(hd:d<day){e:L J}(hs:e.length<1000)(f:∀s∈e,0<=s/\s<=4)(j:ps.length<=16)(g:ps≠[])(hc:∀p∈ps,Cin W H p):Pu W H (k+1) T day (vs++[(day,Y9 (e.map Z),ps)]) jo (cs.map (vst day ps)) (ro++(cs.filter (hit day ps)).map (·.nm)):=by
 have i:Op day cs ro (cs.map (vst day ps)) (ro++(cs.filter (hit day ps)).map (·.nm)):=.vein ps;have on:=qaj i;have:=h.cl;have:=h.rl;have a:((cs.map (vst day ps)).map (·.nm)).Pairwise (· < ·):=by
  rw[Qqo,show((λc:Cl=>c.nm)∘vst day ps)=λc=>c.nm from funext λc=>(qzo day ps c).1];exact h.up
 refine⟨qdw (qby h.up) (qby a) hd h.R i,λc hc=>?_,a,by lia,by lia,λc hc=>?_,by have:=h.vl; simp; lia,?_,λv hv=>?_,λv hv=>?_,λv hv=>?_,by have:=h.jl; lia,h.jv.app _⟩
 ·obtain⟨x,b,rfl⟩:=Qqj.mp hc;have:=h.ch x b;unfold vst
  split<;>exact this
 ·obtain⟨x,b,rfl⟩:=Qqj.mp hc;rw[(qzo day ps x).2.2];have:=h.dl x b
  lia
 ·rw[Qqc];exact qyz h.vn (λx b=>by obtain⟨v,hv,rfl⟩:=Qqj.mp b; exact h.vd v hv) hd
 ·rcases Qqi.mp hv with hv|hv
  ·have:=h.vd v hv; lia
  ·cases Qqb.mp hv; exact Int.le_refl _
 ·rcases Qqi.mp hv with hv|hv
  ·exact h.V v hv
  ·cases Qqb.mp hv; exact⟨⟨e,rfl,f,hs⟩,j⟩
 ·rcases Qqi.mp hv with hv|hv
  ·exact h.VC v hv
  ·cases Qqb.mp hv; exact⟨g,hc⟩
def Pu.join(h:Pu W H k T d vs jo cs ro)(hk:k<24)(hd:d<day)(b:a.length<=jo.length+1)(hj:JoI vs a):Pu W H (k+1) T day vs a cs ro:=by
 have:=h.cl;have:=h.rl;exact⟨h.R.later (Int.le_of_lt hd),h.ch,h.up,by lia,by lia,λc hc=>by have:=h.dl c hc; lia,by have:=h.vl; lia,h.vn,λv hv=>by have:=h.vd v hv; lia,h.V,h.VC,by have:=h.jl; lia,hj⟩
def Pu.stake(h:Pu W H k T d vs jo cs ro)(hk:k<24)(hd:d<day)(i:Op day cs ro cs' ro')(j:cs'.map Cl.z=cs.map Cl.z++[vst day ps ⟨day,0,o,g,[day],day+T,B,B⟩])(f:∀c∈cs',c∈cs\/c.ds.length=1):Pu W H (k+1) T day vs jo cs' ro':=by
 have on:=qaj i;have:=h.cl;have:=h.rl;have a:(cs'.map (·.nm)).Pairwise (· < ·):=by
  have e:∀l:L Cl,(l.map Cl.z).map (·.nm)=l.map (·.nm):=λl=>by rw[Qqo]; rfl
  have:=congrArg (List.map (·.nm)) j;rw[Qqc,e,e]at this;rw[this,Qxr,(qzo day ps _).1];exact qyz h.up h.nms hd
 refine⟨qdw (qby h.up) (qby a) hd h.R i,λc hc=>?_,a,by lia,by lia,λc hc=>?_,by have:=h.vl; lia,h.vn,λv hv=>by have:=h.vd v hv; lia,h.V,h.VC,by have:=h.jl; lia,h.jv⟩
 ·have:c.z∈cs.map Cl.z++[vst day ps ⟨day,0,o,g,[day],day+T,B,B⟩]:=by rw[<- j]; exact Qqj.mpr ⟨c,hc,rfl⟩
  rcases Qqi.mp this with z|z
  ·obtain⟨y,b,e⟩:=Qqj.mp z;have b:ChI T y.z:=h.ch y b;rw[e]at b;exact b
  ·have e:=Qqb.mp z;have:ChI T c.z:=by
    rw[e];have:ChI T ⟨day,0,o,g,[day],day+T,B,B⟩:=⟨rfl,(thr1 T day).symm⟩
    unfold vst
    split<;>exact this
   exact this
 ·rcases f c hc with z|z
  ·have:=h.dl c z; lia
  ·lia
end
section
theorem DF.noLoc(h:DF W H P f):M.noLoc f=true:=by
 cases h with
 |vein=>
  rename_i a ps _ _ _ _ _ _ _;show(O&&(M.noLoc (Y9 (a.map Z))&&(M.noLoc (Y9 ?g)&&O)))=O;rw[qdd,qv8,nlI]
  rfl
 |claim h _=>cases h<;>rfl
 |_=>rfl
def pl_nl{pl:L (J×D)}(h:∀p∈pl,DF W H P p.2):noLocs (pl.map pD)=true:=qzg λp a=>by
 show(O&&(M.noLoc p.2&&O))=O;rw[(h p a).noLoc]
 rfl
end
def qlm:rowAt (st++[Y6 O pl]) ?B=Y pl:=by
 show listAt _ _=_;unfold listAt;rw[gl]
section
variable {ns:L J}(hn:ns.length<=63){W H P:J}(w1:1<=W)(w2:W<=24)(h1:1<=H)(h2:H<=24)(p0:0<=P)(p1:P<=12)
include hn w1 w2 h1 h2 p0 p1
theorem ql6(m)(st)(k)(k1:0<=k)(k2:k<1000)(X:1<=many)(V:many<=24):∃pl:L (J×D),callD fns (m+5) 65 [scr ns,Z k,szD W H P,Z many] st=Y (Y1 st.length,st++[Y6 O (pl.map pD)])/\(pl.length:J)=many/\(∀p∈pl,DF W H P p.2/\1<=p.1/\p.1<=360)/\(pl.map (·.1)).Pairwise (· < ·):=by
 obtain⟨a,C,a1,a2⟩:=dr hn (m+3) st k 0 (many:=4) (by decide) (by decide) (by decide);have s:∃h:J,idxD st (.lst [Z 1,Z 3,Z 8,Z 15]) (Z a)=Y (Z h)/\1<=h/\h<=15:=by
  have:a=0\/a=1\/a=2\/a=3:=by lia
  rcases this with rfl|rfl|rfl|rfl
  ·exact⟨1,rfl,by decide,by decide⟩
  ·exact⟨3,rfl,by decide,by decide⟩
  ·exact⟨8,rfl,by decide,by decide⟩
  ·exact⟨15,rfl,by decide,by decide⟩
 obtain⟨h,z,U,T⟩:=s;have g:=qzb (st:=st) (ds:=[Z 1,Z 3,Z 8,Z 15]) rfl;obtain⟨j,st',I,k',d,o,pl,rfl,rfl,y,E,n,w⟩:=qz4 (st:=st++[Y6 O []]) (it:=.rng2 (.bin .Add (.var 1) (.lit (Z 1))) (.bin .Add (.bin .Add (.var 1) (.lit (Z 1))) (.var 3))) (t:=.var 7)
  (body:=[.set (.var 6) (.bin .Add (.bin .Add (.var 6) (.lit (Z 1))) (.call 53 [.var 0,.var 7,.lit (Z 25),.var 4])),.expr (.meth (.var 5) .append [.tup [.var 6,.call 64 [.var 0,.var 7,.var 2,.var 5]]])])
  (λi j st'=>i<=many.toNat/\∃(d:J) (o:Y2 D) (pl:L (J×D)),j=[Y (scr ns),Y (Z k),Y ?c,Y (Z many),Y (Z h),Y ?B,Y (Z d),o]/\st'=st++[Y6 O (pl.map pD)]/\pl.length=i/\(0<=d/\d<=15*i)/\(∀p∈pl,DF W H P p.2/\1<=p.1/\p.1<=d)/\(pl.map (·.1)).Pairwise (· < ·))
  (by
   have N:(RL (callD fns (m+4))).ev [Y (scr ns),Y (Z k),Y ?c,Y (Z many),Y (Z h),Y ?B,Y (Z 0),B] (st++[Y6 O []]) (.bin .Add (.var 1) (.lit (Z 1)))=Y (Z (k+1),st++[Y6 O []]):=qzw 0 [] 4 (λq=>q) [] rfl;have K:(RL (callD fns (m+4))).ev [Y (scr ns),Y (Z k),Y ?c,Y (Z many),Y (Z h),Y ?B,Y (Z 0),B] (st++[Y6 O []]) (.bin .Add (.bin .Add (.var 1) (.lit (Z 1))) (.var 3))=Y (Z (k+1+many),st++[Y6 O []]):=qzw 0 [] 4 (λq=>q) [] rfl;show((RL (callD fns (m+4))).ev _ _ _).bind _=_;rw[N];show((RL (callD fns (m+4))).ev _ _ _).bind _=_;rw[K];show(if (big (k+1)||big (k+1+many))=O then B else Y (Src.rng (k+1) (k+1+many - (k+1)).toNat,_))=_
   rw[Z7 (by unfold big; simp; lia),show k+1+many - (k+1)=many by lia])
  (by simp[Src.size]) (λi j st' _=>qj8 _ _ _) ⟨Qza _,0,B,[],rfl,rfl,rfl,⟨by lia,by lia⟩,by simp,.nil⟩ (λi j st' x F e=>by
   obtain⟨_,d,o,pl,rfl,rfl,y,E,n,w⟩:=e;rw[Qqw]at F;obtain⟨i',l,rfl⟩:=Qqd.mp F;have A:i<many.toNat:=by
    have:=(Qqk.mp l).1;simpa using this
   rw[Qx4 A]at l;cases l;obtain⟨v,hv,S,R⟩:=dr hn (m+3) (st++[Y6 O (pl.map pD)]) (k+1+(i:Y0)) 25 (many:=h) (by decide) (by decide) (by lia);obtain⟨f,hf,Q⟩:=qnm hn w1 w2 h1 h2 p0 p1 m (st++[Y6 O (pl.map pD)]) (k+1+(i:Y0)) (qlm (pl:=pl.map pD)) (λp e=>by have:=n p e; exact⟨this.1,this.2.1,by lia⟩) (by lia);have G:=gl (st:=st) (c:=Y6 O (pl.map pD));have u:(pl.map pD).length<lim:=by rw[Qqz]; unfold lim; lia
   refine⟨_,_,qze 0 [53,64] 4 (λq=>_/\_/\_/\_/\_/\q) [.c (Z v,st++[Y6 O (pl.map pD)]),.r (Y6 O (pl.map pD)),.c (f,st++[Y6 O (pl.map pD)]),.r (Y6 O (pl.map pD)),.b O] (r:=(.nx [Y (scr ns),Y (Z k),Y ?c,Y (Z many),Y (Z h),Y ?B,Y (Z (d+1+v)),Y (Z (k+1+(i:Y0)))],(st++[Yb.lst O (pl.map pD)]).set st.length (Y6 O (pl.map pD++[pD (d+1+v,f)])))) ⟨hv,G,hf,G,Z5 u,rfl⟩,by lia,d+1+v,Y (Z (k+1+(i:Y0))),pl++[(d+1+v,f)],rfl,by rw[sl]; simp,by simp[y],⟨by lia,by lia⟩,λp e=>?_,?_⟩
   ·rcases Qqi.mp e with e|e
    ·have:=n p e;exact⟨this.1,this.2.1,by lia⟩
    ·cases Qqb.mp e;exact⟨Q,by simp only; lia,Int.le_refl _⟩
   ·rw[Qqc,Qzi];refine⟨w,by simp,λa C b hb=>?_⟩;obtain⟨p,e,rfl⟩:=Qqj.mp C;simp only[Qqm,Qxv,Qqb]at hb;have:=n p e
    lia)
 rw[Qqz,Qj3]at y E;refine⟨pl,qzz 0 [53] 5 (λq=>_/\_/\_/\_/\q) [.l [Z 1,Z 3,Z 8,Z 15],.c (Z a,st),.i (Z h),.s (.nx [Y (scr ns),Y (Z k),Y ?c,Y (Z many),Y (Z h),Y ?B,Y (Z d),o],st++[Y6 O (pl.map pD)])] ⟨g,C,z,I,rfl⟩,by lia,λp e=>?_,w⟩;have:=n p e;exact⟨this.1,this.2.1,by lia⟩
end
abbrev P3:=J×J×J
noncomputable def spD(p:P3):D:=.tup [.int p.1,.int p.2.1,.int p.2.2]
def InG(W H P:J)(p:P3):Prop:=0<=p.1/\p.1<W/\0<=p.2.1/\p.2.1<H/\0<=p.2.2/\p.2.2<=P
section
variable {W H P:J}(w1:1<=W)(w2:W<=24)(h1:1<=H)(h2:H<=24)(p0:0<=P)(p1:P<=12)
include w1 w2 h1 h2 p0 p1
theorem qf8(m)(st):∃sp:L P3,callD fns (m+1) 56 [szD W H P] st=Y (Y1 st.length,st++[Y6 O (sp.map spD)])/\1<=sp.length/\sp.length<100000/\∀p∈sp,InG W H P p:=by
 have t:W*H<=24*24:=Int.mul_le_mul w2 h2 (by lia) (by lia);have s:0<W*H:=Int.mul_pos (by lia) (by lia);have r:W*H*(P+1)<=24*24*13:=Int.mul_le_mul t (by lia) (by lia) (by lia);have o:0<W*H*(P+1):=Int.mul_pos s (by lia);generalize k:W*H*(P+1)=N at r o;have c:src ?s [Y ?c,Y (Z H),Y (Z (P+1)),Y (Z N)] st (.rng1 (.var 3))=Y (.rng 0 N.toNat,st):=by
  show((?s).ev _ _ _).bind _=_;rw[qqo (callD fns m) _ st (.var 3) (Z N,st) rfl];show(if big N then B else Y (Src.rng 0 N.toNat,st))=_;rw[Z7 (by unfold big; simp; lia)]
 have hc:=qjj (elt:=.tup [.bin .FloorDiv (.bin .FloorDiv ?D (.var 1)) (.var 2),.bin .Mod (.bin .FloorDiv ?D (.var 1)) (.var 2),.bin .Mod ?D (.var 1)]) (sr:=[B,Y 2,Y 1]) (es:=((List.range N.toNat).map λ(i:Y0)=>(((i:J) / (P+1) / H,(i:J) / (P+1) % H,(i:J) % (P+1)):P3)).map spD) c (qj8 0 N.toNat) (by simp[Src.size]) rfl (by simp) (by simp; unfold lim; lia) λi d e hd f=>by
  rw[Qqw]at hd;rw[Qqo,Qqw]at f;obtain⟨x,h,rfl⟩:=Qqd.mp hd;rw[h]at f;cases f;rw[Int.zero_add];have q:0<P+1:=by lia
  have b:P+1<2 ^ 64:=by lia
  have g:0<H:=by lia
  have n:H<2 ^ 64:=by lia
  exact qzw 0 [] 0 (λq=>_/\_/\_/\_/\_/\q) [.c (Z ((x:J) / (P+1)),st),.c (Z ((x:J) / (P+1) / H),st),.c (Z ((x:J) / (P+1)),st),.c (Z ((x:J) / (P+1) % H),st),.c (Z ((x:J) % (P+1)),st)] ⟨bDi st x q b,bDi st ((x:J) / (P+1)) g n,bDi st x q b,bMo st ((x:J) / (P+1)) g,bMo st x q,rfl⟩
 have l:(([Y ?c,Y (Z H),Y (Z (P+1)),Y (Z (W*H*(P+1)))]:Sl),st)=([Y ?c,Y (Z H),Y (Z (P+1)),Y (Z N)],st):=by rw[k]
 refine⟨(List.range N.toNat).map λ(i:Y0)=>(((i:J) / (P+1) / H,(i:J) / (P+1) % H,(i:J) % (P+1)):P3),qzz 0 [] 1 (λq=>_/\_/\_/\_/\q) [.b O,.b O,.e ([Y ?c,Y (Z H),Y (Z (P+1)),Y (Z N)],st),.c (Y1 st.length,st++[Y6 O (((List.range N.toNat).map λ(i:Y0)=>(((i:J) / (P+1) / H,(i:J) / (P+1) % H,(i:J) % (P+1)):P3)).map spD)])] ⟨qz7 (a:=W) (b:=H) (by lia) (by lia),qz7 (a:=W*H) (b:=P+1) (by lia) (by lia),l,hc,rfl⟩,by simp; lia,by simp; lia,λp j=>?_⟩;obtain⟨i,hi,rfl⟩:=Qqj.mp j;have hi:=Qz6.mp hi;have b1:(i:J)<W*H*(P+1):=by lia
 have b2:(i:J) / (P+1)<W*H:=Int.ediv_lt_of_lt_mul (by lia) b1;have b3:(i:J) / (P+1) / H<W:=Int.ediv_lt_of_lt_mul (by lia) b2;have b4:0<=(i:J) / (P+1):=Int.ediv_nonneg (by lia) (by lia);have b5:=Int.emod_lt_of_pos (i:J) (show 0<P+1 by lia);exact⟨Int.ediv_nonneg b4 (by lia),b3,Int.emod_nonneg _ (by lia),Int.emod_lt_of_pos _ (by lia),Int.emod_nonneg _ (by lia),by show _ % _<=P; lia⟩
end
def tr_all{T:J}(R:RowI t cs ro)(hf:CF' f):∃w zs ro',Tr T day (cs.map Cl.z) ro f w zs ro':=by
 have g:∀{c:Cl},c∈cs->c.z∈cs.map Cl.z:=λh=>Qqj.mpr ⟨_,h,rfl⟩;have no:∀{n w r},(∀c∈cs,c.nm≠n)->∃k zs ro',Tr T day (cs.map Cl.z) ro (Y9 (sO w::Z n::r)) k zs ro':=λh=>⟨_,_,_,.no λc hc=>by obtain⟨x,m,rfl⟩:=Qqj.mp hc; exact h x m⟩
 have j:∀{c:Cl} {w r},c∈cs->over day c->∃k zs ro',Tr T day (cs.map Cl.z) ro (Y9 (sO w::Z c.nm::r)) k zs ro':=λ{c w r} h d=>⟨_,_,_,.over (c:=c.z) (g h) d⟩
 cases hf with
 |work n=>
  rcases qxt cs n with h|⟨c,hc,rfl⟩
  ·exact no h
  ·by_cases d:over day c
   ·exact j hc d
   ·exact⟨_,_,_,.work (c:=c.z) (g hc) d⟩
 |give n=>
  rcases qxt cs n with h|⟨c,hc,rfl⟩
  ·exact no h
  ·by_cases d:over day c
   ·exact j hc d
   ·exact⟨_,_,_,.give (c:=c.z) (g hc) d⟩
 |sell n o _=>
  rcases qxt cs n with h|⟨c,hc,rfl⟩
  ·exact no h
  ·by_cases d:over day c
   ·exact j hc d
   ·exact⟨_,_,_,.sell (c:=c.z) (g hc) d⟩
 |part n s l o hs _=>
  rcases qxt cs n with h|⟨c,hc,rfl⟩
  ·exact no h
  ·by_cases d:over day c
   ·exact j hc d
   ·cases i:cutG c.g s l with
    |none=>exact⟨_,_,_,.nocut (c:=c.z) (g hc) d hs i⟩
    |some q=>
     cases hv:c.v with
     |none=>exact⟨_,_,ro,.part (c:=c.z) (a:=q.1) (b:=q.2) (g hc) d hs i (.inl ⟨hv,rfl⟩)⟩
     |some x=>
      obtain⟨A,u,e,p⟩:=qjl (R.in2 c hc λz=>nomatch z.symm.trans hv);exact⟨_,_,_,.part (c:=c.z) (a:=q.1) (b:=q.2) (g hc) d hs i (.inr ⟨x,A,u,hv,e,p,rfl⟩)⟩
section
variable {F:L D}{W H P T d day:J}{k:Y0}{vs:L (J×D×L (J×J))}{jo:L (D×D)}{ms:L Cl}{ro:L J}{r:Y3}
def mstep(m)(h:Pu W H k T d vs jo ms ro)(I:InvM r ms)(hk:k<24)(hf:DF W H P f)(hd:d<day):∃w j jo' ms' ro' r',callD fns (m+4) 74 [Y1 1,Z day,f] (GM F sz T d ro ?i jo (qzq ms) r)=Y (sO w,GM F sz T day ro' (voD j) jo' (qzq ms') r')/\Pu W H (k+1) T day j jo' ms' ro'/\InvM r' ms':=by
 have:=h.cl;have:=h.rl;have:=h.vl;have:=h.jl;have ne:∀c∈ms,c.nm≠day:=λc hc=>by have:=h.R.le c hc; lia
 cases hf with
 |vein y t hs h1 h2 hn hc=>
  rename_i q ps;obtain⟨r',e,i⟩:=qg1 (F:=F) (sz:=sz) (T:=T) (d:=d) (ro:=ro) (jo:=jo) m I h.up (by lia) (by lia) (Y9 (q.map Z)) (ps:=ps) (day:=day) (vs:=vs) (by unfold lim; lia) (λv hv=>by have:=h.vd v hv; lia) (by lia);exact⟨_,_,_,_,_,r',e,h.vein hk hd (by lia) hs h2 (λz=>by rw[z]at h1; cases h1) hc,i⟩
 |join=>
  rename_i a b f _ _ _ _ _ _;obtain⟨w,jo',_,i,l,hj⟩:=qa1 (T:=0) (d:=0) (fo:=voD vs) (jo:=jo) (cs:=[]) (ro:=[]) (rest:=[]) 0 a b f (by lia);refine⟨w,vs,jo',ms,ro,r,qg2 m (by lia) i,h.join hk hd l ?_,I⟩;rcases hj with rfl|⟨x,u,rfl⟩
  ·exact h.jv
  ·exact h.jv.put x (qhn u)
 |stake=>
  rename_i o g _ _ _ _ _ _ _ _;obtain⟨ms',r',e,s,i,n,ds⟩:=qdl (F:=F) (sz:=sz) (T:=T) (d:=d) (ro:=ro) (jo:=jo) m I (by lia) (by lia) ne o g h.vn (by lia) λv hv=>(h.V v hv).2;exact⟨_,_,_,ms',_,r',e,h.stake hk hd n s ds,i⟩
 |claim hc _=>
  obtain⟨w,zs,ro',p⟩:=tr_all (T:=T) (day:=day) h.R hc;obtain⟨ms',r',e,rfl,i,n,ds⟩:=mcl_ok (F:=F) (sz:=sz) (fo:=voD vs) (jo:=jo) m I (by lia) (λc hc=>by have:=h.dl c hc; lia) (by lia) ne p;exact⟨w,_,_,ms',ro',r',qdm m hc e,h.claim hk hd (λc hc=>(I.ne c hc).1) n p ds,i⟩
def pu0:Pu W H 0 T 0 [] [] [] []:=
 ⟨⟨.nil,Qqt _,Qqt _,.nil,Qqt _⟩,Qqt _,.nil,Qqv _,Qza _,Qqt _,Qqv _,.nil,Qqt _,Qqt _,Qqt _,Qqv _,Qqt _⟩
def qgu(m):callD fns (m+1) 67 [sz,Z T] [Y6 O F]=Y (Y1 1,GM F sz T 0 [] (voD []) [] (qzq []) []):=
 qzz 9 [] 1 (λq=>q) [.k,.k,.k] rfl
noncomputable abbrev pyB:L M.S:=[.ite (.and (.cmp .LtE (.var 5) (.var 3)) (.cmp .NotIn (.idx (.var 6) (.lit (.int 0))) (.tup [.lit (sO "dig"),.lit (sO "pay")]))) [.expr (.call 74 [.var 4,.var 5,.var 6])] []]
noncomputable abbrev pyT(W H P:J)(pl:D)(a b:Y2 D):Sl:=[Y ?c,Y (.int 400),Y pl,Y (.int 400),Y (.loc 1),a,b]
def qc6(m){pl:L (J×D)}(U:pl.length<=24)(z:∀p∈pl,DF W H P p.2/\1<=p.1/\p.1<=400)(hs:(pl.map (·.1)).Pairwise (· < ·)):∃d vs jo ms ro r,callD fns (m+5) 75 [szD W H P,Z 400,.lst (pl.map pD),Z 400] [Y6 O F]=Y (Y1 1,GM F ?c 400 400 ro ?i jo (qzq ms) r)/\Pu W H pl.length 400 d vs jo ms ro:=by
 obtain⟨C,st',e,hk,d,vs,jo,ms,ro,r,a,b,rfl,rfl,S,_⟩:=qea (c:=callD fns (m+4)) (i:=2) (t:=.tup [5,6]) (body:=pyB) (τ:=pyT W H P (.lst (pl.map pD)) B B) (st:=GM F ?c 400 0 [] (voD []) [] (qzq []) []) (q:=.lst (pl.map pD)) (ds:=pl.map pD)
  (λk τ st=>k<=pl.length/\∃d vs jo ms ro r a b,τ=pyT W H P (.lst (pl.map pD)) a b/\st=GM F ?c 400 d ro ?i jo (qzq ms) r/\(Pu W H k 400 d vs jo ms ro/\InvM r ms)/\∀p∈pl.drop k,d<p.1)
  rfl ⟨Qza _,0,[],[],[],[],[],B,B,rfl,rfl,⟨pu0,⟨Qqt _,.nil,Qqt _,.nil⟩⟩,λp o=>by have:=(z p (Qxh o)).2; lia⟩ (λk τ st _=>rfl) (λk τ st x v h=>by
   obtain⟨hk,d,vs,jo,ms,ro,r,a,b,rfl,rfl,⟨S,I⟩,hd⟩:=h;rw[Qqw]at v;obtain⟨p,l,rfl⟩:=Qqd.mp v;obtain⟨n,s⟩:=Qqk.mp l;have dr:pl.drop k=p::pl.drop (k+1):=by rw[Qxk n,s]
   obtain⟨u,R,E⟩:=z p (Qqe l);obtain⟨w,g,jo',j,ro',r',e,N,Q⟩:=mstep (F:=F) (sz:=szD W H P) m S I (by lia) u (hd p (by rw[dr]; exact .head _));have hb:decide (p.1<=400)=true:=Z5 E;refine⟨pyT W H P (.lst (pl.map pD)) (Y (Z p.1)) (Y p.2),GM F ?c 400 p.1 ro' (voD g) jo' (qzq j) r',?_,n,p.1,g,jo',j,ro',r',_,_,rfl,rfl,⟨N,Q⟩,λq G=>?_⟩
   ·obtain⟨y,f⟩:=p
    cases u with
    |vein=>exact qze 8 [74] 4 (λq=>_/\_/\q) [.b O,.c (sO w,GM F ?c 400 y ro' (voD g) jo' (qzq j) r')] ⟨hb,e,rfl⟩
    |join=>exact qze 8 [74] 4 (λq=>_/\_/\q) [.b O,.c (sO w,GM F ?c 400 y ro' (voD g) jo' (qzq j) r')] ⟨hb,e,rfl⟩
    |stake=>exact qze 8 [74] 4 (λq=>_/\_/\q) [.b O,.c (sO w,GM F ?c 400 y ro' (voD g) jo' (qzq j) r')] ⟨hb,e,rfl⟩
    |claim hc _=>cases hc<;>exact qze 8 [74] 4 (λq=>_/\_/\q) [.b O,.c (sO w,GM F ?c 400 y ro' (voD g) jo' (qzq j) r')] ⟨hb,e,rfl⟩
   ·have A:=hs.sublist ((List.drop_sublist k pl).map _);rw[dr,Qqm,Qze]at A
    exact A.1 q.1 (Qqj.mpr ⟨q,G,rfl⟩))
 rw[Qqz]at S;have K:=qgu (F:=F) (T:=400) (sz:=szD W H P) (m+3);exact⟨d,vs,jo,ms,ro,r,qzz 9 [67] 5 (λq=>_/\_/\q) [.c (Y1 1,GM F ?c 400 0 [] (voD []) [] (qzq []) []),.s (.nx (pyT W H P (.lst (pl.map pD)) a b),GM F ?c 400 d ro ?i jo (qzq ms) r),.k] ⟨K,e,rfl⟩,S.1⟩
end
theorem qwz(P:Y0->Sl->Y3->Prop)(Q:Sl->Y3->Prop)(hs:∀k τ st,P k τ st->(f τ st=Y (Y5,st)/\Q τ st)\/(f τ st=Y (O,st)/\∃a st' b,b<k/\g τ st=Y (.nx a,st')/\P b a st')):
  ∀(n k:Y0) (τ:Sl) (st:Y3),k<n->P k τ st->∃a st',loopW f g n τ st=Y (.nx a,st')/\Q a st'
 |0,k,_,_,h,_=>by lia
 |n+1,k,τ,st,h,p=>by
  rw[loopW];rcases hs k τ st p with⟨e,q⟩|⟨e,a,st',b,hk,l,q⟩
  ·rw[e];exact⟨_,_,rfl,q⟩
  ·obtain⟨c,d,j,i⟩:=qwz P Q hs n b a st' (by lia) q;refine⟨c,d,?_,i⟩;rw[e];simp only[oBs,if_true,l];exact j
def ix_lt{vs:L (J×D×L (J×J))}(a:(vs.map (·.1)).Pairwise (· < ·)){k:Y0}(hk:vs[k]?=Y v)(hb:b∈vs.map (·.1))(h:b<v.1):∃i u,i<k/\vs[i]?=Y u/\u.1=b:=by
 obtain⟨u,e,rfl⟩:=Qqj.mp hb;obtain⟨i,hi⟩:=Qje.mp e;refine⟨i,u,?_,hi,rfl⟩;obtain⟨h1,d⟩:=Qqk.mp hk;obtain⟨h2,c⟩:=Qqk.mp hi;rw[Qjx]at a;rcases Qjj i k with z|z|z
 ·exact z
 ·subst z;rw[d]at c;subst c
  lia
 ·have:=Qxg.mp a k i h1 h2 z;rw[d,c]at this
  lia
section
variable {F:L D}{W H P T d:J}{vs:L (J×D×L (J×J))}{jo bo:L (D×D)}{ro:L J}{r:Y3}
noncomputable abbrev atW:E:=.and (.din Y5 (.var 1) (.didx ?D (.lit (sO "joins")))) (.cmp .LtE (.idx (.didx (.didx ?D (.lit (sO "joins"))) (.var 1)) (.lit (.int 1))) (.var 3))
noncomputable abbrev atB:L M.S:=[.set (.var 1) (.idx (.didx (.didx ?D (.lit (sO "joins"))) (.var 1)) (.lit (.int 0))),.ite (.cmp .GtE (.var 2) (.bcall .len [.idx (.didx (.didx ?D (.lit (sO "veins"))) (.var 1)) (.lit (.int 1))])) [.ret (.lit .non)] []]
noncomputable abbrev atT(n fl:J)(a b c:Y2 D):Sl:=[Y (.loc 1),Y (.int n),Y (.int 0),Y (.int fl),a,b,c]
def atw_ok(m)(c:(vs.map (·.1)).Pairwise (· < ·))(y:JoI vs jo)(w:∀v∈vs,v.2.2≠[]){k:Y0}(z:vs.length<1000)(hv:vs[k]?=Y v)(a):∃u∈vs,stepEx ?s (atT v.1 a B B B) (GM F ?c T d ro ?i jo bo r) (.whil atW atB)=Y (.nx (atT u.1 a B B B),GM F ?c T d ro ?i jo bo r):=by
 have l:(vs.map (·.1)).Nodup:=c.imp λh=>by lia
 obtain⟨p,st',e,u,s,rfl,rfl⟩:=qwz (f:=λτ st=>(?s).tst τ st atW) (g:=λτ st=>(?s).ex τ st atB)
  (λk τ st=>∃v,vs[k]?=Y v/\τ=atT v.1 a B B B/\st=GM F ?c T d ro ?i jo bo r) (λτ st=>∃v∈vs,τ=atT v.1 a B B B/\st=GM F ?c T d ro ?i jo bo r) (λk τ st h=>by
   obtain⟨v,hv,rfl,rfl⟩:=h;have n:=Qqe hv
   cases hj:dget jo (Z v.1) with
   |none=>exact .inl ⟨qzv 8 [] 0 (λq=>_/\q) [.k,.q B] ⟨hj,rfl⟩,v,n,rfl,rfl⟩
   |some x=>
    obtain⟨b,f,rfl,h1,h2⟩:=qiw y hj
    by_cases hf:f<=a
    ·obtain⟨i,u,t,o,rfl⟩:=ix_lt c hv h2 h1;have j:=Qqe o;have hg:=qjk j l;have hn:decide (((u.2.2.map cD).length:J)<=0)=false:=Z6 (by have:=Qxl.mpr (w u j); rw[Qqz]; lia);exact .inr ⟨qzv 8 [] 0 (λq=>_/\_/\_/\q) [.k,.q (Y (Y9 [Z u.1,Z f])),.k,.q (Y (Y9 [Z u.1,Z f])),.b O] ⟨hj,hj,Z5 hf,rfl⟩,atT u.1 a B B B,_,i,t,qze 8 [] 0 (λq=>_/\_/\_/\q) [.k,.q (Y (Y9 [Z u.1,Z f])),.k,.q (Y (vD u)),.b Y5] ⟨hj,hg,hn,rfl⟩,u,o,rfl,rfl⟩
    ·exact .inl ⟨qzv 8 [] 0 (λq=>_/\_/\_/\q) [.k,.q (Y (Y9 [Z b,Z f])),.k,.q (Y (Y9 [Z b,Z f])),.b Y5] ⟨hj,hj,Z6 hf,rfl⟩,v,n,rfl,rfl⟩) lim k (atT v.1 a B B B) (GM F ?c T d ro ?i jo bo r) (by have:=(Qqk.mp hv).1; unfold lim; lia) ⟨v,hv,rfl,rfl⟩
 exact⟨u,s,e⟩
noncomputable abbrev atC:E:=.or (.not (.cmp2 .LtE .Lt (.lit (.int 0)) (.var 4) (.idx (.didx ?D (.lit (sO "size"))) (.lit (.int 0))))) (.not (.cmp2 .LtE .Lt (.lit (.int 0)) (.var 5) (.idx (.didx ?D (.lit (sO "size"))) (.lit (.int 1)))))
def atc_ok(m)(n a x y)(z):∃b,(?s).tst (atT n a (Y (Z x)) (Y (Z y)) z) (GM F ?c T d ro fo jo bo r) atC=Y (b,GM F ?c T d ro fo jo bo r)/\(b=Y5->Cin W H (x,y)):=by
 have c5:idxD (GM F ?c T d ro fo jo bo r) ?c (Z 0)=Y (Z W):=rfl;have c6:idxD (GM F ?c T d ro fo jo bo r) ?c (Z 1)=Y (Z H):=rfl
 by_cases c1:0<=x
 ·by_cases c2:x<W
  ·by_cases c3:0<=y
   ·by_cases c4:y<H
    ·exact⟨Y5,qzv 8 [] 0 (λq=>_/\_/\_/\_/\_/\_/\q) [.b O,.k,.i (Z W),.b O,.b O,.k,.i (Z H),.b O] ⟨Z5 c1,c5,Z5 c2,Z5 c3,c6,Z5 c4,rfl⟩,λ_=>⟨c1,c2,c3,c4⟩⟩
    ·exact⟨O,qzv 8 [] 0 (λq=>_/\_/\_/\_/\_/\_/\q) [.b O,.k,.i (Z W),.b O,.b O,.k,.i (Z H),.b Y5] ⟨Z5 c1,c5,Z5 c2,Z5 c3,c6,Z6 c4,rfl⟩,nofun⟩
   ·exact⟨O,qzv 8 [] 0 (λq=>_/\_/\_/\_/\q) [.b O,.k,.i (Z W),.b O,.b Y5] ⟨Z5 c1,c5,Z5 c2,Z6 c3,rfl⟩,nofun⟩
  ·exact⟨O,qzv 8 [] 0 (λq=>_/\_/\_/\q) [.b O,.k,.i (Z W),.b Y5] ⟨Z5 c1,c5,Z6 c2,rfl⟩,nofun⟩
 ·exact⟨O,qzv 8 [] 0 (λq=>_/\q) [.b Y5] ⟨Z6 c1,rfl⟩,nofun⟩
noncomputable abbrev eQ(k:J):E:=.bcall .int [.cmp .Eq (.var 6) (.lit (.int k))]
noncomputable abbrev atF:L M.S:=[.set (.var 4) (.bin .Sub (.bin .Add (.var 4) (eQ 1)) (eQ 2)),.set (.var 5) (.bin .Sub (.bin .Add (.var 5) (eQ 3)) (eQ 4)),.ite atC [.ret (.lit .non)] []]
def at_ok(m)(g:(vs.map (·.1)).Pairwise (· < ·))(U:JoI vs jo)(V:VsOk vs)(I:∀v∈vs,v.2.2≠[]/\∀p∈v.2.2,Cin W H p){k:Y0}(S:vs.length<1000)(hv:vs[k]?=Y v)(a):∃o:Y2 (J×J),callD fns (m+1) 70 [Y1 1,Z v.1,Z 0,Z a] (GM F ?c T d ro ?i jo bo r)=Y (cO o,GM F ?c T d ro ?i jo bo r)/\∀p,o=Y p->Cin W H p:=by
 have y:(vs.map (·.1)).Nodup:=g.imp λh=>by lia
 obtain⟨u,A,K⟩:=atw_ok (F:=F) (W:=W) (H:=H) (P:=P) (T:=T) (d:=d) (bo:=bo) (ro:=ro) (r:=r) m g U (λv hv=>(I v hv).1) S hv a;have hg:=qjk A y;obtain⟨⟨e,es,_,_⟩,_⟩:=V u A;obtain⟨E,n⟩:=I u A;obtain⟨p,ps,i⟩:=Qjt E;have C:=n p (by rw[i]; exact .head _);have c:idxD (GM F ?c T d ro ?i jo bo r) (.tup (u.2.2.map cD)) (Z 0)=Y (.tup [Z p.1,Z p.2]):=by
  rw[i];show atI (cD p::ps.map cD) 0=_;unfold atI ixN;rw[Z8 (by decide),Z8 (by simp)]
  rfl
 rw[es]at hg;have l:(?s).ev (atT u.1 a (Y (Z p.1)) (Y (Z p.2)) B) (GM F ?c T d ro ?i jo bo r) (.sli (.idx (.didx (.didx ?D (.lit (sO "veins"))) (.var 1)) (.lit (Z 0))) B (Y (.var 3)))=Y (.tup (cut (e.map Z) B (Y a)),GM F ?c T d ro ?i jo bo r):=
  qzw 8 [] 0 (λq=>_/\q) [.k,.q (Y (.tup [.tup (e.map Z),.tup (u.2.2.map cD)]))] ⟨hg,rfl⟩
 have j:∀x∈cut (e.map D.int) B (Y a),∃s,x=Z s:=λx c=>by
  unfold cut at c;obtain⟨s,_,rfl⟩:=Qqj.mp (Qxh (Qx3 c));exact⟨s,rfl⟩
 generalize cut (e.map D.int) B (Y a)=ds at l j;have N:∀(o:Out),stepEx ?s (atT u.1 a (Y (Z p.1)) (Y (Z p.2)) B) (GM F ?c T d ro ?i jo bo r) (.forr (.var 6) (.sli (.idx (.didx (.didx ?D (.lit (sO "veins"))) (.var 1)) (.lit (Z 0))) B (Y (.var 3))) atF)=Y (o,GM F ?c T d ro ?i jo bo r)->(match o with|.nx τ=>∃q z,τ=atT u.1 a (Y (Z q.1)) (Y (Z q.2)) z/\Cin W H q|.rt v=>v=.non)->∃o:Y2 (J×J),callD fns (m+1) 70 [Y1 1,Z v.1,Z 0,Z a] (GM F ?c T d ro ?i jo bo r)=Y (cO o,GM F ?c T d ro ?i jo bo r)/\∀p,o=Y p->Cin W H p:=λo f h=>by
  cases o with
  |nx τ=>
   obtain⟨q,z,rfl,G⟩:=h;exact⟨Y q,qzz 8 [] 1 (λq=>_/\_/\_/\_/\q) [.s (.nx (atT u.1 a B B B),GM F ?c T d ro ?i jo bo r),.k,.q (Y (.tup [.tup (e.map Z),.tup (u.2.2.map cD)])),.n,.i (.tup [Z p.1,Z p.2]),.s (.nx (atT u.1 a (Y (Z q.1)) (Y (Z q.2)) z),GM F ?c T d ro ?i jo bo r)] ⟨K,hg,c,f,rfl⟩,λp R=>by cases R; exact G⟩
  |rt w=>
   cases h;exact⟨B,qzz 8 [] 1 (λq=>_/\_/\_/\_/\q) [.s (.nx (atT u.1 a B B B),GM F ?c T d ro ?i jo bo r),.k,.q (Y (.tup [.tup (e.map Z),.tup (u.2.2.map cD)])),.n,.i (.tup [Z p.1,Z p.2]),.s (.rt .non,GM F ?c T d ro ?i jo bo r)] ⟨K,hg,c,f,rfl⟩,nofun⟩
 rcases qie (t:=.var 6) (body:=atF) (it:=.sli (.idx (.didx (.didx ?D (.lit (sO "veins"))) (.var 1)) (.lit (Z 0))) B (Y (.var 3))) (s:=.tup ds) (ds:=ds) (τ:=atT u.1 a (Y (Z p.1)) (Y (Z p.2)) B) (st:=GM F ?c T d ro ?i jo bo r)
  (λ_ τ st=>(∃q z,τ=atT u.1 a (Y (Z q.1)) (Y (Z q.2)) z/\Cin W H q)/\st=GM F ?c T d ro ?i jo bo r) (λv st=>v=.non/\st=GM F ?c T d ro ?i jo bo r)
  (by show((?s).ev _ _ _).bind _=_; rw[l]; rfl) rfl (λ_ _ _ _=>rfl) ⟨⟨p,B,rfl,C⟩,rfl⟩ (λk τ st x c h=>by
   obtain⟨⟨q,z,rfl,G⟩,rfl⟩:=h;obtain⟨s,rfl⟩:=j x (Qqe c);obtain⟨b,hb,hc⟩:=atc_ok (F:=F) (W:=W) (H:=H) (P:=P) (T:=T) (d:=d) (ro:=ro) (jo:=jo) (bo:=bo) (r:=r) (fo:=voD vs) m u.1 a (q.1+(if s==1 then 1 else 0) - (if s==2 then 1 else 0)) (q.2+(if s==3 then 1 else 0) - (if s==4 then 1 else 0)) (Y (Z s));have hi:∀o,(?s).ex (atT u.1 a (Y (Z (q.1+(if s==1 then 1 else 0) - (if s==2 then 1 else 0)))) (Y (Z (q.2+(if s==3 then 1 else 0) - (if s==4 then 1 else 0)))) (Y (Z s))) (GM F ?c T d ro ?i jo bo r) (if b then [.ret (.lit .non)] else [])=Y (o,GM F ?c T d ro ?i jo bo r)->stepEx ?s (atT u.1 a (Y (Z (q.1+(if s==1 then 1 else 0) - (if s==2 then 1 else 0)))) (Y (Z (q.2+(if s==3 then 1 else 0) - (if s==4 then 1 else 0)))) (Y (Z s))) (GM F ?c T d ro ?i jo bo r) (.ite atC [.ret (.lit .non)] [])=Y (o,GM F ?c T d ro ?i jo bo r):=λo h=>by
    show((?s).tst _ _ _).bind _=_;rw[hb,<- h];cases b<;>rfl
   cases b with
   |false=>
    have hi:=hi (.nx (atT u.1 a (Y (Z (q.1+(if s==1 then 1 else 0) - (if s==2 then 1 else 0)))) (Y (Z (q.2+(if s==3 then 1 else 0) - (if s==4 then 1 else 0)))) (Y (Z s)))) (qgx _ _ _ _ _ rfl);exact .inl ⟨_,_,qze 8 [] 0 (λq=>_/\_/\_/\_/\_/\q) [.b (s==1),.b (s==2),.b (s==3),.b (s==4),.t (.nx (atT u.1 a (Y (Z (q.1+(if s==1 then 1 else 0) - (if s==2 then 1 else 0)))) (Y (Z (q.2+(if s==3 then 1 else 0) - (if s==4 then 1 else 0)))) (Y (Z s))),GM F ?c T d ro ?i jo bo r)] (r:=(.nx (atT u.1 a (Y (Z (q.1+(if s==1 then 1 else 0) - (if s==2 then 1 else 0)))) (Y (Z (q.2+(if s==3 then 1 else 0) - (if s==4 then 1 else 0)))) (Y (Z s))),GM F ?c T d ro ?i jo bo r)) ⟨(show(s==1)=(s==1) from rfl),(show(s==2)=(s==2) from rfl),(show(s==3)=(s==3) from rfl),(show(s==4)=(s==4) from rfl),hi,rfl⟩,⟨_,_,rfl,hc rfl⟩,rfl⟩
   |true=>
    have hi:=hi (.rt .non) (qze 8 [] 0 (λq=>q) [] rfl)
    exact .inr ⟨.non,_,qze 8 [] 0 (λq=>_/\_/\_/\_/\_/\q) [.b (s==1),.b (s==2),.b (s==3),.b (s==4),.t (.rt .non,GM F ?c T d ro ?i jo bo r)] (r:=(.rt .non,GM F ?c T d ro ?i jo bo r)) ⟨(show(s==1)=(s==1) from rfl),(show(s==2)=(s==2) from rfl),(show(s==3)=(s==3) from rfl),(show(s==4)=(s==4) from rfl),hi,rfl⟩,rfl,rfl⟩) with⟨Q,st',f,h,rfl⟩|⟨w,st',f,h,rfl⟩
 ·exact N _ f h
 ·exact N _ f h
end
section
variable {ns:L J}(hn:ns.length<=63){W H P:J}(w1:1<=W)(w2:W<=24)(h1:1<=H)(h2:H<=24)(p0:0<=P)(p1:P<=12)
include hn w1 w2 h1 h2 p0 p1
noncomputable abbrev chT(ns:L J)(W H P:J)(pl:D)(sp:L P3)(a b c:Y2 D):Sl:=[Y (scr ns),Y ?c,Y pl,Y (.lst (sp.map spD)),Y (.loc 0),Y (.loc 1),a,b,c]
noncomputable abbrev chB:L M.S:=[.set (.var 7) (.call 53 [.var 0,.lit (.int 30),.lit (.int 24),.bin .Add (.idx (.var 1) (.lit (.int 2))) (.lit (.int 1))]),.set (.var 8) (.call 70 [.var 5,.var 6,.lit (.int 0),.var 7]),.ite (.cmp .IsNot (.var 8) (.lit .non)) [.expr (.meth (.var 4) .append [.bin .Add (.var 8) (.tup [.var 7])])] []]
theorem qw9(m)(st){a:L P3}(f:1<=a.length)(d:a.length<100000)(hs:∀p∈a,InG W H P p)(k):∃(v:J) (p:P3),callD fns (m+1) 53 [scr ns,Z k,Z 20,Z (((a.map spD).length:Y0):J)] st=Y (Z v,st)/\idxD st (Yc (a.map spD)) (Z v)=Y (spD p)/\InG W H P p:=by
 obtain⟨v,e,c,b⟩:=dr hn m st k 20 (many:=(a.length:J)) (by decide) (by decide) (by lia);have hv:v.toNat<a.length:=by lia
 refine⟨v,a[v.toNat],by rw[Qqz]; exact e,?_,hs _ (Qxi hv)⟩;show atI (a.map spD) v=_;unfold atI ixN;rw[Z8 c,Z8 (by rw[Qqz]; exact b),oBs,Qqw,Qqh hv]
 rfl
theorem qeu(m){pl:L (J×D)}(hl:pl.length<=24)(hp:∀p∈pl,DF W H P p.2/\1<=p.1/\p.1<=400)(hs:(pl.map (·.1)).Pairwise (· < ·)):∃(fd:L P3) (ex:Y3),callD fns (m+6) 78 [scr ns,szD W H P,.lst (pl.map pD)] []=Y (Y1 0,Y6 O (fd.map spD)::ex)/\fd.length<=100/\∀p∈fd,InG W H P p:=by
 obtain⟨sp,e1,R,Q,N⟩:=qf8 w1 w2 h1 h2 p0 p1 (m+4) [];have g1:=qzb (st:=[]) (ds:=sp.map spD) (qzg λ_ _=>rfl);obtain⟨a,p,a1,a2,a3⟩:=qw9 hn w1 w2 h1 h2 p0 p1 (m+4) [] R Q N (30+0);obtain⟨b,q,b1,b2,b3⟩:=qw9 hn w1 w2 h1 h2 p0 p1 (m+4) [] R Q N (30+1);obtain⟨c,u,c1,c2,c3⟩:=qw9 hn w1 w2 h1 h2 p0 p1 (m+4) [] R Q N (30+2);obtain⟨d,vs,jo,ms,ro,r,e2,S⟩:=qc6 (F:=[spD p,spD q,spD u]) m hl hp hs;have a6:=S.vl;have keys:keysOf ?i=(vs.map (·.1)).map Z:=by unfold keysOf voD; rw[Qqo,Qqo]; rfl
 have U:=qjd (st:=GM [spD p,spD q,spD u] ?c 400 400 ro ?i jo (qzq ms) r) (l:=5) rfl keys S.vn (by rw[Qqz]; lia);have g2:=qzb (st:=GM [spD p,spD q,spD u] ?c 400 400 ro ?i jo (qzq ms) r) (nlI (vs.map (·.1)));have A:∀x∈cut ((vs.map (·.1)).map D.int) B (Y 3),∃(k:Y0) (v:J×D×L (J×J)),vs[k]?=Y v/\x=Z v.1:=λx f=>by
  unfold cut at f;obtain⟨n,hn,rfl⟩:=Qqj.mp (Qxh (Qx3 f));obtain⟨v,hv,rfl⟩:=Qqj.mp hn;obtain⟨k,hk⟩:=Qje.mp hv;exact⟨k,v,hk,rfl⟩
 have a0:(cut ((vs.map (·.1)).map D.int) B (Y 3)).length<=24:=by
  unfold cut;have:(((vs.map (·.1)).map D.int).drop (cutIx ((vs.map (·.1)).map D.int).length 0 B)).length<=24:=by simp; lia
  rw[Qzv]
  lia
 have V:noLocs (cut ((vs.map (·.1)).map D.int) B (Y 3))=true:=qv7 λx f=>by obtain⟨_,v,_,rfl⟩:=A x f; rfl
 have g3:=qzb (st:=GM [spD p,spD q,spD u] ?c 400 400 ro ?i jo (qzq ms) r) V;have E:(RL (callD fns (m+5))).ev (chT ns W H P (.lst (pl.map pD)) sp B B B) (GM [spD p,spD q,spD u] ?c 400 400 ro ?i jo (qzq ms) r) (.gc (.sli (.gc (.bcall .sorted [.didx (.var 5) (.lit (sO "veins"))])) B (Y (.lit (Z 3)))))=Y (.lst (cut ((vs.map (·.1)).map D.int) B (Y 3)),GM [spD p,spD q,spD u] ?c 400 400 ro ?i jo (qzq ms) r):=
  qzw 8 [] 5 (λq=>_/\_/\_/\q) [.k,.c (Y1 (GM [spD p,spD q,spD u] ?c 400 400 ro ?i jo (qzq ms) r).length,GM [spD p,spD q,spD u] ?c 400 400 ro ?i jo (qzq ms) r++[Y6 O ((vs.map (·.1)).map Z)]),.l ((vs.map (·.1)).map Z),.l (cut ((vs.map (·.1)).map D.int) B (Y 3))] ⟨U,g2,g3,rfl⟩
 generalize cut ((vs.map (·.1)).map D.int) B (Y 3)=ds at E A a0;have C:src (RL (callD fns (m+5))) (chT ns W H P (.lst (pl.map pD)) sp B B B) (GM [spD p,spD q,spD u] ?c 400 400 ro ?i jo (qzq ms) r) (.gc (.sli (.gc (.bcall .sorted [.didx (.var 5) (.lit (sO "veins"))])) B (Y (.lit (Z 3)))))=Y (.lst (.lst ds),GM [spD p,spD q,spD u] ?c 400 400 ro ?i jo (qzq ms) r):=by
  show((RL (callD fns (m+5))).ev _ _ _).bind _=_;rw[E]
  rfl
 obtain⟨a5,st',e3,x,y,z,fd,rfl,rfl,f1,K⟩:=qz4 (c:=callD fns (m+5)) (it:=.gc (.sli (.gc (.bcall .sorted [.didx (.var 5) (.lit (sO "veins"))])) B (Y (.lit (Z 3))))) (t:=.var 6) (body:=chB) (s:=.lst (.lst ds)) (ds:=ds)
  (λk τ st=>∃x y z,∃fd:L P3,τ=chT ns W H P (.lst (pl.map pD)) sp x y z/\st=GM (fd.map spD) ?c 400 400 ro ?i jo (qzq ms) r/\fd.length<=3+k/\∀p∈fd,InG W H P p)
  C (qzn rfl) (λk τ st _=>qqq rfl k) ⟨B,B,B,[p,q,u],rfl,rfl,Qqv _,λx f=>by
   simp only[Qqy,Qzq,or_false]at f;rcases f with rfl|rfl|rfl
   ·exact a3
   ·exact b3
   ·exact c3⟩ (λk τ st w hw h=>by
   obtain⟨x,y,z,fd,rfl,rfl,f1,K⟩:=h;have a7:=(Qqk.mp hw).1;obtain⟨i,v,hv,rfl⟩:=A w (Qqe hw);obtain⟨j,l1,l2,l3⟩:=dr hn (m+4) (GM (fd.map spD) ?c 400 400 ro ?i jo (qzq ms) r) 30 24 (many:=P+1) (by decide) (by decide) (by lia);obtain⟨o,G,a4⟩:=at_ok (F:=fd.map spD) (W:=W) (H:=H) (P:=P) (T:=400) (d:=400) (bo:=qzq ms) (ro:=ro) (r:=r) (m+4) S.vn S.jv S.V S.VC (by lia) hv j
   cases o with
   |none=>exact⟨_,_,qze 8 [53,70] 5 (λq=>_/\_/\q) [.c (Z j,GM (fd.map spD) ?c 400 400 ro ?i jo (qzq ms) r),.c (.non,GM (fd.map spD) ?c 400 400 ro ?i jo (qzq ms) r),.k] (r:=(.nx (chT ns W H P (.lst (pl.map pD)) sp (Y (Z v.1)) (Y (Z j)) (Y .non)),GM (fd.map spD) ?c 400 400 ro ?i jo (qzq ms) r)) ⟨l1,G,rfl⟩,_,_,_,fd,rfl,rfl,by lia,K⟩
   |some g=>
    obtain⟨c1,c2,c3,c4⟩:=a4 g rfl;have hb:decide ((fd.map spD).length<lim)=true:=Z5 (by rw[Qqz]; unfold lim; lia);refine⟨_,_,qze 8 [53,70] 5 (λq=>_/\_/\_/\q) [.c (Z j,GM (fd.map spD) ?c 400 400 ro ?i jo (qzq ms) r),.c (.tup [Z g.1,Z g.2],GM (fd.map spD) ?c 400 400 ro ?i jo (qzq ms) r),.k,.b O] (r:=(.nx (chT ns W H P (.lst (pl.map pD)) sp (Y (Z v.1)) (Y (Z j)) (Y (.tup [Z g.1,Z g.2]))),GM (fd.map spD++[spD (g.1,g.2,j)]) ?c 400 400 ro ?i jo (qzq ms) r)) ⟨l1,G,hb,rfl⟩,_,_,_,fd++[(g.1,g.2,j)],rfl,by rw[Qqc]; rfl,by rw[Qqn]; simp only[Qz1]; lia,λx f=>?_⟩;rcases Qqi.mp f with f|f
    ·exact K x f
    ·cases Qqb.mp f
     exact⟨c1,c2,c3,c4,l2,by show j<=P; lia⟩)
 have X:=qjj (r:=RL (callD fns (m+5))) (τ:=[Y (scr ns),Y ?c,Y (.lst (pl.map pD)),Y (.lst (sp.map spD)),B,B,B,B,B]) (S:=[]) (it:=.rng1 (.lit (Z 3))) (elt:=.idx (.var 2) (.call 53 [.var 1,.bin .Add (.lit (Z 30)) ?D,.lit (Z 20),.bcall .len [.var 2]])) (sr:=[B,Y 0,Y 3]) (s:=.rng 0 3) (es:=[spD p,spD q,spD u]) (by
  show((RL (callD fns (m+5))).ev _ _ _).bind _=_;rw[qqo (callD fns (m+5)) _ [] (.lit (Z 3)) (Z 3,[]) rfl]
  rfl) (qj8 0 3) rfl rfl rfl (by decide) λi w e hd I=>by
  rcases i with _|_|_|i
  ·cases hd; cases I; exact qzw 0 [53] 5 (λq=>_/\_/\q) [.c (Z a,[]),.i (spD p)] ⟨a1,a2,rfl⟩
  ·cases hd; cases I; exact qzw 0 [53] 5 (λq=>_/\_/\q) [.c (Z b,[]),.i (spD q)] ⟨b1,b2,rfl⟩
  ·cases hd; cases I; exact qzw 0 [53] 5 (λq=>_/\_/\q) [.c (Z c,[]),.i (spD u)] ⟨c1,c2,rfl⟩
  ·cases I
 exact⟨fd,(GM (fd.map spD) ?c 400 400 ro ?i jo (qzq ms) r).tail,qzz 9 [56,53,75] 6 (λq=>_/\_/\_/\_/\_/\q) [.c (Y1 0,[Y6 O (sp.map spD)]),.l (sp.map spD),.c (Y1 0,[Y6 O [spD p,spD q,spD u]]),.c (Y1 1,GM [spD p,spD q,spD u] ?c 400 400 ro ?i jo (qzq ms) r),.s (.nx (chT ns W H P (.lst (pl.map pD)) sp x y z),GM (fd.map spD) ?c 400 400 ro ?i jo (qzq ms) r)] ⟨e1,g1,X,e2,e3,rfl⟩,by lia,K⟩
end
noncomputable abbrev Z0(W H P:J):Zt:=⟨szD W H P,[],[]⟩
def qnb{T:J}(b:1<=W)(a:W<=24)(g:1<=H)(f:H<=24)(p0:0<=P)(e:P<=12)(d:1<=T)(c:T<=400)(m):callD fns (m+3) 40 [Y1 0,Z W,Z H,Z P,Z T] [.obj 642 []]=Y (.non,FC (Z0 W H P) T 0 (voD []) [] [] [] []):=
 qzz 9 [] 3 (λq=>_/\_/\_/\_/\_/\_/\_/\_/\q) [.b O,.b O,.b O,.b O,.b O,.b O,.b O,.b O] ⟨Z5 b,Z5 a,Z5 g,Z5 f,Z5 p0,Z5 e,Z5 d,Z5 c,rfl⟩
section
variable {W H P T d day:J}{k:Y0}{vs:L (J×D×L (J×J))}{jo:L (D×D)}{cs:L Cl}{ro:L J}{rest:Y3}
theorem Pu.later(h:Pu W H k T d vs jo cs ro)(hd:d<=day):Pu W H k T day vs jo cs ro:=⟨h.R.later hd,h.ch,h.up,h.cl,h.rl,h.dl,h.vl,h.vn,λv hv=>Int.le_trans (h.vd v hv) hd,h.V,h.VC,h.jl,h.jv⟩
def qmb(m)(b:1<=day)(a:day<=400)(hd:d<=day):callD fns (m+3) 46 [Y1 0,Z day] ?l=Y (.non,FC sz T day fo jo cs ro rest):=
 qzz 8 [39] 3 (λq=>_/\_/\q) [.c (.non,FC sz T d fo jo cs ro rest),.b Y5] ⟨qim m ?l day b a,Z6 (show ¬ day<d by lia),rfl⟩
def qha(m)(h:Pu W H k T d vs jo cs ro)(I:Inv rest cs)(hk:k<24)(hf:DF W H P f)(r:1<=day)(q:day<=400)(hd:d<day):∃w j jo' cs' ro' i,callD fns (m+7) 41 [Y1 0,Z day,f] (FC (Z0 W H P) T d ?i jo cs ro rest)=Y (sO w,FC (Z0 W H P) T day (voD j) jo' cs' ro' i)/\Pu W H (k+1) T day j jo' cs' ro'/\Inv i cs':=by
 have:=h.cl;have:=h.rl;have:=h.vl;have:=h.jl;have hs:=hf.sound m (FC (Z0 W H P) T d ?i jo cs ro rest);have ne:∀c∈cs,c.nm≠day:=λc hc=>by have:=h.R.le c hc; lia
 cases hf with
 |vein F E t p u hn hc=>
  rename_i y ps;obtain⟨e,n⟩:=qhi (T:=T) (d:=day) (jo:=jo) (ro:=ro) m I (Y9 (y.map Z)) ps vs (λv hv=>by have:=h.vd v hv; lia) (by lia) (by lia) (by lia);exact⟨_,_,_,_,_,_,qjq m r q hd hs (e _),h.vein hk hd (by lia) t u (λz=>by rw[z]at p; cases p) hc,n⟩
 |join=>
  rename_i a b f _ _ _ _ _ _;obtain⟨w,jo',e,_,l,hj⟩:=qa1 (T:=T) (d:=day) (fo:=voD vs) (jo:=jo) (cs:=cs) (ro:=ro) (rest:=rest) (m+4) a b f (by lia);refine⟨w,vs,jo',cs,ro,rest,qjq m r q hd hs (e _),h.join hk hd l ?_,I⟩;rcases hj with rfl|⟨p,u,rfl⟩
  ·exact h.jv
  ·exact h.jv.put p (qhn u)
 |stake=>
  rename_i o g _ _ _ _ _ _ _ _;obtain⟨cs',ro',i,e,n,s,ds,A,rfl⟩:=qfc (T:=T) (d:=day) (jo:=jo) (ro:=ro) m I o g vs (h.vn.imp Int.ne_of_lt) (by lia) (λv hv=>(h.V v hv).2) (by lia) ne;exact⟨_,_,_,cs',_,i,qjq m r q hd hs (e _),h.stake hk hd s A ds,n⟩
 |claim hc C=>
  obtain⟨w,cs',ro',i,e,n,s,ds,x⟩:=qe0 (T:=T) (d:=day) (fo:=voD vs) (jo:=jo) (m+1) I d day hd (by lia) (λc hc=>by have:=h.dl c hc; lia) h.R h.ch hc;exact⟨w,_,_,cs',ro',i,qjq m r q hd hs (qfe (m+1) hc (e _)),h.claim hk hd (λc hc=>(I.ne c hc).1) s x ds,n⟩
end
noncomputable def wayP(w:String)(p:J×String):Bool:=decide (p.2=w)
noncomputable def nmW(w:String)(row:L (J×String)):L Int:=(row.filter (wayP w)).map (·.1)
def DG(w:String):Prop:=w = "dip"\/w = "ground"
noncomputable def gWy(w:String):D->Y2 D
 |.tup [.int n,x]=>if eqT x (sO w) then Y (.int n) else B
 |_=>B
def qhm(hv:DG v)(a:DG w):eqT (sO v) (sO w)=wayP w (n,v):=by
 rcases hv with rfl|rfl<;>rcases a with rfl|rfl<;>kernel_rfl
theorem qif(a:DG w):∀{row},(∀p∈row,DG p.2)->(row.map hiD).filterMap (gWy w)=rowD (nmW w row)
 |[],_=>rfl
 |p::r,h=>by
  have e:gWy w (hiD p)=if wayP w p then Y (Z p.1) else none:=by
   show(if eqT (sO p.2) (sO w) then Y (D.int p.1) else B)=_;rw[qhm (n:=p.1) (h p (.head _)) a]
  rw[Qqm,Qzk,e,qif a λq b=>h q (.tail _ b)];unfold nmW;rw[Qxa];cases wayP w p<;>rfl
def qi0(m)(S)(hrow:∀p∈row,DG p.2)(g:DG w)(o:row.length<1000)(i:τ[1]?=Y (Y (.lst (row.map hiD))))(f:inner [B,B,Y 3] τ=[B,B,Y (sO w)]):stepEv ?s τ S (.comp (.tup [0,1]) (.var 1) (Y (.cmp .Eq (.var 1) (.var 2))) ?D [B,B,Y 3])=Y (Y1 S.length,S++[Y6 O (rowD (nmW w row))]):=by
 obtain⟨s,l,k,j⟩:=qvz (c:=callD fns m) (st:=S) i rfl
 have h:=qqj (c:=callD fns m) (τ:=τ) (st:=S) (t:=.tup [0,1]) (it:=.var 1) (test:=Y (.cmp .Eq (.var 1) (.var 2))) (elt:=.var 0) (sr:=[B,B,Y 3]) (s:=s) (ds:=row.map hiD) (gWy w) (λτ=>∃a b,τ=[a,b,Y (sO w)]) l k j (by simp; unfold lim; lia) ⟨B,B,f⟩ (λτ d hd e=>by
  obtain⟨a,b,rfl⟩:=e;obtain⟨p,n,rfl⟩:=Qqj.mp hd
  exact⟨[Y (Z p.1),Y (sO p.2),Y (sO w)],turn_if rfl (qzv 0 [] 0 (λq=>q) [] (r:=(eqT (sO p.2) (sO w),S)) rfl) λ_=>qqo _ _ _ _ _ rfl,_,_,rfl⟩)
 rw[qif g hrow]at h;exact h
theorem qig:∀l:L J,flats 9 (rowD l)=O
 |[]=>rfl
 |a::r=>by show(flat 9 (Z a)&&flats 9 (rowD r))=O; rw[qig r]; rfl
theorem any_r(n):∀l:L J,((rowD l).any λy=>eqT y (Z n))=decide (n∈l)
 |[]=>rfl
 |a::r=>by
  show(eqT (Z a) (Z n)||(rowD r).any λy=>eqT y (Z n))=_;rw[any_r n r,eqI]
  by_cases h:a=n
  ·subst h; simp
  ·have h':¬ n=a:=λz=>h z.symm;simp[h,h']
def in_row(S)(n)(l):cmpD S .In (Z n) (Yc (rowD l))=Y (decide (n∈l)):=by
 show(if flat 9 (Z n)&&flats 9 (rowD l) then Y ((rowD l).any λy=>eqT y (Z n)) else B)=_;rw[qig,any_r]
 rfl
def inn_ok(m)(S){names:L J}(k:names.length<1000)(d:τ[2]?=Y (Y (Yc (rowD names))))(a:inner [B,Y 4] τ=[B,Y (Yc (rowD l))]):stepEv ?s τ S (.comp ?D (Yd 2) (Y (.cmp .In (Yd 0) (Yd 1))) (Yd 0) [B,Y 4])=Y (Y1 S.length,S++[Y6 O (rowD (names.filter λn=>decide (n∈l)))]):=by
 obtain⟨s,j,g,f⟩:=qvz (c:=callD fns m) (st:=S) d rfl;have h:=qj6 (elt:=Yd 0) (c:=.cmp .In (Yd 0) (Yd 1)) (sr:=[B,Y 4]) (p:=λx=>match x with|Z n=>decide (n∈l)|_=>Y5) id j g f a (by simp; unfold lim; lia)
  (λi x b=>by
   rw[Qqw]at b;obtain⟨n,_,rfl⟩:=Qqd.mp b
   exact qzv 0 [] 0 (λq=>_/\q) [.b (decide (n∈l))] ⟨in_row S n l,rfl⟩) (λi x _ _=>qqo _ _ _ _ _ rfl)
 have e:((rowD names).filter λx=>match x with|Z n=>decide (n∈l)|_=>Y5).map id=rowD (names.filter λn=>decide (n∈l)):=by
  rw[Qkw];unfold rowD;rw[Qx7]
  rfl
 rw[e]at h;exact h
def eq_self(S)(h:ds.all isI=O):eqL S (Yc ds) (Yc ds)=Y true:=by
 show(if ds.all isI&&ds.all isI then Y (eqTs ds ds) else B)=_;rw[h,MS.eqTs_refl h]
 rfl
def isI_r(l):(rowD l).all isI=true:=Qzx.mpr λx a=>by obtain⟨n,_,rfl⟩:=Qqj.mp a; rfl
noncomputable abbrev wyD(row:L (J×String)):L D:=row.map λp=>sO p.2
def isI_w(row):(wyD row).all isI=true:=Qzx.mpr λx a=>by obtain⟨n,_,rfl⟩:=Qqj.mp a; rfl
noncomputable abbrev dS:Y4:=Str.ofString "dip"
noncomputable abbrev gS':Y4:=Str.ofString "ground"
theorem up_g:∀b,upS (List.replicate b gS')=O
 |0=>rfl
 |1=>rfl
 |b+2=>by
  show(!PySem.Spec.ltCps gS'.cps.toList gS'.cps.toList&&upS (List.replicate (b+1) gS'))=O;rw[up_g (b+1),show PySem.Spec.ltCps gS'.cps.toList gS'.cps.toList=Y5 by decide +kernel]
  rfl
theorem up_dg(b):∀a,upS (List.replicate a dS++List.replicate b gS')=O
 |0=>by rw[List.replicate_zero,Qjg]; exact up_g b
 |1=>by
  cases b with
  |zero=>rfl
  |succ b=>
   show(!PySem.Spec.ltCps gS'.cps.toList dS.cps.toList&&upS (List.replicate (b+1) gS'))=O;rw[up_g (b+1),show PySem.Spec.ltCps gS'.cps.toList dS.cps.toList=Y5 by decide +kernel]
   rfl
 |a+2=>by
  show(!PySem.Spec.ltCps dS.cps.toList dS.cps.toList&&upS (List.replicate (a+1) dS++List.replicate b gS'))=O;rw[up_dg b (a+1),show PySem.Spec.ltCps dS.cps.toList dS.cps.toList=Y5 by decide +kernel]
  rfl
theorem asS:∀l:L Y4,asStrs (l.map .str)=Y l
 |[]=>rfl
 |x::l=>by show(asStrs (l.map .str)).map (x::·)=_; rw[asS l]; rfl
def srt_ok(S)(h:upS b=O)(c:b.length<64):bfun S .sorted [Yc (b.map .str)]=Y (Y1 S.length,S++[Y6 O (b.map .str)]):=by
 cases b with
 |nil=>rfl
 |cons a r=>
  show(if 64<=(r.map D.str).length+1 then B else(asStrs ((a::r).map .str)).bind λb=>if upS b then Y (alloc S (Y6 O ((a::r).map .str))) else B)=_;rw[asS,Z7 (by rw[Qqz]; simp only[Qqg]at c; lia)];show(if upS (a::r) then Y (alloc S (Y6 O ((a::r).map .str))) else B)=_;rw[Z8 h]
  rfl
noncomputable abbrev pA(ps:L (J×J))(c:Cl):Bool:=hasB c.g ps
noncomputable abbrev pG(ps:L (J×J))(q:J×J)(c:Cl):Bool:=!hasB c.g ps&&inB c.g q
theorem qkl(ps):∀a:L Cl,rkA ps a=(a.filter (pA ps)).map λc=>(c.nm,"dip")
 |[]=>rfl
 |c::r=>by
  have:=qkl ps r;unfold rkA at this ⊢;rw[Qzk,Qxa,this];unfold pA;cases hasB c.g ps<;>rfl
theorem qki(ps)(q):∀a:L Cl,rkG ps q a=(a.filter (pG ps q)).map λc=>(c.nm,"ground")
 |[]=>rfl
 |c::r=>by
  have:=qki ps q r;unfold rkG at this ⊢;rw[Qzk,Qxa,this];unfold pG;cases hasB c.g ps<;>cases inB c.g q<;>rfl
noncomputable def hrow(ps:L (J×J))(q:J×J)(gs:L Cl):L (J×String):=rkA ps gs++rkG ps q gs
def fil_nm{gs:L Cl}(nd:(gs.map (·.nm)).Nodup)(p:Cl->Ya):(gs.map (·.nm)).filter (λn=>decide (n∈(gs.filter p).map (·.nm)))=(gs.filter p).map (·.nm):=by
 rw[Qx7]
 congr 1
 refine List.filter_congr λc hc=>?_;show decide (c.nm∈(gs.filter p).map (·.nm))=p c
 cases a:p c with
 |true=>exact Z5 (Qqj.mpr ⟨c,Qzr.mpr ⟨hc,a⟩,rfl⟩)
 |false=>
  refine Z6 λh=>?_;obtain⟨x,b,e⟩:=Qqj.mp h;obtain⟨h1,h2⟩:=Qzr.mp b;rw[qde nd h1 hc e,a]at h2;cases h2
def qye:∀p∈hrow ps q gs,DG p.2:=λp a=>by
 unfold hrow at a;rw[qkl,qki]at a;rcases Qqi.mp a with a|a
 ·obtain⟨c,_,rfl⟩:=Qqj.mp a; exact .inl rfl
 ·obtain⟨c,_,rfl⟩:=Qqj.mp a; exact .inr rfl
def qne(nd:(gs.map (·.nm)).Nodup)(i:DG w):(gs.map (·.nm)).filter (λn=>decide (n∈nmW w (hrow ps q gs)))=nmW w (hrow ps q gs):=by
 have a:∃p,nmW w (hrow ps q gs)=(gs.filter p).map (·.nm):=by
  unfold nmW hrow;rw[qkl,qki,Qxc,Qx7,Qx7];have f:∀l:L Cl,l.filter (λ_=>O)=l:=λl=>List.filter_eq_self.mpr λ_ _=>rfl;have g:∀l:L Cl,l.filter (λ_=>Y5)=[]:=λl=>List.filter_eq_nil_iff.mpr λ_ _=>Qqu;have b:∀v:String,(wayP v∘λc:Cl=>(c.nm,v))=λ_=>true:=λv=>funext λc=>Z5 rfl;have d:∀v w:String,w≠v->(wayP v∘λc:Cl=>(c.nm,w))=λ_=>false:=λv w h=>funext λc=>Z6 h;rcases i with rfl|rfl
  ·exact⟨pA ps,by rw[b,d _ _ (by decide),f,g,Qxv,Qzj,Qqo]; rfl⟩
  ·exact⟨pG ps q,by rw[b,d _ _ (by decide),f,g,Qxv,Qjg,Qqo]; rfl⟩
 obtain⟨p,e⟩:=a;rw[e];exact fil_nm nd p
def qnd:upS ((hrow ps q gs).map λp=>Str.ofString p.2)=true:=by
 have e:(hrow ps q gs).map (λp=>Str.ofString p.2)=List.replicate (gs.filter (pA ps)).length dS++List.replicate (gs.filter (pG ps q)).length gS':=by
  unfold hrow;rw[qkl,qki,Qqc,Qqo,Qqo]
  congr 1
  ·exact List.map_const' (b:=dS) ..
  ·exact List.map_const' (b:=gS') ..
 rw[e];exact up_dg _ _
theorem qij:∀{l r:L J},l.Nodup->(∀x∈l,x∈r)->l.length<=r.length
 |[],_,_,_=>Qza _
 |a::l,r,nd,h=>by
  rw[Qq8]at nd;have c:=h a (.head _);have:=qij (r:=r.erase a) nd.2 λx b=>(List.mem_erase_of_ne (λe:x=a=>nd.1 (e▸b))).mpr (h x (.tail _ b));rw[List.length_erase_of_mem c]at this;have:=List.length_pos_of_mem c;rw[Qqg]
  lia
section
variable {p:Pl}{sz:D}{d:J}{fo jo:L (D×D)}{ro:L J}{S:Y3}{cs:L Cl}
noncomputable abbrev soB:L M.S:=[.set (.var 4) (.gc (.comp (.tup [0,1]) (.var 1) (Y (.cmp .Eq (.var 1) (.var 2))) ?D [B,B,Y 3])),.ite (.cmp .NotEq (.var 4) (.gc (.comp ?D (.var 2) (Y (.cmp .In ?D (.var 1))) ?D [B,Y 4]))) [.ret (.lit (.bl Y5))] []]
def qit(m)(A:FA p sz d fo jo cs ro S)(nd:(cs.map (·.nm)).Nodup)(a:∀n∈ro,∃c∈cs,c.nm=n)(b:ro.length<1000):callD fns (m+3) 52 [Y1 p.a] S=Y (Y1 S.length,S++[Y6 O (rowD ((?J).map (·.nm)))])/\gcD S (Y1 S.length,S++[Y6 O (rowD ((?J).map (·.nm)))])=(Yc (rowD ((?J).map (·.nm))),S):=by
 have h:=qy1 m A nd a b;rw[<- qkf a]at h;exact⟨h,qzb (st:=S) (nlI _)⟩
def qcm(m)(A:FA p sz d fo jo cs ro S)(nd:(cs.map (·.nm)).Nodup)(i:∀n∈ro,∃c∈cs,c.nm=n)(v:ro.Nodup)(K:ro.length<1000)(hc:cs.length<=24)(ps)(q):callD fns (m+4) 76 [Y1 p.a,.lst ((hrow ps q ?J).map hiD)] S=Y (.bl O,S):=by
 obtain⟨Q,P⟩:=qit m A nd i K;have G:((?J).map (·.nm)).Nodup:=by rw[qkf i]; exact Qx5.nodup v
 have gl:((?J).map (·.nm)).length<=(cs.map (·.nm)).length:=qij G λx o=>by obtain⟨c,h,rfl⟩:=Qqj.mp o; exact Qqj.mpr ⟨c,qw7 h,rfl⟩
 rw[Qqz,Qqz]at gl;generalize stC cs ro d=f at *;have hd:∀x∈hrow ps q f,DG x.2:=qye;have hn:∀{w},DG w->_:=λ{w} h=>qne (ps:=ps) (q:=q) G (w:=w) h;have r:upS ((hrow ps q f).map λp=>Str.ofString p.2)=true:=qnd;have rl:(hrow ps q f).length<64:=by
  unfold hrow;rw[qkl,qki,Qqn,Qqz,Qqz];have:=Qz2 (pA ps) f;have:=Qz2 (pG ps q) f
  lia
 generalize hrow ps q f=row at *;have z:(f.map (·.nm)).length<1000:=by rw[Qqz]; lia
 generalize f.map (·.nm)=names at *;have C:(RL (callD fns (m+3))).ev [Y (Y1 p.a),Y (.lst (row.map hiD)),Y (.lst (rowD names)),B,B,B] S (.gc (.lst [.lit (sO "dip"),.lit (sO "ground")]))=Y (.lst [sO "dip",sO "ground"],S):=
  qzw 0 [] 3 (λq=>_/\q) [.l [sO "dip",sO "ground"]] ⟨qzb (st:=S) (ds:=[sO "dip",sO "ground"]) rfl,rfl⟩
 obtain⟨I,st',e,F,E,rfl,rfl⟩:=qz4 (c:=callD fns (m+3)) (it:=.gc (.lst [.lit (sO "dip"),.lit (sO "ground")])) (t:=.var 3) (body:=soB) (s:=.lst (.lst [sO "dip",sO "ground"])) (ds:=[sO "dip",sO "ground"]) (st:=S)
  (λ_ τ st=>∃a b,τ=[Y (Y1 p.a),Y (.lst (row.map hiD)),Y (.lst (rowD names)),a,b,B]/\st=S)
  (by show((RL (callD fns (m+3))).ev _ _ _).bind _=_; rw[C]; rfl) (qzn rfl) (λk τ st _=>qqq rfl k) ⟨B,B,rfl,rfl⟩ (λk τ st x o h=>by
   obtain⟨a,b,rfl,rfl⟩:=h;obtain⟨w,hw,rfl⟩:∃w,DG w/\x=sO w:=by
    have:=Qqe o;simp only[Qqy,Qzq,or_false]at this;rcases this with rfl|rfl
    ·exact⟨_,.inl rfl,rfl⟩
    ·exact⟨_,.inr rfl,rfl⟩
   have c1:=qi0 (m+3) st (τ:=[Y (Y1 p.a),Y (.lst (row.map hiD)),Y (.lst (rowD names)),Y (sO w),b,B]) hd hw (by lia) rfl rfl;have c2:=inn_ok (m+3) st (τ:=[Y (Y1 p.a),Y (.lst (row.map hiD)),Y (.lst (rowD names)),Y (sO w),Y (.lst (rowD (nmW w row))),B]) (l:=nmW w row) z rfl rfl;rw[hn hw]at c2;have g:=qzb (st:=st) (nlI (nmW w row));have ne:cmpD st .NotEq (.lst (rowD (nmW w row))) (.lst (rowD (nmW w row)))=Y false:=by
    show(eqL st _ _).map _=_;rw[eq_self st (isI_r _)]
    rfl
   exact⟨[Y (Y1 p.a),Y (.lst (row.map hiD)),Y (.lst (rowD names)),Y (sO w),Y (.lst (rowD (nmW w row))),B],st,qze 0 [] 3 (λq=>_/\_/\_/\_/\_/\q) [.c (Y1 st.length,st++[Y6 O (rowD (nmW w row))]),.l (rowD (nmW w row)),.c (Y1 st.length,st++[Y6 O (rowD (nmW w row))]),.l (rowD (nmW w row)),.b Y5] ⟨c1,g,c2,g,ne,rfl⟩,_,_,rfl,rfl⟩)
 have c3:=qqj (c:=callD fns (m+3)) (τ:=[Y (Y1 p.a),Y (.lst (row.map hiD)),Y (.lst (rowD names)),F,E,B]) (st:=st') (t:=.tup [0,1]) (it:=.var 1) (test:=B) (elt:=.var 1) (sr:=[B,B]) (s:=.lst (.lst (row.map hiD))) (ds:=row.map hiD) (λd=>match d with|.tup [_,x]=>Y x|_=>B) (λτ=>∃a b,τ=[a,b])
  (by show((RL (callD fns (m+3))).ev _ _ _).bind _=_; rw[qqo (callD fns (m+3)) _ st' (.var 1) (.lst (row.map hiD),st') rfl]; rfl) (qqq rfl) (qzn rfl) (by simp; unfold lim; lia) ⟨B,B,rfl⟩ (λτ u r j=>by
   obtain⟨a,b,rfl⟩:=j;obtain⟨y,R,rfl⟩:=Qqj.mp r
   exact⟨[Y (Z y.1),Y (sO y.2)],qk6 rfl (qqo _ _ _ _ _ rfl),_,_,rfl⟩)
 have N:(row.map hiD).filterMap (λd=>match d with|.tup [_,x]=>Y x|_=>B)=wyD row:=by
  rw[Qxo];exact Qx2▸rfl
 rw[N]at c3;have H:=qzb (st:=st') (ds:=wyD row) (qzg λ_ _=>rfl);have c4:=srt_ok st' r (by rw[Qqz]; exact rl);rw[Qqo]at c4;have c4:bfun st' .sorted [.lst (wyD row)]=Y (Y1 st'.length,st'++[Y6 O (wyD row)]):=c4;have eq:cmpD st' .Eq (.lst (wyD row)) (.lst (wyD row))=Y true:=eq_self st' (isI_w row);exact qzz 0 [52] 4 (λq=>_/\_/\_/\_/\_/\_/\_/\_/\_/\q) [.r (p.fc sz d),.c (Y1 st'.length,st'++[Y6 O (rowD names)]),.l (rowD names),.s (.nx [Y (Y1 p.a),Y (.lst (row.map hiD)),Y (.lst (rowD names)),F,E,B],st'),.c (Y1 st'.length,st'++[Y6 O (wyD row)]),.l (wyD row),.c (Y1 st'.length,st'++[Y6 O (wyD row)]),.l (wyD row),.b O] ⟨A.hf,Q,P,e,c3,H,c4,H,eq,rfl⟩
end
theorem qvd{c0:Cl}:∀{gs},gs.filter p=c0::r->cx∈r->∃X c b,gs=X++c0::(c++cx::b)
 |[],h,_=>by cases h
 |a::g,h,d=>by
  rw[Qxa]at h
  cases e:p a with
  |true=>
   rw[e,Z8 rfl]at h;obtain⟨rfl,rfl⟩:=List.cons.inj h;obtain⟨c,b,rfl⟩:=List.append_of_mem (Qzr.mp d).1;exact⟨[],c,b,rfl⟩
  |false=>
   rw[e,Z7 Qqu]at h;obtain⟨X,c,b,rfl⟩:=qvd h d;exact⟨a::X,c,b,rfl⟩
def qhz(h:hrow ps q gs=b::r)(a:x∈r):(b.2 = "dip"/\x.2 = "ground")\/((b.2 = "dip"/\x.2 = "dip"\/b.2 = "ground"/\x.2 = "ground")/\∃c0 cx X d c,gs=X++c0::(d++cx::c)/\b.1=c0.nm/\x.1=cx.nm):=by
 unfold hrow at h;rw[qkl,qki]at h
 cases i:gs.filter (pA ps) with
 |nil=>
  rw[i]at h
  cases f:gs.filter (pG ps q) with
  |nil=>rw[f]at h; cases h
  |cons c0 g=>
   rw[f]at h;obtain⟨rfl,rfl⟩:=List.cons.inj h;obtain⟨cx,hc,rfl⟩:=Qqj.mp a;obtain⟨X,d,c,e⟩:=qvd f hc;exact .inr ⟨.inr ⟨rfl,rfl⟩,c0,cx,X,d,c,e,rfl,rfl⟩
 |cons c0 g=>
  rw[i]at h;obtain⟨rfl,rfl⟩:=List.cons.inj h;rcases Qqi.mp a with a|a
  ·obtain⟨cx,hc,rfl⟩:=Qqj.mp a;obtain⟨X,d,c,e⟩:=qvd i hc;exact .inr ⟨.inl ⟨rfl,rfl⟩,c0,cx,X,d,c,e,rfl,rfl⟩
  ·obtain⟨cx,hc,rfl⟩:=Qqj.mp a;exact .inl ⟨rfl,rfl⟩
def eq_h(b:DG x.2)(a:DG y.2):eqT (hiD y) (hiD x)=decide (y=x):=by
 obtain⟨n,v⟩:=x;obtain⟨k,w⟩:=y;show((k==n)&&(eqT (sO w) (sO v)&&O))=_;rw[qhm (n:=k) a b,Qxm];unfold wayP
 by_cases h1:k=n<;>by_cases h2:w=v<;>simp[h1,h2]
theorem any_h(a:DG x.2):∀{row:L (J×String)},(∀p∈row,DG p.2)->((row.map hiD).any λy=>eqT y (hiD x))=decide (x∈row)
 |[],_=>rfl
 |y::r,h=>by
  show(eqT (hiD y) (hiD x)||(r.map hiD).any λy=>eqT y (hiD x))=_;rw[any_h a λp b=>h p (.tail _ b),eq_h a (h y (.head _))]
  by_cases e:y=x
  ·subst e; simp
  ·have c:¬ x=y:=λz=>e z.symm;simp[e,c]
theorem qih:∀row:L (J×String),flats 9 (row.map hiD)=O
 |[]=>rfl
 |a::r=>by show(flat 9 (hiD a)&&flats 9 (r.map hiD))=O; rw[qih r]; rfl
def in_h(S){row:L (J×String)}(a:DG x.2)(h:∀p∈row,DG p.2):cmpD S .NotIn (hiD x) (Yc (row.map hiD))=Y (!decide (x∈row)):=by
 show(if flat 9 (hiD x)&&flats 9 (row.map hiD) then Y ((row.map hiD).any λy=>eqT y (hiD x)) else B).map (!·)=_;rw[qih,any_h a h]
 rfl
def ix_h(S)(x)(r):idxD S (Yc (x::r)) (Z 0)=Y x:=by
 show atI (x::r) 0=_;unfold atI ixN;rw[Z8 (by decide),Z8 (by simp)]
 rfl
section
variable {p:Pl}{sz:D}{d:J}{fo jo:L (D×D)}{ro:L J}{S:Y3}{cs:L Cl}
noncomputable abbrev paT(a:Y0)(o row:L (J×String))(n:Y2 D):Sl:=[Y (.loc a),Y (.lst (o.map hiD)),Y (.lst (row.map hiD)),n]
noncomputable abbrev paI:M.S:=.ite (.or (.cmp .Eq (.bcall .len [.var 1]) (.lit (.int 0))) (.or (.cmp .NotIn (.idx (.var 1) (.lit (.int 0))) (.var 2)) (.cmp .Eq (.idx (.var 2) (.lit (.int 0))) (.idx (.var 1) (.lit (.int 0)))))) [.ret (.lit (.bl O))] []
def pai_ok(m)(g:DG x.2)(hr:∀p∈row,DG p.2):(stepEx ?s (paT p.a (x::o) row B) S paI=Y (.rt (.bl O),S))\/(∃a r,row=a::r/\x∈r/\stepEx ?s (paT p.a (x::o) row B) S paI=Y (.nx (paT p.a (x::o) row B),S)):=by
 have j:(?s).tst (paT p.a (x::o) row B) S (.cmp .Eq (.bcall .len [Yd 1]) (.lit (Z 0)))=Y (Y5,S):=
  qzv 0 [] 0 (λq=>_/\q) [.b Y5] ⟨(show((((hiD x::o.map hiD).length:Y0):J)==0)=Y5 by rw[beq_eq_false_iff_ne,Qqg]; lia),rfl⟩
 have f:(?s).tst (paT p.a (x::o) row B) S (.cmp .NotIn (.idx (Yd 1) (.lit (Z 0))) (Yd 2))=Y (!decide (x∈row),S):=
  qzv 0 [] 0 (λq=>_/\_/\q) [.i (hiD x),.b (!decide (x∈row))] ⟨ix_h S (hiD x) (o.map hiD),in_h S g hr,rfl⟩
 have all:∀b:Ya,(?s).tst (paT p.a (x::o) row B) S (.or (.cmp .NotIn (.idx (Yd 1) (.lit (Z 0))) (Yd 2)) (.cmp .Eq (.idx (Yd 2) (.lit (Z 0))) (.idx (Yd 1) (.lit (Z 0)))))=Y (b,S)->stepEx ?s (paT p.a (x::o) row B) S paI=Y (if b then .rt (.bl O) else .nx (paT p.a (x::o) row B),S):=λb h=>by
  have t:(?s).tst (paT p.a (x::o) row B) S (.or (.cmp .Eq (.bcall .len [Yd 1]) (.lit (Z 0))) (.or (.cmp .NotIn (.idx (Yd 1) (.lit (Z 0))) (Yd 2)) (.cmp .Eq (.idx (Yd 2) (.lit (Z 0))) (.idx (Yd 1) (.lit (Z 0))))))=Y (b,S):=qy8 _ _ _ _ _ (by
   show((?s).tst _ _ _).bind _=_;rw[j]
   exact h)
  show((?s).tst _ _ _).bind _=_;rw[t]
  cases b with
  |true=>exact qze 0 [] 0 (λq=>q) [] rfl
  |false=>exact qgx _ _ _ _ _ rfl
 by_cases c:x∈row
 ·obtain⟨a,r,rfl⟩:=Qjt (List.ne_nil_of_mem c);have i:(?s).tst (paT p.a (x::o) (a::r) B) S (.cmp .Eq (.idx (Yd 2) (.lit (Z 0))) (.idx (Yd 1) (.lit (Z 0))))=Y (decide (a=x),S):=by
   rw[<- eq_h g (hr a (.head _))];exact qzv 0 [] 0 (λq=>_/\_/\q) [.i (hiD a),.i (hiD x)] ⟨ix_h S (hiD a) (r.map hiD),ix_h S (hiD x) (o.map hiD),rfl⟩
  have h:=all (decide (a=x)) (qy8 _ _ _ _ _ (by
   show((?s).tst _ _ _).bind _=_;rw[f,Z5 c]
   exact i))
  by_cases e:a=x
  ·rw[Z5 e]at h;exact .inl h
  ·rw[Z6 e]at h;exact .inr ⟨a,r,rfl,(Qqy.mp c).resolve_left λz=>e z.symm,h⟩
 ·refine .inl (all O (qy8 _ _ _ _ _ ?_));show((?s).tst _ _ _).bind _=_;rw[f,Z6 c]
  rfl
def qdj(m)(A:FA p sz d fo jo cs ro S)(nd:(cs.map (·.nm)).Nodup)(R:RowI d cs ro)(hl:ro.length<1000){o:L (J×String)}(ho:∀p∈o,DG p.2)(ps)(q):callD fns (m+4) 77 [Y1 p.a,Yc (o.map hiD),Yc ((hrow ps q ?J).map hiD)] S=Y (.bl O,S):=by
 have e:∀n∈ro,∃c∈cs,c.nm=n:=λn hn=>by obtain⟨c,h1,h2,_⟩:=R.in1 n hn; exact⟨c,h1,h2⟩
 have hr:∀x∈hrow ps q ?J,DG x.2:=qye
 cases o with
 |nil=>exact qzz 0 [] 4 (λq=>_/\q) [.b O] ⟨(show((((([]:L D)).length:Y0):J)==0)=O from rfl),rfl⟩
 |cons x o=>
  rcases pai_ok (p:=p) (S:=S) (m+3) (o:=o) (ho x (.head _)) hr with h|⟨u,r,V,hx,h⟩
  ·exact qzz 0 [] 4 (λq=>_/\q) [.t (.rt (.bl O),S)] ⟨h,rfl⟩
  ·have tw:=qhz V hx;rw[V]at h ⊢;have g:=ix_h S (hiD u) (r.map hiD);have j:=ix_h S (hiD x) (o.map hiD);rcases tw with⟨N,I⟩|⟨K,c0,cx,X,f,i,eg,T,nx⟩
   ·obtain⟨a,b⟩:=u;obtain⟨F,b'⟩:=x;dsimp only at N I;subst N I;exact qzz 0 [] 4 (λq=>_/\_/\_/\q) [.t (.nx (paT p.a ((F,"ground")::o) ((a,"dip")::r) B),S),.i (hiD (a,"dip")),.n,.i (hiD (F,"ground")),.n] ⟨h,g,j,rfl⟩
   ·obtain⟨E,C⟩:=qit m A nd e hl;have s:((?J).map (·.nm)).Nodup:=by rw[qkf e]; exact Qx5.nodup R.nd
    have gv:((?J).map λc=>vOf cs c.nm).Pairwise (· <= ·):=by
     have:(?J).map (λc=>vOf cs c.nm)=(ro.filter (stB cs d)).map (vOf cs):=by rw[<- qkf e,Qqo]; rfl
     rw[this];exact R.so.sublist (Qx5.map _)
    have y:∀c∈stC cs ro d,c∈cs/\c.v=Y (vOf cs c.nm):=λc hc=>by
     have h1:=qw7 hc;have h2:c.nm∈(?J).map (·.nm):=Qqj.mpr ⟨c,hc,rfl⟩;rw[qkf e]at h2;obtain⟨c',h3,h4,U,_⟩:=R.in1 _ (Qzr.mp h2).1;rw[qde nd h3 h1 h4]at U;exact⟨h1,U⟩
    rw[eg]at E C s gv y;obtain⟨m0,v0⟩:=y c0 (by simp);obtain⟨mx,vx⟩:=y cx (by simp);have le:vOf cs c0.nm<=vOf cs cx.nm:=by
     rw[Qqc,Qqm,Qqc,Qqm,Qzi]at gv;exact(Qze.mp gv.2.1).1 _ (by simp)
    have W:(X++c0::(f++cx::i)).map (·.nm)=X.map (·.nm)++c0.nm::(f.map (·.nm)++cx.nm::i.map (·.nm)):=by simp
    have t:(X++c0::(f++cx::i)).map (·.nm)=(X++c0::f).map (·.nm)++cx.nm::i.map (·.nm):=by simp
    have k0:c0.nm ∉ X.map (·.nm):=λz=>by rw[W,Qzf]at s; exact s.2.2 _ z _ (.head _) rfl
    have kx:cx.nm ∉ (X++c0::f).map (·.nm):=λz=>by rw[t,Qzf]at s; exact s.2.2 _ z _ (.head _) rfl
    have w:=qy7 (R:=f.map (·.nm)++cx.nm::i.map (·.nm)) k0 S;have v:=qy7 (R:=i.map (·.nm)) kx S;rw[<- W]at w;rw[<- t]at v;generalize (X++c0::(f++cx::i)).map (·.nm)=names at *;have lt:decide ((((X++c0::f).map (·.nm)).length:J)<((X.map (·.nm)).length:J))=false:=Z6 (by simp only[Qqz,Qqn,Qqg]; lia);have b0:=qvh (m+1) A m0;have bx:=qvh (m+1) A mx;have Q:idxD S (clT c0) (Z 3)=Y (Z (vOf cs c0.nm)):=by show Y (oD c0.v)=_; rw[v0]; rfl
    have P:idxD S (clT cx) (Z 3)=Y (Z (vOf cs cx.nm)):=by show Y (oD cx.v)=_; rw[vx]; rfl
    generalize ((X++c0::f).map (·.nm)).length=k at *;generalize (X.map (·.nm)).length=l at *;generalize vOf cs c0.nm=H at *;generalize vOf cs cx.nm=G at *;obtain⟨a,b⟩:=u;obtain⟨F,b'⟩:=x;dsimp only at T nx K;subst T nx;rcases K with⟨rfl,rfl⟩|⟨rfl,rfl⟩
    ·exact qzz 0 [52,51] 4 (λq=>_/\_/\_/\_/\_/\_/\_/\_/\_/\_/\_/\_/\_/\_/\_/\_/\_/\_/\_/\_/\q) [.t (.nx (paT p.a ((cx.nm,"dip")::o) ((c0.nm,"dip")::r) B),S),.i (hiD (c0.nm,"dip")),.n,.i (hiD (cx.nm,"dip")),.n,.r (p.fc sz d),.c (Y1 S.length,S++[Y6 O (rowD names)]),.l (rowD names),.i (hiD (c0.nm,"dip")),.n,.c (Z (l:J),S),.i (hiD (cx.nm,"dip")),.n,.c (Z (k:J),S),.b Y5,.r (p.fc sz d),.i (hiD (c0.nm,"dip")),.n,.c (clT c0,S),.i (Z H),.r (p.fc sz d),.i (hiD (cx.nm,"dip")),.n,.c (clT cx,S),.i (Z G),.b O] ⟨h,g,j,A.hf,E,C,g,w,j,v,lt,A.hf,g,b0,Q,A.hf,j,bx,P,Z5 le,rfl⟩
    ·exact qzz 0 [52,51] 4 (λq=>_/\_/\_/\_/\_/\_/\_/\_/\_/\_/\_/\_/\_/\_/\_/\_/\_/\_/\_/\q) [.t (.nx (paT p.a ((cx.nm,"ground")::o) ((c0.nm,"ground")::r) B),S),.i (hiD (c0.nm,"ground")),.n,.r (p.fc sz d),.c (Y1 S.length,S++[Y6 O (rowD names)]),.l (rowD names),.i (hiD (c0.nm,"ground")),.n,.c (Z (l:J),S),.i (hiD (cx.nm,"ground")),.n,.c (Z (k:J),S),.b Y5,.r (p.fc sz d),.i (hiD (c0.nm,"ground")),.n,.c (clT c0,S),.i (Z H),.r (p.fc sz d),.i (hiD (cx.nm,"ground")),.n,.c (clT cx,S),.i (Z G),.b O] ⟨h,g,A.hf,E,C,g,w,j,v,lt,A.hf,g,b0,Q,A.hf,j,bx,P,Z5 le,rfl⟩
end
abbrev Row:=L (J×String)
noncomputable def rwD(o:Row):D:=.lst (o.map hiD)
def nl_rw(ol:L Row):noLocs (ol.map rwD)=true:=qzg λo _=>by
 show noLoc (Yc (o.map hiD))=O;rw[qdc];exact nl_h o
noncomputable abbrev lwT(ns:L J)(W H P T:J)(pl:D)(fd:L P3)(ol:L Row)(a b c e:Y2 D):Sl:=[Y (scr ns),Y ?c,Y (.int T),Y pl,Y (.lst (fd.map spD)),Y (.loc 0),Y (.lst (ol.map rwD)),a,b,c,e]
noncomputable abbrev lwS:M.S:=.ite (.cmp .Is (.var 9) (.lit .non)) [.expr (.mcall 642 46 "pass_to" (.var 5) [.var 8])] [.expr (.mcall 642 41 "enter" (.var 5) [.var 8,.var 9])]
noncomputable abbrev lwC:E:=.comp ?D (.var 4) B (.gc (.call 14 [.var 1,.var 0])) [B,Y 5]
noncomputable abbrev lwL:M.S:=.forr (.var 7) (.rng1 (.bcall .len [.var 4])) [.ite (.or (.not (.call 76 [.var 5,.idx (.var 10) (.var 7)])) (.not (.call 77 [.var 5,.idx (.var 6) (.var 7),.idx (.var 10) (.var 7)]))) [.ret (.lit (.bl Y5))] []]
noncomputable abbrev lwB:L M.S:=[lwS,.set (.var 10) (.gc lwC),lwL,.set (.var 6) (.var 10)]
section
variable {ns:L J}{W H P T d day:J}{pl:D}{fd:L P3}{ol:L Row}{k:Y0}{vs:L (J×D×L (J×J))}{jo:L (D×D)}{cs:L Cl}{ro:L J}{rest:Y3}{f:D}{a c e:Y2 D}
def DF.isN(h:DF W H P f):isNon f=false:=by
 cases h with
 |claim h _=>cases h<;>rfl
 |_=>rfl
def qf6(m)(h:Pu W H k T d vs jo cs ro)(I:Inv rest cs)(hf:(k<24/\DF W H P f)\/f=.non)(l:1<=day)(j:day<=400)(hd:d<day):∃i g jo' cs' ro' b,i<=k+1/\(k<=24->i<=24)/\stepEx (RL (callD fns (m+7))) (lwT ns W H P T pl fd ol a (Y (Z day)) (Y f) e) (FC (Z0 W H P) T d ?i jo cs ro rest) lwS=Y (.nx (lwT ns W H P T pl fd ol a (Y (Z day)) (Y f) e),FC (Z0 W H P) T day (voD g) jo' cs' ro' b)/\Pu W H i T day g jo' cs' ro'/\Inv b cs':=by
 rcases hf with⟨hk,hf⟩|rfl
 ·obtain⟨w,g,jo',cs',ro',b,q,S,n⟩:=qha m h I hk hf l j hd;exact⟨k+1,g,jo',cs',ro',b,Qqv _,λ_=>by lia,qxb 8 [46,41] 7 _ (λq=>_/\_/\q) [.b Y5,.c (sO w,FC (Z0 W H P) T day (voD g) jo' cs' ro' b)] ⟨hf.isN,q,rfl⟩,S,n⟩
 ·have q:=qmb (T:=T) (d:=d) (jo:=jo) (cs:=cs) (ro:=ro) (rest:=rest) (sz:=Z0 W H P) (fo:=voD vs) (m+4) l j (Int.le_of_lt hd);exact⟨k,vs,jo,cs,ro,rest,Qzl _,id,qxb 8 [46,41] 7 _ (λq=>_/\q) [.k,.c (.non,FC (Z0 W H P) T day ?i jo cs ro rest)] ⟨q,rfl⟩,h.later (Int.le_of_lt hd),I⟩
def qll(m)(h:Pu W H k T d vs jo cs ro)(I:Inv rest cs)(hk:k<=24)(o:fd.length<=100)(l:∀p∈fd,InG W H P p)(t:τ[4]?=Y (Y (Yc (fd.map spD))))(hi:inner [B,Y 5] τ=[B,Y (Y1 0)]):∃b:L Row,stepEv (RL (callD fns (m+5))) τ (FC (Z0 W H P) T d ?i jo cs ro rest) lwC=Y (Y1 (FC (Z0 W H P) T d ?i jo cs ro rest).length,FC (Z0 W H P) T d ?i jo cs ro rest++[Y6 O (b.map rwD)])/\b.length=fd.length/\∀r∈b,∃ps q,r=hrow ps q ?J:=by
 have A:=fa_of (sz:=Z0 W H P) (T:=T) (d:=d) (fo:=voD vs) (jo:=jo) (ro:=ro) I;have:=h.rl;have:=h.vl;have j:∀n∈ro,∃c∈cs,c.nm=n:=λn hn=>by obtain⟨c,h1,h2,_⟩:=h.R.in1 n hn; exact⟨c,h1,h2⟩
 generalize R:FC (Z0 W H P) T d ?i jo cs ro rest=S at A ⊢;obtain⟨F,s⟩:=Classical.axiomOfChoice (r:=λ(u:P3) (ps:L (J×J))=>u∈fd->∃q:D×Y3,callD fns (m+5) 14 [Y1 0,spD u] S=Y q/\gcD S q=(rwD (hrow ps (u.1,u.2.1) ?J),S)) λu=>by
  by_cases g:u∈fd
  ·obtain⟨Q,N,K,G,E,C⟩:=l u g;obtain⟨ps,e⟩:=qhx (d:=d) (cs:=cs) (ro:=ro) (vs:=vs) (jo:=jo) (W:=W) (H:=H) (P:=P) (x:=u.1) (y:=u.2.1) (z:=u.2.2) I.nd j (by lia) h.vn (by lia) h.V h.jv (by unfold ing; rw[Z5 Q,Z5 N,Z5 K,Z5 G,Z5 E,Z5 C]; rfl);exact⟨ps,λ_=>e m (P0 T cs) S A⟩
  ·exact⟨[],λz=>absurd z g⟩
 refine⟨fd.map λu=>hrow (F u) (u.1,u.2.1) ?J,?_,Qqz ..,λr hr=>by obtain⟨u,_,rfl⟩:=Qqj.mp hr; exact⟨_,_,rfl⟩⟩;have hc:=qxg (c:=callD fns (m+5)) (τ:=τ) (st:=S) (i:=4) (elt:=.gc (.call 14 [Yd 1,Yd 0])) (sr:=[B,Y 5]) fd spD (λu=>rwD (hrow (F u) (u.1,u.2.1) ?J)) t rfl (by unfold lim; lia) hi λu g=>by
  obtain⟨q,w,v⟩:=s u g;exact qzw 0 [14] 5 (λq=>_/\_/\q) [.c q,.l ((hrow (F u) (u.1,u.2.1) ?J).map hiD)] ⟨w,v,rfl⟩
 have e:fd.map (λu=>rwD (hrow (F u) (u.1,u.2.1) ?J))=(fd.map λu=>hrow (F u) (u.1,u.2.1) ?J).map rwD:=by rw[Qqo]; rfl
 rw[e]at hc;exact hc
def qnx(S){b:L Row}{i:Y0}(h:b[i]?=Y r):idxD S (Yc (b.map rwD)) (Z (0+(i:J)))=Y (rwD r):=by
 have hi:=(Qqk.mp h).1;show atI (b.map rwD) (0+(i:J))=_;unfold atI ixN;rw[Z8 (by lia),Z8 (by rw[Qqz]; lia),oBs,Qqw,show(0+(i:J)).toNat=i by lia,h]
 rfl
def qm2(m)(h:Pu W H k T d vs jo cs ro)(I:Inv rest cs)(hk:k<=24)(E:fd.length<=100){g:L Row}(G:g.length=fd.length)(hr:∀r∈g,∃ps q,r=hrow ps q ?J)(F:ol.length=fd.length)(hd:∀o∈ol,∀p∈o,DG p.2)(b):∃x,stepEx (RL (callD fns (m+4))) (lwT ns W H P T pl fd ol a b c (Y (.lst (g.map rwD)))) (FC (Z0 W H P) T d ?i jo cs ro rest) lwL=Y (.nx (lwT ns W H P T pl fd ol x b c (Y (.lst (g.map rwD)))),FC (Z0 W H P) T d ?i jo cs ro rest):=by
 have A:=fa_of (sz:=Z0 W H P) (T:=T) (d:=d) (fo:=voD vs) (jo:=jo) (ro:=ro) I;have:=h.rl;have:=h.cl;have l:∀n∈ro,∃c∈cs,c.nm=n:=λn hn=>by obtain⟨c,h1,h2,_⟩:=h.R.in1 n hn; exact⟨c,h1,h2⟩
 generalize K:FC (Z0 W H P) T d ?i jo cs ro rest=S at A ⊢;have u:(RL (callD fns (m+4))).ev (lwT ns W H P T pl fd ol a b c (Y (.lst (g.map rwD)))) S (.bcall .len [.var 4])=Y (Z (((fd.map spD).length:Y0):J),S):=qzw 0 [] 4 (λq=>q) [] rfl;obtain⟨w,st',e,x,rfl,rfl⟩:=qz4 (c:=callD fns (m+4)) (it:=.rng1 (.bcall .len [.var 4])) (t:=.var 7) (s:=.rng 0 fd.length) (ds:=(List.range fd.length).map λ(j:Y0)=>D.int (0+j)) (st:=S) (body:=[.ite (.or (.not (.call 76 [.var 5,.idx (.var 10) (.var 7)])) (.not (.call 77 [.var 5,.idx (.var 6) (.var 7),.idx (.var 10) (.var 7)]))) [.ret (.lit (.bl Y5))] []])
  (λ_ τ st=>∃x,τ=lwT ns W H P T pl fd ol x b c (Y (.lst (g.map rwD)))/\st=S)
  (by
   show((RL (callD fns (m+4))).ev _ _ _).bind _=_;rw[u];show(if big (((fd.map spD).length:Y0):J) then B else Y (Src.rng 0 ((((fd.map spD).length:Y0):J)).toNat,S))=_;rw[Z7 (by unfold big; simp; lia),Qqz]
   rfl) (by simp[Src.size]) (λk τ st _=>qj8 0 _ k) ⟨a,rfl,rfl⟩ (λi τ st y v h=>by
   obtain⟨x,rfl,rfl⟩:=h;rw[Qqw]at v;obtain⟨j,hj,rfl⟩:=Qqd.mp v;have C:j<fd.length:=Qz6.mp (Qqe hj);obtain⟨r,h1⟩:∃r,g[j]?=Y r:=⟨_,Qqh (by lia)⟩
   obtain⟨o,h2⟩:∃o,ol[j]?=Y o:=⟨_,Qqh (by lia)⟩
   obtain⟨ps,q,rfl⟩:=hr r (Qqe h1);have so:=qcm m A I.nd l h.R.nd (by lia) (by lia) ps q;have z:=qdj m A I.nd h.R (by lia) (hd o (Qqe h2)) ps q
   exact⟨lwT ns W H P T pl fd ol (Y (Z (0+(j:J)))) b c (Y (.lst (g.map rwD))),st,qze 0 [76,77] 4 (λq=>_/\_/\_/\_/\_/\q) [.i (rwD (hrow ps q ?J)),.c (.bl O,st),.i (rwD o),.i (rwD (hrow ps q ?J)),.c (.bl O,st)] ⟨qnx st h1,so,qnx st h2,qnx st h1,z,rfl⟩,_,rfl,rfl⟩)
 exact⟨x,e⟩
def qi8(m)(h:Pu W H k T d vs jo cs ro)(I:Inv rest cs)(hk:k<=24)(hf:(k<24/\DF W H P f)\/f=.non)(G:1<=day)(F:day<=400)(hd:d<day)(r:fd.length<=100)(u:∀p∈fd,InG W H P p)(E:ol.length=fd.length)(v:∀o∈ol,∀p∈o,DG p.2):∃n j jo' cs' ro' b l x y,n<=k+1/\n<=24/\(RL (callD fns (m+7))).ex (lwT ns W H P T pl fd ol a (Y (Z day)) (Y f) e) (FC (Z0 W H P) T d ?i jo cs ro rest) lwB=Y (.nx (lwT ns W H P T pl fd l x (Y (Z day)) (Y f) y),FC (Z0 W H P) T day (voD j) jo' cs' ro' b)/\Pu W H n T day j jo' cs' ro'/\Inv b cs'/\l.length=fd.length/\∀o∈l,∀p∈o,DG p.2:=by
 obtain⟨n,j,jo',cs',ro',b,C,s,Q,S,w⟩:=qf6 (ns:=ns) (P:=P) (pl:=pl) (fd:=fd) (ol:=ol) (a:=a) (e:=e) m h I hf G F hd;obtain⟨i,N,A,z⟩:=qll (P:=P) (τ:=lwT ns W H P T pl fd ol a (Y (Z day)) (Y f) e) (m+2) S w (s hk) r u rfl rfl;obtain⟨x,K⟩:=qm2 (ns:=ns) (P:=P) (pl:=pl) (ol:=ol) (a:=a) (c:=Y f) (m+3) S w (s hk) r A z E v (Y (Z day));have g:=qzb (st:=FC (Z0 W H P) T day (voD j) jo' cs' ro' b) (nl_rw i);refine⟨n,j,jo',cs',ro',b,i,x,Y (Yc (i.map rwD)),C,s hk,?_,S,w,A,λo t=>by obtain⟨ps,q,rfl⟩:=z o t; exact qye⟩;exact qze 0 [] 7 (λq=>_/\_/\_/\_/\q) [.t (.nx (lwT ns W H P T pl fd ol a (Y (Z day)) (Y f) e),FC (Z0 W H P) T day (voD j) jo' cs' ro' b),.c (Y1 (FC (Z0 W H P) T day (voD j) jo' cs' ro' b).length,FC (Z0 W H P) T day (voD j) jo' cs' ro' b++[Y6 O (i.map rwD)]),.l (i.map rwD),.s (.nx (lwT ns W H P T pl fd ol x (Y (Z day)) (Y f) (Y (Yc (i.map rwD)))),FC (Z0 W H P) T day (voD j) jo' cs' ro' b)] ⟨Q,N,g,K,rfl⟩
end
def last_d(S)(ds)(d):idxD S (Yc (ds++[d])) (Z (-1))=Y d:=by
 show atI (ds++[d]) (-1)=_;unfold atI ixN;rw[Z7 (by decide),Z8 (by simp; lia)];have:((-1:J)+((ds++[d]).length:Y0)).toNat=ds.length:=by simp; lia
 rw[oBs,this];simp
def nl_app(h:noLocs a=O)(g:noLocs b=O):noLocs (a++b)=true:=by
 rw[qxd]at *;rw[List.all_append,h,g]
 rfl
def qnp(m){T:J}(g:L (J×D))(hl:g.length<=30)(hf:∀i p,g[i]?=Y p->(i<24/\DF W H P p.2)\/p.2=.non)(hd:∀p∈g,1<=p.1/\p.1<=400)(hp:(g.map (·.1)).Pairwise (· < ·))(R:fd.length<=100)(N:∀p∈fd,InG W H P p)(K:ol.length=fd.length)(r:∀o∈ol,∀p∈o,DG p.2)(hs:src (RL (callD fns (m+7))) (lwT ns W H P T pl fd ol B B B B) (FC (Z0 W H P) T 0 (voD []) [] [] [] []) it=Y (.lst (.lst (g.map pD)),FC (Z0 W H P) T 0 (voD []) [] [] [] [])):
  ∃j st',stepEx (RL (callD fns (m+7))) (lwT ns W H P T pl fd ol B B B B) (FC (Z0 W H P) T 0 (voD []) [] [] [] []) (.forr (.tup [8,9]) it lwB)=Y (.nx j,st'):=by
 obtain⟨j,st',h,_⟩:=qz4 (c:=callD fns (m+7)) (t:=.tup [8,9]) (it:=it) (body:=lwB) (s:=.lst (.lst (g.map pD))) (ds:=g.map pD)
  (λi τ st=>∃k d vs jo cs ro rest,∃ol:L Row,∃a b c e,τ=lwT ns W H P T pl fd ol a b c e/\st=FC (Z0 W H P) T d ?i jo cs ro rest/\Pu W H k T d vs jo cs ro/\Inv rest cs/\k<=24/\k<=i/\(ol.length=fd.length/\∀o∈ol,∀p∈o,DG p.2)/\∀p∈g.drop i,d<p.1)
  hs (qzn rfl) (λi τ st _=>qqq rfl i)
  ⟨0,0,[],[],[],[],[],ol,B,B,B,B,rfl,rfl,pu0,⟨Qqt _,.nil,Qqt _,.nil⟩,by decide,Qqv _,⟨K,r⟩,λp F=>by have:=hd p (Qxh F); lia⟩
  (λi τ st x X h=>by
   obtain⟨k,d,vs,jo,cs,ro,rest,ol,a,b,c,e,rfl,rfl,S,I,hk,a0,⟨K,r⟩,U⟩:=h;rw[Qqw]at X;obtain⟨p,n,rfl⟩:=Qqd.mp X;obtain⟨Q,V⟩:=Qqk.mp n;have v:g.drop i=p::g.drop (i+1):=by rw[Qxk Q,V]
   have u:=hd p (Qqe n);obtain⟨k',A,jo',cs',ro',l,C,x,y,q1,q2,e1,S',I',G,w⟩:=qi8 (ns:=ns) (P:=P) (pl:=pl) (fd:=fd) (ol:=ol) (f:=p.2) (day:=p.1) (a:=a) (e:=e) m S I hk ((hf i p n).imp (λz=>⟨by lia,z.2⟩) id) u.1 u.2 (U p (by rw[v]; exact .head _)) R N K r;refine⟨_,_,e1,k',p.1,A,jo',cs',ro',l,C,x,_,_,y,rfl,rfl,S',I',q2,by lia,⟨G,w⟩,λq hq=>?_⟩;have h5:=hp.sublist ((List.drop_sublist i g).map _);rw[v,Qqm,Qze]at h5
   exact h5.1 q.1 (Qqj.mpr ⟨q,hq,rfl⟩))
 exact⟨j,st',h⟩
noncomputable abbrev exL(n:J):L (J×D):=[(n+1+(0+0),D.non),(n+1+(0+1),D.non),(n+1+(0+2),D.non),(n+1+(0+3),D.non),(n+1+(0+4),D.non)]
def law_ok(m):∀ns:L J,ns.length<=63->∃st',callD fns (m+8) 79 [.lst (ns.map Z)] []=Y (.bl O,st'):=λns hn=>by
 obtain⟨W,H,P,x,w1,w2,h1,h2,p0,p1,_⟩:=qld hn (m+5) [] 0;obtain⟨T,w,G,F⟩:=qlj hn (m+5) [] 0;obtain⟨v,hv,v1,v2⟩:=dr hn (m+6) [] 0 20 (many:=18) (by decide) (by decide) (by decide);obtain⟨pl,y,j,f,g⟩:=ql6 hn w1 w2 h1 h2 p0 p1 (m+2) [] 1 (many:=3+v) (by decide) (by decide) (by lia) (by lia);have gp:=qzb (st:=[]) (pl_nl (W:=W) (H:=H) (P:=P) λp d=>(f p d).1);obtain⟨fd,ex,A,f1,f2⟩:=qeu hn w1 w2 h1 h2 p0 p1 (m+1) (pl:=pl) (by lia) (λp d=>by have:=f p d; exact⟨this.1,this.2.1,by lia⟩) g;have gf:=qnh (st:=[]) (ex:=Y6 O (fd.map spD)::ex) (i:=0) (ds:=fd.map spD) rfl (qzg λ_ _=>rfl);have hi:=qnb w1 w2 h1 h2 p0 p1 G F (m+4);rcases List.eq_nil_or_concat pl with rfl|⟨ps,la,rfl⟩
 ·simp only[Qxp]at j; lia
 rw[List.concat_eq_append]at *;have V:=f la (by simp);generalize X:FC (Z0 W H P) T 0 (voD []) [] [] [] []=S at hi;have l:idxD S (.lst ((ps++[la]).map pD)) (Z (-1))=Y (pD la):=by rw[Qqc]; exact last_d S _ _
 have lt:∀k:J,k<=4->decide (la.1+1+(0+k)<400)=true:=λk hk=>Z5 (by lia);have R:=lt 0 (by decide);have Q:=lt 1 (by decide);have N:=lt 2 (by decide);have K:=lt 3 (by decide);have I:=lt 4 (by decide);have t:noLocs ((ps++[la]).map pD)=true:=pl_nl (W:=W) (H:=H) (P:=P) λp d=>(f p d).1;have gt:=qzb (st:=S) (ds:=(exL la.1).map pD) rfl;have ga:=qzb (st:=S) (ds:=(ps++[la]).map pD++(exL la.1).map pD) (nl_app t rfl);have hb:decide (lim<((ps++[la]).map pD).length+((exL la.1).map pD).length)=false:=Z6 (by rw[Qqz]; simp only[Qqm,Qxv,Qqg,Qxp]; unfold lim; lia);have n:=qxg (c:=callD fns (m+7)) (τ:=[Y (scr ns),Y ?c,Y (Z T),Y (.lst ((ps++[la]).map pD)),Y (.lst (fd.map spD)),Y (Y1 0),B,B,B,B,B]) (st:=S) (i:=4) (elt:=.gc (.lst [])) (sr:=[B]) fd spD (λ_=>D.lst []) rfl rfl (by unfold lim; lia) rfl λu _=>qzw 0 [] 7 (λq=>_/\q) [.l []] ⟨qzb (st:=S) (ds:=[]) rfl,rfl⟩;have C:fd.map (λ_=>D.lst [])=(fd.map λ_=>([]:Row)).map rwD:=by rw[Qqo]; rfl
 rw[C]at n;have g6:=qzb (st:=S) (nl_rw (fd.map λ_=>([]:Row)));have ev:=qzw (k:=m) (fns:=fns) (τ:=lwT ns W H P T (.lst ((ps++[la]).map pD)) fd (fd.map λ_=>([]:Row)) B B B B) (st:=S) (e:=.gc (.bin .Add (.var 3) (.gc (.comp ?D (.rng1 (.lit (Z 5))) B (.tup [.bcall .min [.lit (Z 400),.bin .Add (.bin .Add (.idx (.idx (.var 1) (.neg (.lit (Z 1)))) (.lit (Z 0))) (.lit (Z 1))) ?D],.lit .non]) [B,Y 3])))) (r:=(.lst ((ps++[la]).map pD++(exL la.1).map pD),S)) 0 [] 7 (λq=>_/\_/\_/\_/\_/\_/\_/\_/\_/\_/\_/\_/\_/\q) [.i (pD la),.b O,.i (pD la),.b O,.i (pD la),.b O,.i (pD la),.b O,.i (pD la),.b O,.l ((exL la.1).map pD),.b Y5,.l ((ps++[la]).map pD++(exL la.1).map pD)] ⟨l,R,l,Q,l,N,l,K,l,I,gt,hb,ga,rfl⟩;have hs:src (RL (callD fns (m+7))) (lwT ns W H P T (.lst ((ps++[la]).map pD)) fd (fd.map λ_=>([]:Row)) B B B B) S (.gc (.bin .Add (.var 3) (.gc (.comp ?D (.rng1 (.lit (Z 5))) B (.tup [.bcall .min [.lit (Z 400),.bin .Add (.bin .Add (.idx (.idx (.var 1) (.neg (.lit (Z 1)))) (.lit (Z 0))) (.lit (Z 1))) ?D],.lit .non]) [B,Y 3]))))=Y (.lst (.lst (((ps++[la])++exL la.1).map pD)),S):=by
  rw[Qqc (l₁:=ps++[la])];show((RL (callD fns (m+7))).ev _ _ _).bind _=_;rw[ev]
  rfl
 subst X
 obtain⟨s,st',z⟩:=qnp m _ (by simp only[Qqn,Qqg,Qxp]at j ⊢; lia) (λi p d=>by
  by_cases h:i<(ps++[la]).length
  ·rw[Qq2 h]at d;exact .inl ⟨by lia,(f p (Qqe d)).1⟩
  ·rw[Qzg (by lia)]at d;have:=Qqe d;simp only[Qqy,Qzq,or_false]at this;right;rcases this with rfl|rfl|rfl|rfl|rfl<;>rfl) (λp d=>by
  rcases Qqi.mp d with d|d
  ·have:=f p d
   lia
  ·simp only[Qqy,Qzq,or_false]at d;rcases d with rfl|rfl|rfl|rfl|rfl<;>simp only<;>lia) (by
  rw[Qqc,Qzi];refine⟨g,by simp; lia,λa E b hb=>?_⟩;have:a<=la.1:=by
   rw[Qqc,Qzi]at g;rw[Qqc]at E;rcases Qqi.mp E with h|h
   ·exact Int.le_of_lt (g.2.2 a h la.1 (by simp))
   ·simp at h; lia
  simp at hb
  lia) f1 f2 (Qqz ..) (λo U p d=>by obtain⟨_,_,rfl⟩:=Qqj.mp U; cases d) hs
 exact⟨st',qzz 9 [54,55,53,65,78,40] 8 (λq=>_/\_/\_/\_/\_/\_/\_/\_/\_/\_/\_/\q) [.c (szD W H P,[]),.c (Z T,[]),.c (Z v,[]),.c (Y1 0,[Y6 O ((ps++[la]).map pD)]),.l ((ps++[la]).map pD),.c (Y1 0,Y6 O (fd.map spD)::ex),.l (fd.map spD),.c (.non,FC (Z0 W H P) T 0 (voD []) [] [] [] []),.c (Y1 8,FC (Z0 W H P) T 0 (voD []) [] [] [] []++[Y6 O ((fd.map λ_=>([]:Row)).map rwD)]),.l ((fd.map λ_=>([]:Row)).map rwD),.s (.nx s,st')] ⟨x,w,hv,y,gp,A,gf,hi,n,g6,z,rfl⟩⟩
end K27
end
namespace K27
open PySem PySem.Spec PyProof.Rows L2 MS
open M (D Yb Y3 Sl E S T Src Fn Out R)
def ar0{P:L Y8->Prop}(h:P []):∀us:L Y8,us.length=0->P us:=λus e=>by
 cases us with
 |nil=>exact h
 |cons a r=>cases e
def arS{P:L Y8->Prop}(h:∀a,∀us:L Y8,us.length=n->P (a::us)):∀us:L Y8,us.length=n+1->P us:=λus e=>by
 cases us with
 |nil=>cases e
 |cons a r=>exact h a r (Nat.succ.inj e)
def bs:∀r∈tab,Bd r:=by
 repeat' first|exact Qqt _|refine Qjl.mpr ⟨?_,?_⟩
 all_goals first|exact λ_ _ _ _ _ _=>arS λ_=>ar0 rfl|exact λ_ _ _ _ _ _=>arS λ_=>arS λ_=>ar0 rfl|exact λ_ _ _ _ _ _=>arS λ_=>arS λ_=>arS λ_=>ar0 rfl|exact λ_ _ _ _ _ _=>arS λ_=>arS λ_=>arS λ_=>arS λ_=>ar0 rfl|exact λ_ _ _ _ _ _=>arS λ_=>arS λ_=>arS λ_=>arS λ_=>arS λ_=>ar0 rfl
end K27
open PySem PySem.W PyProof.Rows
set_option maxRecDepth 100000 in
set_option maxHeartbeats 0 in
theorem PySem.Challenge.cw_dipright_k27_whole_no_younger_takes_from_holds : PySem.Challenge.rw_dipright_k27_whole_no_younger_takes_from.Holds := by
 w_on; o_law
 refine holds_open (XP:=XL (K27.vw PZW) []) (YP:=InK K27.KF) K27.left (InK.of (λ_=>by kernel_rfl)) InK.keeps (λs e=>xl_of s (Bool.and_eq_true_iff.mp e).1) XL.keeps (by rfl) (by rfl) (by rfl) (λs e=>recFacts_of (Bool.and_eq_true_iff.mp e).2) (by rfl) (by assumption) (by decide +kernel) ⟨rfl,rfl,rfl,rfl,rfl,by decide +kernel⟩ ?hw ?hc
 (case hw=>w_witness2)
 refine MS.walk_law (l:=RZW) (K:=K27.KH) (k:=2*20) (x:="_law_script") rfl rfl ⟨rfl,by decide,by decide⟩ (λw h Yq=>Yq) ?F
 case F=>
  intro w mg fa h KX G hmg
  k_fill
  refine MS.law_mk (t:=K27.tab) (glo:=K27.glo) (i:=79) (n:=19) KX G hmg rfl rfl rfl K27.bs (by decide +kernel) (K27.law_ok 12) ?_ ?_ ?_ ?_ ?_ ?_
  all_goals repeat' first|exact Qqt _|refine Qjl.mpr ⟨?_,?_⟩|apply MS.RwK.fn|apply MS.RwK.me|apply MS.ClK.mk|apply MS.GlK.mk|apply MS.GdK.mk|exact MS.vNil|exact MS.eNil|apply MS.vCons|apply MS.eCons|apply MS.vTup
  all_goals try dsimp only
  all_goals first|exact MS.vInt|exact MS.vStr|k_is|rfl

