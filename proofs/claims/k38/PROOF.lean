import PyProof.Rows.All
import Wide.All
import OpenK.AllK
import Wide.FinOn
import Lean
import PyProof.TableCode
import PyProof.EqAt
import PyProof.EqKinds
import PyProof.TupleCall
import PyProof.NeKinds
import PyProof.ZipIter
import PyProof.StrLoop
import PyProof.StrWalks
import PyProof.StrCalls
import PyProof.StrCalls2
import PyProof.StrLawsIn
import PyProof.SliceStr2
import PyProof.StrBlock
import PyProof.Rows.StrFirst
import KE.KIntText
import PyProof.StrLawsChain
import PyProof.StrLawsTight
import PyProof.CallStr
import PyProof.Rows.FStr
import PySem.SetTable
import PyProof.TupleKey
import PyProof.SetKind
import PyProof.IsRules
import PyProof.Rows.SetFrom
import PyProof.WalksMore
import PyProof.TupleIter
import KE.KSortTup
import KE.KTryMore
import PySem.Challenge.RW_dipright_k38_whole_accounts_come_to_noug
set_option Elab.async false
set_option backward.eqns.nonrecursive false
set_option genInjectivity false
set_option genSizeOf false
set_option bootstrap.genMatcherCode false
set_option linter.all false
set_option maxRecDepth 100000
set_option maxHeartbeats 4000000
open PySem renaming Value->Yv,Addr->Ya,Str->Yb
open Bool renaming true->Y0,false->Y1
open Option renaming some->Y2,none->Y3
open PySem renaming wpAny_bind->Qq,Shared->Qz,wpAny_pure->Qx,Expr->Qj,World->Qk,Around->Qv,wpAny_field->Qw,wpAny_callSpecial?_slot->Qy,eval->Qa,wpAny_setField_rec->Qb,wpAny_call_entry->Qc,SetTable->Qd,bootBuiltins->Qe,wpAny_newObj_type->Qf,wpAny_truthy_bool->Qg,compareOp->Qi,wpAny_mono->Ql,sysModules->Qm,NameKind->Qn,wpAny_seqItems->Qo,DictEntry->Qp,FuncData->Qr,Params->Qs,wpAny_attempt->Qt,wpAny_typeNameOfWhole_keyiter->Qu,Builtin->Q0,tupleKind_room_in1->Q1,wpAny_holding->Q2,call_meets->Q3,treeTable->Q4,sizeLine_eq->Q5,binaryOp->Q6,wpAny_typeNameOf_keyiter->Q7,attributeBase->Q8,importedModules->Q9,assignEach->Zq,wpAny_of_eq->Zz,wpAny_pyIter_list->Zx,wpAny_setState_of->Zj,codeAny_mono->Zk,builtinLookup_eq_fast->Zv,wpAny_rule->Zw,wpAny_isInstance->Zy,getItem->Za,sliceBounds->Zb,wpAny_passesOwn->Zc,wpAny_loadPart'->Zd,wpAny_specialOf->Ze,codeAny_builtin->Zf,wpAny_Call_Name_kw->Zg,codeAny->Zh,Keyword->Zi,isSubtype_type->Zl,ofAClassStatement->Zm,behindInMarks->Zn,Operator->Zp,letOwnedTupleGo->Zs,typeLookup_type->Zu,callerA->Z1,wpAny_setField->Z2,isSubtype_stop->Z3,getMethod->Z4,wpAny_onRaise->Z5,setSearchFrom->Z6
open PySem.W renaming boot_heap->Qh,behindTheImports->Zo
open PyProof.Rows renaming AllBare->Zr,IntsAre->Z0
section
universe u
theorem Z7[Decidable p](h:p):decide p=true:=decide_eq_true h
theorem Z8[Decidable p](h:¬p):decide p=false:=decide_eq_false h
theorem Z9{h:Decidable c}(n:¬c){t e:α}:ite c t e=e:=if_neg n
theorem Xq{h:Decidable c}(n:c){t e:α}:ite c t e=t:=if_pos n
end
open PySem.Challenge renaming pw_dipright_k38_whole_accounts_come_to_noug->PZW,rw_dipright_k38_whole_accounts_come_to_noug->RZW
open PySem.W renaming Frag->Qqq,keepIn->Qzp,nsIn->Qx5,mg_of->Qjx,methodCall_KW->Qjv,plainGet_of->Qji,callWith_K->Qjl,cellsFrom_some->Qj9
open List renaming length_map->Qqz,getElem?_eq_some_iff->Qqk,getElem?_map->Qqv,mem_map->Qqw,mem_singleton->Qqy,mem_cons->Qqa,map_cons->Qqb,size_toArray->Qqd,length_cons->Qqg,mem_append->Qqh,length_append->Qqi,getElem?_eq_getElem->Qql,mem_of_getElem?->Qqm,map_append->Qqn,mem_append_right->Qqp,forall_mem_nil->Qqr,getElem?_set_ne->Qqs,mem_cons_of_mem->Qqt,find?_cons->Qqu,getElem?_append_left->Qq2,map_map->Qq5,mem_cons_self->Qq6,all_eq_true->Qq8,getElem?_set_self->Qq9,length_take->Qzz,not_mem_nil->Qzx,append_assoc->Qzj,nodup_cons->Qzv,lookup_cons->Qzw,mem_append_left->Qzy,getElem?_eq_none_iff->Qza,map_congr_left->Qzc,any_cons->Qzd,getElem?_eq_none->Qzg,append_nil->Qzh,take_succ_eq_append_getElem->Qzi,getElem?_append_right->Qzm,all_cons->Qzn,sum_cons->Qzo,replicate_succ->Qzr,length_set->Qzs,take_length->Qzu,length_eq_zero_iff->Qz1,filterMap_cons->Qz3,getElem_of_mem->Qz4,mem_range->Qz7,length_singleton->Qz8,length_filter_le->Qz9,mem_filter->Qxz,map_nil->Qxx,flatten_cons->Qxj,getElem?_range->Qxk,take_of_length_le->Qxv,foldl_cons->Qxy,nodup_append->Qxd,mem_of_find?_eq_some->Qxe,length_pos_iff->Qxf,pairwise_cons->Qxh,take_zero->Qxl,length_drop->Qxn,any_eq_true->Qxo,getElem_mem->Qxp,mem_of_mem_take->Qxr,length_nil->Qxs,pairwise_iff_getElem->Qxt,mem_filterMap->Qxu,filterMap_map->Qx0,filter_append->Qx1,getElem?_take->Qx2,take_succ->Qx6,length_range->Qx7,map_id->Qx9,filter_cons->Qjk,length_replicate->Qjw,take_append_drop->Qjy,filterMap_eq_map->Qja,getElem_toArray->Qjc,find?_some->Qje,pairwise_append->Qjf,mem_of_mem_drop->Qjg,take_append_of_le_length->Qjh,set_cons_zero->Qjm,length_zipIdx->Qjn,any_eq_false->Qjo,take_sublist->Qjp,ext_getElem?->Qj0,drop_eq_getElem_cons->Qj1,getElem?_take_of_lt->Qj2,length_filterMap_le->Qj5,getElem?_replicate->Qj6,getElem?_cons_succ->Qj7,of_mem_zip->Qj8,mapM_cons->Qkx
open PySem.Heap renaming get?_push_of_some->Qqx,get?_push_size->Qqc,lt_size->Qqe,size_push->Qz0,get?_update_self->Qxm,get?_update_other->Qx8
open Nat renaming le_refl->Qqj,ne_of_lt->Qq1,lt_of_lt_of_le->Qq4,zero_le->Qzq,lt_succ_self->Qzb,le_trans->Qzl,lt_or_ge->Qz5,lt_irrefl->Qz6,le_succ->Qxq,ne_of_gt->Qxw,le_of_lt_succ->Qxb,le_succ_of_le->Qxc,lt_succ_of_lt->Qxi,zero_add->Qx3,succ_pos->Qx4,le_add_right->Qjj,le_of_lt->Qjb,mod_lt->Qjd,lt_trichotomy->Qju,zero_lt_succ->Qj3
open Option renaming map_eq_some_iff->Qqf,isSome_iff_exists->Qzt,isSome_map->Qjr,bind_assoc->Qjs,map_eq_none_iff->Qkz,map_map->Qkj
open Bool renaming and_eq_true->Qqo,false_ne_true->Qq7,false_eq_true->Qzk,or_eq_true->Qxa,eq_iff_iff->Qxg,and_true->Qjz,false_or->Qkk,not_true->Qkv
open Array renaming getElem?_toList->Qq0,getElem?_eq_getElem->Qq3,getElem?_eq_some_iff->Qze,length_toList->Qzf,getD_eq_getD_getElem?->Qz2,getElem?_eq_none->Qjq,size_append->Qjt,getElem?_replicate->Qj4,getElem?_extract->Qkq
section
universe u v
theorem oBs(a)(f:α->Option q):(Y2 a).bind f=f a:=rfl
theorem oMs(a)(f:α->q):(Y2 a).map f=Y2 (f a):=rfl
end
namespace L2
open PySem PySem.Spec PyProof.Rows
noncomputable def qqf(s:Stmt):Arguments:=match s with
 |.FunctionDef _ a _ _ _ _ _ _ _ _=>a
 |_=>{ posonlyargs:=[],args:=[],vararg:=Y3,kwonlyargs:=[],kw_defaults:=[],kwarg:=Y3,defaults:=[] }
noncomputable def qz1(s:Stmt):List Stmt:=match s with
 |.FunctionDef _ _ b _ _ _ _ _ _ _=>b
 |_=>[]
noncomputable def qzy(s:Stmt):Scope:=match s with
 |.FunctionDef _ _ _ _ _ _ sc _ _ _=>sc
 |_=>{ kind:=.function,names:=[],isGenerator:=Y1,isCoroutine:=Y1 }
end L2
namespace K38
open PySem PySem.Spec PyProof.Rows
noncomputable def top(i:Nat):Stmt:=PZW.main.body.getD i (.Pass ⟨0,0,0,0⟩)
noncomputable def cb(s:Stmt)(j:Nat):Stmt:=match s with
 |.ClassDef _ _ _ b _ _ _ _ _ _ _=>b.getD j (.Pass ⟨0,0,0,0⟩)
 |_=>s
end K38
namespace HD
open PySem PySem.W PySem.Calls PyProof.Rows
noncomputable def lf:Life:=PySem.Life.mk [] [] [] 0 [] [] Bool.false #[] [] 0 Bool.false Bool.false Bool.false 0 [2000,10,10] Bool.false 0 Bool.true [] [] 0 Bool.false
noncomputable def sM:Yb:=⟨#[60,109,111,100,117,108,101,62]⟩
noncomputable def sF:Yb:=⟨#[47,99,108,97,105,109,47,99,117,116,46,112,121]⟩
noncomputable def sN:Yb:=⟨#[95,95,109,97,105,110,95,95]⟩
noncomputable def bt(l:List Obj):BT:=(l.foldl (λ(p:BT×Nat) o=>(p.1.ins p.2 o,p.2+1)) (.nil,0)).1
noncomputable def Ta(P:Qs):BT:=bt ((Qh P).objs.toList++[Obj.mk (.type "tuple") Y3 (.seq #[]) #[],Obj.mk .none Y3 (.fields #[]) #[],
 Obj.mk (.type "code") Y3 (.fields #[.str sM 182,.str sM 183,.str sF 184,.int 1 0,.int 0 0,.int 0 0,.int 0 0,.int 0 0,.ref 11,.bool Y1,.int 181 0,.ref 12,.none,.none,.none,.none,.int 185 0,.int 1 0,.str sF 186]) #[],
 Obj.mk (.type "frame") Y3 .plain #[Y2 (.ref 13),Y2 (.ref 3),Y2 (.ref 3),Y3,Y2 (.str sN 164),Y3,Y2 (.ref 0)]])
noncomputable def Sa(w:Qk)(os:OsState):SharedT:=⟨Ta w.params,15,lf,#[],⟨0,0,0,0⟩,187,os⟩
noncomputable abbrev an:Option Yv:=Y2 (.ref 6)
noncomputable abbrev p0:Pos:=⟨0,0,0,0⟩
noncomputable def ev(p:Program):Env:={ scope:=p.main.scope,locals:=mainNs,globals:=mainNs,cells:=[],code:=.ref 13,frame:=Y2 14 }
noncomputable def cE(p:Program):Code:=.body (Zo p) (ev p)
noncomputable def Lk(p q:Program)(loose:List Yb)(Xt:Program->Qz->Bool)(ads:List Ya)(w:Qk)(s:Qz):=(staticsOk (Q9 p.main.body) (Qh w.params) s.heap&&namesBound p s.heap&&gensDone s&&laidKept (Qh w.params) s.heap,openSeen q loose (Q9 p.main.body) (Xt q) Y0 s,ads.map s.heap.get?)
theorem fin_of:topRun Q4 p w 11 an 2 s (restOf [] env c q [topFrame p0])=Y2 s:=by
 cases s
 rfl
noncomputable abbrev Fs(p:Program)(w:Qk)(s:Qz):Bool:=staticsOk (Q9 p.main.body) (Qh w.params) s.heap&&namesBound p s.heap&&gensDone s&&laidKept (Qh w.params) s.heap
theorem qnt{os:OsState}(z:((Qh w.params).isNs mainGlobals&&(Array.mk []:Array GenState).size==0,(Qh w.params).objs.size,(Qh w.params).nsMap mainGlobals "__annotations__")=(Y0,11,an))(r:topRun Q4 p w 11 an N ⟨Qh w.params,#[],boot_drawn,boot_toks,os⟩ (topStub p)=Y2 s)(l:Fs p w s=Y0):topFrom Q4 p w N ⟨Qh w.params,#[],boot_drawn,boot_toks,os⟩=Y2 s:=by
 have J:=congrArg (·.1) z;have F:=congrArg (·.2.1) z;have q:=congrArg (·.2.2) z;dsimp only at J F q;simp only[topFrom,J,F,q,r,oBs];show(match Fs p w s with|true=>Y2 s|false=>Y3)=_;rw[l]
noncomputable def Rn(p:Program)(n:Nat)(w:Qk)(os:OsState):=segRunT Q4 p w 11 an 1 n (Sa w os) (piecesOf (Zo p) (ev p) (cE p) p0 [topFrame p0])
noncomputable def LA(p q:Program)(ads:List Ya)(w:Qk)(s:Qz):=(staticsOk (Q9 p.main.body) (Qh w.params) s.heap&&namesBound p s.heap&&gensDone s&&laidKept (Qh w.params) s.heap,seen ((recsOf q).map (·.name)) (ownsOf q) [] { s with gens:=#[] },ads.map s.heap.get?)
noncomputable def LB(p q:Program)(loose:List Yb)(Xt:Program->Qz->Bool)(s:Qz):Bool:=s.heap.keysOk (looseW q loose) ((recsOf q).map (·.name)) ((litsOf q).map (·.1)) ((clssOf q (looseW q loose)).map (·.name))&&s.heap.accountedOkI (Q9 p.main.body)&&s.heap.isNs mainGlobals&&s.heap.isNs builtinsNs&&tablesOk q s.heap&&Xt q s&&s.gens.size==0
noncomputable def LD(q:Program)(loose:List Yb)(s:Qz):=(s.heap.bltView,tabsOk q s,pinSeenD q (drecsOf q) s,clsSeenW q loose s)
noncomputable def LG(q:Program)(loose:List Yb)(s:Qz):=(wideSeen q s,plainSeenD q loose s)
theorem lo3{K:Qs->Frag}(Y:∀w:Qk,Option.map (λs:Qz=>(s.heap,s.gens,s.drawn,s.toks)) (fencedOpening Q4 p w N)=Y2 (Qh w.params,#[],boot_drawn,boot_toks))(z:∀w:Qk,((Qh w.params).isNs mainGlobals&&(Array.mk []:Array GenState).size==0,(Qh w.params).objs.size,(Qh w.params).nsMap mainGlobals "__annotations__")=(Y0,11,an))(pre:∀w:Qk,(λos=>topGo Q4 p w 11 an 12 ⟨Qh w.params,#[],boot_drawn,boot_toks,os⟩ (topStub p))=λos=>Y2 ((Sa w os).abs,⟨denote Q4 (cE p),cE p,p0,[topFrame p0]⟩))(blk:∀w:Qk,(λos=>segRun Q4 p w 11 an 1 1 (Sa w os).abs (blockOf (Zo p) (ev p) (cE p) p0 [topFrame p0]))=λos=>Y2 (Flow.next,(Sa w os).abs,cE p,p0))(gA:∀w:Qk,(λos=>(Rn p n w os).map λr=>(r.1,r.2.2.1,r.2.2.2,LA p q ads w r.2.1.abs))=λ_=>Y2 (Flow.next,cE p,p1,Y0,expectedOf q,(K w.params).map λp=>Y2 p.2))(gB:∀w:Qk,(λos=>(Rn p n w os).map λr=>LB p q loose Xt r.2.1.abs)=λ_=>Y2 Y0)(gC:∀w:Qk,(λos=>(Rn p n w os).map λr=>plainSeenE q (looseW q loose) r.2.1.abs)=λ_=>Y2 (plainGoodE q (looseW q loose)))(gD:∀w:Qk,(λos=>(Rn p n w os).map λr=>LD q loose r.2.1.abs)=λ_=>Y2 (bltViewBooted,Y0,pinGoodD (drecsOf q),clsGoodW q loose))(gE:∀w:Qk,(λos=>(Rn p n w os).map λr=>LG q loose r.2.1.abs)=λ_=>Y2 (wideGood q,plainGoodD q loose))(le:Nat.ble (12+(1+(n+2))) N=Y0):LeftO p q loose (Xt q) (λs=>ads.map s.heap.get?) (λw=>(K w.params).map λp=>Y2 p.2) N:=by
 intro w
 rcases Qqf.mp (Y w) with⟨S,eS,L⟩
 rcases S with⟨H,g,d,t,os⟩
 have h1:H=Qh w.params:=congrArg (·.1) L;have h2:g=#[]:=congrArg (·.2.1) L;have h3:d=boot_drawn:=congrArg (·.2.2.1) L;have h4:t=boot_toks:=congrArg (·.2.2.2) L;subst h1 h2 h3 h4
 rcases Qqf.mp (congrFun (gA w) os) with⟨⟨f,O,c,U⟩,run,same⟩
 have J:∀{α:Type}{g:Flow×SharedT×Code×Pos->α}{v:α},(Rn p n w os).map g=Y2 v->g (f,O,c,U)=v:=λe=>by rw[run]at e; exact Option.some.inj e
 have g1:f=Flow.next:=congrArg (·.1) same;have g2:c=cE p:=congrArg (·.2.1) same;have g3:U=p1:=congrArg (·.2.2.1) same;have l1:Fs p w O.abs=true:=congrArg (·.2.2.2.1) same;have l0:=congrArg (·.2.2.2.2.1) same;have Z:=congrArg (·.2.2.2.2.2) same;have b:=J (congrFun (gB w) os);have c0:=J (congrFun (gC w) os);have d:=J (congrFun (gD w) os);have e:=J (congrFun (gE w) os);have l2:openSeen q loose (Q9 p.main.body) (Xt q) Y0 O.abs=openGood q loose:=Prod.ext l0 (Prod.ext (congrArg (·.1) d) (Prod.ext b (Prod.ext (congrArg (·.2.1) d) (Prod.ext (congrArg (·.2.2.1) d) (Prod.ext c0 (Prod.ext (congrArg (·.2) e) (Prod.ext (congrArg (·.1) e) (congrArg (·.2.2.2) d))))))));subst g1 g2 g3;have F:=piece_app (rest:=[]) (segRun_of run) fin_of;rw[Qzh]at F;have all:=go_top (congrFun (pre w) os) (piece_block (congrFun (blk w) os) F);have more:=topRun_mono (N - (12+(1+(n+2)))) _ _ _ _ all;rw[Nat.add_sub_cancel' (Nat.le_of_ble_eq_true le)]at more;simp only[openEnds,eS,oBs,qnt (z w) more l1,oMs];exact congrArg Y2 (Prod.ext l2 Z)
end HD
namespace K38
open PySem L2
noncomputable def c0:List Yb:=["_law_plan","_law_script","_law_k","_law_size_here","_law_many","_law_pace","_law_draw","_law_plan_here","_law_day","_law_at","range","append"]
noncomputable def c1:List Yb:=["_law_fact","_law_dig","_law_mouth","_law_rect","_law_spot","_law_worth","dig","_law_who","_law_pay","_law_giver","_law_taker","pay"]
noncomputable def c2:List Yb:=["_law_dug","_law_found","_law_fact_here","_law_way","len","vein","_law_entered","_law_term_here","_law_field","Field","enter","law"]
noncomputable def c3:List Yb:=["_law_size","_law_term","_law_told","balance","_law_who_here",".0","all","isinstance","_law_one","int","bool","sum"]
noncomputable def c4:List Yb:=["_law_rows","entries","_law_folk","_law_row","_law_other","_law_there","owes","fast","_law_outs","_law_j","_law_count","_law_first"]
noncomputable def c5:List Yb:=["_law_stride","_law_place","tuple","_law_pick","_law_names","_law_vein","_law_steps","_law_claim_fact","_law_claim","_law_side","_law_line","min"]
noncomputable def c6:List Yb:=["work","sell","part","give","_law_veins","stake","_law_floor","join","__name__","law_dipright_k38_whole_accounts_come_to_noug","_law_cell","_law_turn"]
noncomputable def c7:List Yb:=["_law_rest","_law_step","_law_two","_law_wide","_law_tall","_law_deep","_law_sizes","_law_x","sorted","_law_y","dipright.accounts","check_folk"]
noncomputable def c8:List Yb:=["who","fits","FOLK","BadNumber","not of the folk","sums","field","owed","day","debtor","creditor","tenths"]
noncomputable def c9:List Yb:=["get","one","other","pair","DEPTHS","TERMS","COIN","check_district","wide","tall","deep","term"]
noncomputable def c10:List Yb:=["LENGTHS","not the numbers of a district","check_day","DAYS","not a day","__init__","self","extent","year","found","joints","staked"]
noncomputable def c11:List Yb:=["Claims","dug","debts","fact","sound","BadFact","not sound for this district","Late","the field's day isn't earlier","answer","enter_vein","enter_join"]
noncomputable def c12:List Yb:=["enter_stake","enter_dig","enter_pay","change","vest_all","good","novein","order","joined","outcrops","extend","spot"]
noncomputable def c13:List Yb:=["worth","owe","owner","gatekeeper","mouth","claim","over","pass_to","_wall","today","size","veins"]
noncomputable def c14:List Yb:=["list","claims","name","NoVein","no vein is known by that day","named","ground","last","vested","given","state","years"]
noncomputable def c15:List Yb:=["standing","twin","first_claim","ranks","title","heirs","cell","standing_grounds","inside","dipright.field","pairs","outcrop"]
noncomputable def c16:List Yb:=["covers","dipright.title","ground_of","ranked","grounds","heads","first","behind","has_one","dip","columns_at","met_columns"]
noncomputable def c17:List Yb:=["met","joint","column","climbed","enumerate","in_ground","OutOfGround","not a spot of the district","dipright.reach","dipright.claims","Claim","days"]
noncomputable def c18:List Yb:=["piece","fallen","unvested","stands","book","row","names","NoClaim","no claim is known by that day","through","vest","noclaim"]
noncomputable def c19:List Yb:=["ended","whole","pieces","parted","nocut","insert","index","dipright.veins","MOVES","steps","x","y"]
noncomputable def c20:List Yb:=["step","reversed","can_part","rect","side","line","ahead","LEFT","TOP","LOW","RIGHT","dipright.years"]
noncomputable def c21:List Yb:=["counted","kept","some","any","good_outcrops","MOST_COLUMNS","is_cell","thing","set","sound_vein","good_steps","numbers_agree"]
noncomputable def c22:List Yb:=["ASKS","all_fit","dipright.ground","below","folk","floor","coins","bounds","SIDES","LINES","STEPS","COINS"]
noncomputable def c23:List Yb:=["value","bound","asked","values","known","kind","zip","DiprightError","dipright.facts","k","dipright.errors","ValueError"]
noncomputable def c24:List Yb:=["/claim/cut.py","__doc__","__package__","__loader__","__spec__","__annotations__","__builtins__","__file__","__cached__","__main__","__module__","__firstlineno__"]
noncomputable def c25:List Yb:=["__static_attributes__","__weakref__","Claim.__init__","Claim.piece","Claim.twin","Claim.state","__dict__","Claims.__init__","Claims.names","Claims.named","Claims.standing","Claims.stake"]
noncomputable def c26:List Yb:=["Claims.vest","Claims.vest_all","Claims.change","Claims.part","Claims.twin","Field.__init__","Field.enter","Field.answer","Field.enter_vein","Field.enter_join","Field.enter_stake","Field.enter_dig"]
noncomputable def c27:List Yb:=["Field.enter_pay","Field.gatekeeper","Field.owe","Field.pass_to","Field.today","Field.size","Field.term","Field.veins","Field.claims","Field.vein","Field.joined","Field.claim"]
noncomputable def c28:List Yb:=["Field.state","Field.years","Field.standing","Field.entries","Field.twin"]
noncomputable def Al:List (List Yb):=[c0,c1,c2,c3,c4,c5,c6,c7,c8,c9,c10,c11,c12,c13,c14,c15,c16,c17,c18,c19,c20,c21,c22,c23,c24,c25,c26,c27,c28]
noncomputable def Af(i j:Nat):Yb:=(Al.getD i []).getD j ⟨#[]⟩
noncomputable def b0:String:="dict"
noncomputable def b1:String:="__main__.__loader__#opaque"
noncomputable def b2:String:="tuple"
noncomputable def b3:String:="code"
noncomputable def b4:String:="function"
noncomputable def b5:String:="ValueError"
noncomputable def b6:String:="ValueError.__new__"
noncomputable def b7:String:="type"
noncomputable def b8:String:="Exception"
noncomputable def b9:String:="BaseException"
noncomputable def b10:String:="object"
noncomputable def b11:String:="ExceptionGroup.__weakref__"
noncomputable def b12:String:="getset_descriptor"
noncomputable def b13:String:="object.__new__"
noncomputable def b14:String:="function.__dict__"
noncomputable def b15:String:="function.__dict__#set"
lay_quick Af b0 b1 b2 b3 b4 b5 b6 b7 b8 b9 b10 b11 b12 b13 b14 b15
def Hy(a:Nat->Nat->Yb)(i:Nat)(p:Prop):Nat->List Yb->Prop
 |_,[]=>p
 |j,x::r=>x=a i j->Hy a i p (j+1) r
def Hz(a:Nat->Nat->Yb)(p:Prop):Nat->List (List Yb)->Prop
 |_,[]=>p
 |i,c::r=>Hy a i (Hz a p (i+1) r) 0 c
noncomputable def G(a:Nat->Nat->Yb):Program:=by
 refine'(?f:(x:Program)->Hz a (PZW=x) 0 Al->Program) _ ?h
 (case f=>exact λx _=>x)
 (case h=>(repeat intro _); show PZW=_; delta PZW; conv=>lhs; simp only[*,Nat.reduceAdd])
noncomputable abbrev fnD(x y:Yb)(s:Stmt):=FuncData.mk x y (qqf s) (.stmts (qz1 s)) (qzy s)
noncomputable abbrev kh:=PyData.keyHash
noncomputable abbrev de(P:Qs)(x:Yb)(k:Nat)(v:Yv):=DictEntry.mk (kh P x) (.str x k) v
noncomputable abbrev oq(u:String)(x:Array Yv):=Obj.mk (.type u) Option.none (.seq x) #[]
noncomputable abbrev zA(u:String)(a:Nat->Nat->Yb)(i j v w k:Nat)(ln n:Int)(r p:Nat):=Obj.mk (.type u) Option.none (.fields #[.str (a i j) k,.str (a v w) (k+1),.str (a 24 0) (k+2),.int ln 0,.int n 0,.int 0 0,.int 0 0,.int 3 0,.ref r,.bool Bool.true,.int 181 0,.ref (r+1),.none,.ref (r+2),.ref (r+3),.ref (r+4),.int (.ofNat p) 0,.int ln 0,.str (a 24 0) (p+1)]) #[]
noncomputable abbrev zB(u:String)(a:Nat->Nat->Yb)(i j v w k:Nat)(ln n:Int)(r p:Nat):=Obj.mk (.type u) Option.none (.fields #[.str (a i j) k,.str (a v w) (k+1),.str (a 24 0) (k+2),.int ln 0,.int n 0,.int 0 0,.int 0 0,.int 3 0,.ref r,.bool Bool.true,.int 181 0,.ref (r+1),.none,.none,.none,.ref (r+2),.int (.ofNat p) 0,.int ln 0,.str (a 24 0) (p+1)]) #[]
noncomputable abbrev zA2(u:String)(a:Nat->Nat->Yb)(i j:Nat):=zA u a i j i j
noncomputable abbrev zB2(u:String)(a:Nat->Nat->Yb)(i j:Nat):=zB u a i j i j
noncomputable abbrev zM(u:String)(a:Nat->Nat->Yb)(i j v w:Nat)(s:Stmt)(x y k r:Nat):=Obj.mk (.type u) Option.none (.func (fnD (a i j) (a v w) s 3 [] .none .none .none (.str (a x y) k) Option.none (.ref r) .none 0)) #[]
noncomputable abbrev zF(u:String)(a:Nat->Nat->Yb)(i j:Nat):=zM u a i j i j
noncomputable abbrev zR(P:Qs)(a:Nat->Nat->Yb)(i j k r:Nat):=de P (a i j) k (.ref r)
noncomputable def KG(tp:Nat->Stmt)(a:Nat->Nat->Yb)(u0 u1 u2 u3 u4 u5 u6 u7 u8 u9 u10 u11 u12 u13 u14 u15:String)(P:Qs):Qqq:=(nat_lit 3,Obj.mk (.type u0) Option.none (.dict #[de P (a 6 8) 165 (.str (a 6 9) 1118),de P (a 24 1) 166 .none,de P (a 24 2) 167 .none,de P (a 24 3) 168 (.builtin u1),de P (a 24 4) 169 .none,zR P a 24 5 170 6,zR P a 24 6 171 4,de P (a 24 7) 173 (.str (a 24 0) 172),de P (a 24 8) 174 .none,zR P a 13 8 193 21,zR P a 23 7 213 31,zR P a 8 3 229 44,zR P a 11 5 245 56,zR P a 11 7 261 68,zR P a 14 3 277 80,zR P a 18 7 293 92,zR P a 17 6 309 104,zR P a 10 3 314 107,zR P a 8 2 317 108,zR P a 22 8 320 109,zR P a 22 9 323 110,zR P a 22 10 326 111,zR P a 22 11 329 112,de P (a 21 5) 331 (.int 16 330),zR P a 22 0 374 113,zR P a 22 7 381 128,zR P a 8 1 389 135,zR P a 22 1 395 140,zR P a 21 6 403 147,zR P a 21 10 411 154,zR P a 21 4 417 159,zR P a 21 9 425 166,zR P a 21 11 432 173,zR P a 11 4 440 180,de P (a 20 7) 444 (.int 0 443),de P (a 20 8) 446 (.int 1 445),de P (a 20 10) 448 (.int 2 447),de P (a 20 9) 450 (.int 3 449),zR P a 15 8 458 187,zR P a 16 8 464 192,zR P a 20 2 473 199,zR P a 19 3 484 206,zR P a 17 5 492 213,zR P a 21 0 504 220,zR P a 18 9 512 227,zR P a 17 10 576 265,zR P a 11 0 689 347,zR P a 19 8 704 357,zR P a 17 3 716 364,zR P a 16 11 722 369,zR P a 16 10 728 374,zR P a 16 2 738 381,zR P a 15 11 746 388,zR P a 12 9 752 393,zR P a 16 0 760 400,zR P a 15 7 768 405,zR P a 16 3 781 412,zR P a 15 5 790 419,zR P a 15 2 797 426,zR P a 15 4 805 433,zR P a 13 2 814 440,zR P a 13 6 824 447,zR P a 10 0 829 448,zR P a 9 4 832 449,zR P a 9 5 835 450,de P (a 9 6) 837 (.int 10 836),zR P a 9 7 847 457,zR P a 10 2 854 464,zR P a 2 9 1081 642,zR P a 7 11 1090 653,zR P a 8 5 1102 660,zR P a 4 6 1111 667,zR P a 3 3 1117 672,zR P a 0 6 1135 679,zR P a 3 0 1147 686,zR P a 3 1 1156 693,zR P a 1 3 1169 700,zR P a 5 6 1175 705,zR P a 4 8 1191 712,zR P a 1 7 1200 719,zR P a 5 3 1210 726,zR P a 5 5 1219 733,zR P a 5 7 1234 740,zR P a 1 0 1240 745,zR P a 0 0 1254 752,zR P a 1 1 1266 759,zR P a 1 8 1276 766,zR P a 2 0 1290 773,zR P a 2 6 1302 780,zR P a 2 11 1308 785] 90) #[]) ::
(nat_lit 107,oq u2 #[.int 1 312,.int 400 313]) ::
(nat_lit 108,oq u2 #[.int 1 315,.int 40 316]) ::
(nat_lit 109,oq u2 #[.int 0 318,.int 1 319]) ::
(nat_lit 110,oq u2 #[.int 1 321,.int 23 322]) ::
(nat_lit 111,oq u2 #[.int 0 324,.int 4 325]) ::
(nat_lit 112,oq u2 #[.int 1 327,.int 1000000 328]) ::
(nat_lit 113,Obj.mk (.type u0) Option.none (.dict #[zR P a 6 7 332 114,zR P a 6 5 336 115,zR P a 6 0 342 116,zR P a 6 1 344 117,zR P a 6 2 347 118,zR P a 6 3 352 119,zR P a 1 6 354 120,zR P a 1 11 362 121] 8) #[]) ::
(nat_lit 114,oq u2 #[.str (a 8 8) 333,.str (a 8 8) 334,.str (a 22 3) 335]) ::
(nat_lit 115,oq u2 #[.str (a 22 4) 337,.str (a 19 10) 338,.str (a 19 11) 339,.str (a 19 10) 340,.str (a 19 11) 341]) ::
(nat_lit 116,oq u2 #[.str (a 8 8) 343]) ::
(nat_lit 117,oq u2 #[.str (a 8 8) 345,.str (a 22 4) 346]) ::
(nat_lit 118,oq u2 #[.str (a 8 8) 348,.str (a 20 4) 349,.str (a 20 5) 350,.str (a 22 4) 351]) ::
(nat_lit 119,oq u2 #[.str (a 8 8) 353]) ::
(nat_lit 120,oq u2 #[.str (a 22 4) 355,.str (a 19 10) 356,.str (a 19 11) 357,.str (a 19 10) 358,.str (a 19 11) 359,.str (a 22 5) 360,.str (a 22 6) 361]) ::
(nat_lit 121,oq u2 #[.str (a 22 4) 363,.str (a 22 4) 364,.str (a 22 6) 365]) ::
(nat_lit 127,zA2 u3 a 22 7 375 28 1 122 379) ::
(nat_lit 128,zF u4 a 22 7 (tp 18) 23 8 310 127) ::
(nat_lit 134,zA2 u3 a 8 1 382 30 2 129 387) ::
(nat_lit 135,zF u4 a 8 1 (tp 19) 23 8 310 134) ::
(nat_lit 139,zB2 u3 a 22 1 390 34 3 136 393) ::
(nat_lit 140,zF u4 a 22 1 (tp 20) 23 8 310 139) ::
(nat_lit 146,zA2 u3 a 21 6 396 39 2 141 401) ::
(nat_lit 147,zF u4 a 21 6 (tp 21) 23 8 310 146) ::
(nat_lit 153,zA2 u3 a 21 10 404 41 2 148 409) ::
(nat_lit 154,zF u4 a 21 10 (tp 22) 23 8 310 153) ::
(nat_lit 158,zB2 u3 a 21 4 412 43 2 155 415) ::
(nat_lit 159,zF u4 a 21 4 (tp 23) 23 8 310 158) ::
(nat_lit 165,zA2 u3 a 21 9 418 49 2 160 423) ::
(nat_lit 166,zF u4 a 21 9 (tp 24) 23 8 310 165) ::
(nat_lit 172,zA2 u3 a 21 11 426 51 1 167 430) ::
(nat_lit 173,zF u4 a 21 11 (tp 25) 23 8 310 172) ::
(nat_lit 179,zA2 u3 a 11 4 433 57 2 174 438) ::
(nat_lit 180,zF u4 a 11 4 (tp 26) 23 8 310 179) ::
(nat_lit 186,zA2 u3 a 15 8 451 68 2 181 456) ::
(nat_lit 187,zF u4 a 15 8 (tp 32) 22 2 441 186) ::
(nat_lit 191,zB2 u3 a 16 8 459 70 2 188 462) ::
(nat_lit 192,zF u4 a 16 8 (tp 33) 22 2 441 191) ::
(nat_lit 198,zA2 u3 a 20 2 465 72 3 193 471) ::
(nat_lit 199,zF u4 a 20 2 (tp 34) 22 2 441 198) ::
(nat_lit 205,zA2 u3 a 19 3 474 74 3 200 482) ::
(nat_lit 206,zF u4 a 19 3 (tp 35) 22 2 441 205) ::
(nat_lit 212,zA2 u3 a 17 5 485 84 2 207 490) ::
(nat_lit 213,zF u4 a 17 5 (tp 36) 22 2 441 212) ::
(nat_lit 219,zA2 u3 a 21 0 495 87 2 214 502) ::
(nat_lit 220,zF u4 a 21 0 (tp 38) 20 11 493 219) ::
(nat_lit 226,zA2 u3 a 18 9 505 93 2 221 510) ::
(nat_lit 227,zF u4 a 18 9 (tp 39) 20 11 493 226) ::
(nat_lit 240,zA u3 a 10 5 25 2 527 98 5 235 535) ::
(nat_lit 241,zM u4 a 10 5 25 2 (cb (tp 41) 0) 17 9 513 240) ::
(nat_lit 247,zA u3 a 18 0 25 3 538 106 3 242 545) ::
(nat_lit 248,zM u4 a 18 0 25 3 (cb (tp 41) 1) 17 9 513 247) ::
(nat_lit 261,zA u3 a 14 10 25 5 555 114 2 256 560) ::
(nat_lit 262,zM u4 a 14 10 25 5 (cb (tp 41) 3) 17 9 513 261) ::
(nat_lit 264,Obj.mk (.type u0) Option.none (.dict #[de P (a 24 10) 522 (.str (a 17 9) 513),de P (a 24 11) 526 (.int 96 525),zR P a 10 5 537 241,zR P a 18 0 547 248,zR P a 15 1 554 255,zR P a 14 10 562 262,zR P a 25 0 569 263,zR P a 25 6 571 266,zR P a 25 1 573 267,de P (a 24 1) 574 .none] 4) #[]) ::
(nat_lit 265,Obj.mk (.type u7) Option.none (.cls (ClassData.mk (a 17 10) [.type u10] [.ref 265,.type u10] 264 (a 17 10) Bool.true [] [] Bool.false Option.none Bool.false)) #[Option.none,Option.none,Option.some (.str (a 17 10) 515),Option.some (.str (a 17 10) 523),Option.some (.builtin u13),Option.some (.bool Bool.true)]) ::
(nat_lit 282,zA u3 a 10 5 25 7 589 124 2 277 594) ::
(nat_lit 283,zM u4 a 10 5 25 7 (cb (tp 42) 0) 17 9 513 282) ::
(nat_lit 289,zA u3 a 18 6 25 8 597 129 1 284 601) ::
(nat_lit 290,zM u4 a 18 6 25 8 (cb (tp 42) 1) 17 9 513 289) ::
(nat_lit 296,zA u3 a 14 5 25 9 604 132 2 291 609) ::
(nat_lit 297,zM u4 a 14 5 25 9 (cb (tp 42) 2) 17 9 513 296) ::
(nat_lit 301,zB u3 a 15 0 25 10 612 137 2 298 615) ::
(nat_lit 302,zM u4 a 15 0 25 10 (cb (tp 42) 3) 17 9 513 301) ::
(nat_lit 308,zA u3 a 6 5 25 11 618 140 5 303 626) ::
(nat_lit 309,zM u4 a 6 5 25 11 (cb (tp 42) 4) 17 9 513 308) ::
(nat_lit 315,zA u3 a 18 10 26 0 629 144 4 310 637) ::
(nat_lit 316,zM u4 a 18 10 26 0 (cb (tp 42) 5) 17 9 513 315) ::
(nat_lit 322,zA u3 a 12 4 26 1 640 150 3 317 647) ::
(nat_lit 323,zM u4 a 12 4 26 1 (cb (tp 42) 6) 17 9 513 322) ::
(nat_lit 329,zA u3 a 12 3 26 2 650 154 3 324 658) ::
(nat_lit 330,zM u4 a 12 3 26 2 (cb (tp 42) 7) 17 9 513 329) ::
(nat_lit 336,zA u3 a 6 2 26 3 661 172 3 331 669) ::
(nat_lit 337,zM u4 a 6 2 26 3 (cb (tp 42) 8) 17 9 513 336) ::
(nat_lit 346,Obj.mk (.type u0) Option.none (.dict #[de P (a 24 10) 584 (.str (a 17 9) 513),de P (a 24 11) 588 (.int 122 587),zR P a 10 5 596 283,zR P a 18 6 603 290,zR P a 14 5 611 297,zR P a 15 0 617 302,zR P a 6 5 628 309,zR P a 18 10 639 316,zR P a 12 4 649 323,zR P a 12 3 660 330,zR P a 6 2 671 337,zR P a 15 1 678 344,zR P a 25 0 682 345,zR P a 25 6 684 348,zR P a 25 1 686 349,de P (a 24 1) 687 .none] 4) #[]) ::
(nat_lit 347,Obj.mk (.type u7) Option.none (.cls (ClassData.mk (a 11 0) [.type u10] [.ref 347,.type u10] 346 (a 11 0) Bool.true [] [] Bool.false Option.none Bool.false)) #[Option.none,Option.none,Option.some (.str (a 11 0) 577),Option.some (.str (a 11 0) 585),Option.some (.builtin u13),Option.some (.bool Bool.true)]) ::
(nat_lit 352,oq u2 #[.int 0 692,.int 0 693]) ::
(nat_lit 353,oq u2 #[.int 1 694,.int 0 695]) ::
(nat_lit 354,oq u2 #[.int (-1) 697,.int 0 698]) ::
(nat_lit 355,oq u2 #[.int 0 699,.int 1 700]) ::
(nat_lit 356,oq u2 #[.int 0 701,.int (-1) 703]) ::
(nat_lit 357,oq u2 #[.ref 352,.ref 353,.ref 354,.ref 355,.ref 356]) ::
(nat_lit 363,zA2 u3 a 17 3 705 187 3 358 714) ::
(nat_lit 364,zF u4 a 17 3 (tp 45) 19 7 690 363) ::
(nat_lit 368,zB2 u3 a 16 11 717 196 4 365 720) ::
(nat_lit 369,zF u4 a 16 11 (tp 46) 19 7 690 368) ::
(nat_lit 373,zB2 u3 a 16 10 723 203 2 370 726) ::
(nat_lit 374,zF u4 a 16 10 (tp 47) 19 7 690 373) ::
(nat_lit 380,zA2 u3 a 16 2 731 213 2 375 736) ::
(nat_lit 381,zF u4 a 16 2 (tp 49) 17 8 729 380) ::
(nat_lit 387,zA2 u3 a 15 11 739 215 2 382 744) ::
(nat_lit 388,zF u4 a 15 11 (tp 50) 17 8 729 387) ::
(nat_lit 392,zB2 u3 a 12 9 747 217 2 389 750) ::
(nat_lit 393,zF u4 a 12 9 (tp 51) 17 8 729 392) ::
(nat_lit 399,zA2 u3 a 16 0 753 219 2 394 758) ::
(nat_lit 400,zF u4 a 16 0 (tp 52) 17 8 729 399) ::
(nat_lit 404,zB2 u3 a 15 7 763 222 1 401 766) ::
(nat_lit 405,zF u4 a 15 7 (tp 54) 16 1 761 404) ::
(nat_lit 411,zA2 u3 a 16 3 769 224 3 406 779) ::
(nat_lit 412,zF u4 a 16 3 (tp 55) 16 1 761 411) ::
(nat_lit 418,zA2 u3 a 15 5 782 233 2 413 788) ::
(nat_lit 419,zF u4 a 15 5 (tp 56) 16 1 761 418) ::
(nat_lit 425,zA2 u3 a 15 2 791 236 1 420 795) ::
(nat_lit 426,zF u4 a 15 2 (tp 57) 16 1 761 425) ::
(nat_lit 432,zA2 u3 a 15 4 798 238 2 427 803) ::
(nat_lit 433,zF u4 a 15 4 (tp 58) 16 1 761 432) ::
(nat_lit 439,zA2 u3 a 13 2 806 240 2 434 812) ::
(nat_lit 440,zF u4 a 13 2 (tp 59) 16 1 761 439) ::
(nat_lit 446,zA2 u3 a 13 6 815 243 2 441 822) ::
(nat_lit 447,zF u4 a 13 6 (tp 60) 16 1 761 446) ::
(nat_lit 448,oq u2 #[.int 1 827,.int 24 828]) ::
(nat_lit 449,oq u2 #[.int 0 830,.int 12 831]) ::
(nat_lit 450,oq u2 #[.int 1 833,.int 400 834]) ::
(nat_lit 456,zA2 u3 a 9 7 838 253 4 451 845) ::
(nat_lit 457,zF u4 a 9 7 (tp 66) 15 9 825 456) ::
(nat_lit 463,zA2 u3 a 10 2 848 256 1 458 852) ::
(nat_lit 464,zF u4 a 10 2 (tp 67) 15 9 825 463) ::
(nat_lit 477,zA u3 a 10 5 26 5 867 261 5 472 875) ::
(nat_lit 478,zM u4 a 10 5 26 5 (cb (tp 68) 0) 15 9 825 477) ::
(nat_lit 484,zA u3 a 2 10 26 6 878 272 3 479 884) ::
(nat_lit 485,zM u4 a 2 10 26 6 (cb (tp 68) 1) 15 9 825 484) ::
(nat_lit 491,zA u3 a 11 9 26 7 887 281 2 486 892) ::
(nat_lit 492,zM u4 a 11 9 26 7 (cb (tp 68) 2) 15 9 825 491) ::
(nat_lit 498,zA u3 a 11 10 26 8 895 294 2 493 900) ::
(nat_lit 499,zM u4 a 11 10 26 8 (cb (tp 68) 3) 15 9 825 498) ::
(nat_lit 505,zA u3 a 11 11 26 9 903 299 2 500 910) ::
(nat_lit 506,zM u4 a 11 11 26 9 (cb (tp 68) 4) 15 9 825 505) ::
(nat_lit 512,zA u3 a 12 0 26 10 913 311 2 507 920) ::
(nat_lit 513,zM u4 a 12 0 26 10 (cb (tp 68) 5) 15 9 825 512) ::
(nat_lit 519,zA u3 a 12 1 26 11 923 318 2 514 931) ::
(nat_lit 520,zM u4 a 12 1 26 11 (cb (tp 68) 6) 15 9 825 519) ::
(nat_lit 526,zA u3 a 12 2 27 0 934 329 2 521 939) ::
(nat_lit 527,zM u4 a 12 2 27 0 (cb (tp 68) 7) 15 9 825 526) ::
(nat_lit 533,zA u3 a 13 3 27 1 942 333 2 528 948) ::
(nat_lit 534,zM u4 a 13 3 27 1 (cb (tp 68) 8) 15 9 825 533) ::
(nat_lit 540,zA u3 a 13 1 27 2 951 337 4 535 958) ::
(nat_lit 541,zM u4 a 13 1 27 2 (cb (tp 68) 9) 15 9 825 540) ::
(nat_lit 561,zA u3 a 13 10 27 5 976 347 1 556 980) ::
(nat_lit 562,zM u4 a 13 10 27 5 (cb (tp 68) 12) 15 9 825 561) ::
(nat_lit 575,zA u3 a 13 11 27 7 990 353 1 570 994) ::
(nat_lit 576,zM u4 a 13 11 27 7 (cb (tp 68) 14) 15 9 825 575) ::
(nat_lit 589,zA u3 a 2 5 27 9 1004 359 2 584 1009) ::
(nat_lit 590,zM u4 a 2 5 27 9 (cb (tp 68) 16) 15 9 825 589) ::
(nat_lit 596,zA u3 a 12 8 27 10 1012 364 2 591 1017) ::
(nat_lit 597,zM u4 a 12 8 27 10 (cb (tp 68) 17) 15 9 825 596) ::
(nat_lit 603,zA u3 a 13 5 27 11 1020 369 2 598 1026) ::
(nat_lit 604,zM u4 a 13 5 27 11 (cb (tp 68) 18) 15 9 825 603) ::
(nat_lit 624,zA u3 a 15 0 28 2 1045 379 1 619 1049) ::
(nat_lit 625,zM u4 a 15 0 28 2 (cb (tp 68) 21) 15 9 825 624) ::
(nat_lit 631,zA u3 a 4 1 28 3 1052 382 1 626 1056) ::
(nat_lit 632,zM u4 a 4 1 28 3 (cb (tp 68) 22) 15 9 825 631) ::
(nat_lit 641,Obj.mk (.type u0) Option.none (.dict #[de P (a 24 10) 862 (.str (a 15 9) 825),de P (a 24 11) 866 (.int 259 865),zR P a 10 5 877 478,zR P a 2 10 886 485,zR P a 11 9 894 492,zR P a 11 10 902 499,zR P a 11 11 912 506,zR P a 12 0 922 513,zR P a 12 1 933 520,zR P a 12 2 941 527,zR P a 13 3 950 534,zR P a 13 1 960 541,zR P a 13 7 968 548,zR P a 13 9 975 555,zR P a 13 10 982 562,zR P a 9 11 989 569,zR P a 13 11 996 576,zR P a 14 1 1003 583,zR P a 2 5 1011 590,zR P a 12 8 1019 597,zR P a 13 5 1028 604,zR P a 14 10 1036 611,zR P a 14 11 1044 618,zR P a 15 0 1051 625,zR P a 4 1 1058 632,zR P a 15 1 1065 639,zR P a 25 0 1074 640,zR P a 25 6 1076 643,zR P a 25 1 1078 644,de P (a 24 1) 1079 .none] 4) #[]) ::
(nat_lit 642,Obj.mk (.type u7) Option.none (.cls (ClassData.mk (a 2 9) [.type u10] [.ref 642,.type u10] 641 (a 2 9) Bool.true [] [] Bool.false Option.none Bool.false)) #[Option.none,Option.none,Option.some (.str (a 2 9) 855),Option.some (.str (a 2 9) 863),Option.some (.builtin u13),Option.some (.bool Bool.true)]) ::
(nat_lit 652,zA2 u3 a 7 11 1084 388 1 647 1088) ::
(nat_lit 653,zF u4 a 7 11 (tp 70) 7 10 1082 652) ::
(nat_lit 659,zA2 u3 a 8 5 1091 391 1 654 1100) ::
(nat_lit 660,zF u4 a 8 5 (tp 71) 7 10 1082 659) ::
(nat_lit 666,zA2 u3 a 4 6 1103 397 3 661 1109) ::
(nat_lit 667,zF u4 a 4 6 (tp 72) 7 10 1082 666) ::
(nat_lit 671,zB2 u3 a 3 3 1112 401 2 668 1115) ::
(nat_lit 672,zF u4 a 3 3 (tp 73) 7 10 1082 671) ::
(nat_lit 678,zA2 u3 a 0 6 1120 406 4 673 1133) ::
(nat_lit 679,zF u4 a 0 6 (tp 75) 6 9 1118 678) ::
(nat_lit 685,zA2 u3 a 3 0 1136 421 2 680 1145) ::
(nat_lit 686,zF u4 a 3 0 (tp 76) 6 9 1118 685) ::
(nat_lit 692,zA2 u3 a 3 1 1148 428 2 687 1154) ::
(nat_lit 693,zF u4 a 3 1 (tp 77) 6 9 1118 692) ::
(nat_lit 699,zA2 u3 a 1 3 1157 431 5 694 1167) ::
(nat_lit 700,zF u4 a 1 3 (tp 78) 6 9 1118 699) ::
(nat_lit 704,zB2 u3 a 5 6 1170 435 4 701 1173) ::
(nat_lit 705,zF u4 a 5 6 (tp 79) 6 9 1118 704) ::
(nat_lit 711,zA2 u3 a 4 8 1176 437 4 706 1189) ::
(nat_lit 712,zF u4 a 4 8 (tp 80) 6 9 1118 711) ::
(nat_lit 718,zA2 u3 a 1 7 1192 447 3 713 1198) ::
(nat_lit 719,zF u4 a 1 7 (tp 81) 6 9 1118 718) ::
(nat_lit 725,zA2 u3 a 5 3 1201 449 4 720 1208) ::
(nat_lit 726,zF u4 a 5 3 (tp 82) 6 9 1118 725) ::
(nat_lit 732,zA2 u3 a 5 5 1211 453 3 727 1217) ::
(nat_lit 733,zF u4 a 5 5 (tp 83) 6 9 1118 732) ::
(nat_lit 739,zA2 u3 a 5 7 1220 455 5 734 1232) ::
(nat_lit 740,zF u4 a 5 7 (tp 84) 6 9 1118 739) ::
(nat_lit 744,zB2 u3 a 1 0 1235 463 4 741 1238) ::
(nat_lit 745,zF u4 a 1 0 (tp 85) 6 9 1118 744) ::
(nat_lit 751,zA2 u3 a 0 0 1241 475 4 746 1252) ::
(nat_lit 752,zF u4 a 0 0 (tp 86) 6 9 1118 751) ::
(nat_lit 758,zA2 u3 a 1 1 1255 483 3 753 1264) ::
(nat_lit 759,zF u4 a 1 1 (tp 87) 6 9 1118 758) ::
(nat_lit 765,zA2 u3 a 1 8 1267 488 2 760 1274) ::
(nat_lit 766,zF u4 a 1 8 (tp 88) 6 9 1118 765) ::
(nat_lit 772,zA2 u3 a 2 0 1277 494 4 767 1288) ::
(nat_lit 773,zF u4 a 2 0 (tp 89) 6 9 1118 772) ::
(nat_lit 779,zA2 u3 a 2 6 1291 504 3 774 1300) ::
(nat_lit 780,zF u4 a 2 6 (tp 90) 6 9 1118 779) ::
(nat_lit 784,zB2 u3 a 2 11 1303 509 1 781 1306) ::
(nat_lit 785,zF u4 a 2 11 (tp 91) 6 9 1118 784)::[]
noncomputable def KF:Qs->Qqq:=KG top Af b0 b1 b2 b3 b4 b5 b6 b7 b8 b9 b10 b11 b12 b13 b14 b15
noncomputable def KH(P:Qs):Qqq:=by refine'(?f:(x:Qqq)->KF P=x->Qqq) _ ?h; (case f=>exact λx _=>x); (case h=>conv=>lhs; whnf)
end K38
namespace PySem.W.Fast
open PySem K38
noncomputable def tw3320232559529636055:Program:=G tw6424673941014594599
theorem te3320232559529636055:PZW=tw3320232559529636055:=Eq.trans (b:=G Af) (by kernel_rfl) (congrArg G te6424673941014594599)
noncomputable def qzu(i:Nat):Stmt:=tw3320232559529636055.main.body.getD i (.Pass ⟨0,0,0,0⟩)
theorem qql:top=qzu:=funext λi=>congrArg (λp:Program=>p.main.body.getD i (.Pass ⟨0,0,0,0⟩)) te3320232559529636055
noncomputable def qqi:Qs->Frag:=KG qzu tw6424673941014594599 tw15210616859919307203 tw827607003410172272 tw3509377358238707547 tw9633544404823091767 tw538576465460464865 tw9236213397802156320 tw9381614258582700517 tw4944005115543616668 tw3745994611550229520 tw2779138395409851989 tw1283253187644381373 tw7320568642672262881 tw4926118404807661896 tw12839094344028761767 tw6760248990604517437 tw305362733342793794
theorem te12746456716184779791:KF=qqi:=congr (congr (congr (congr (congr (congr (congr (congr (congr (congr (congr (congr (congr (congr (congr (congr (congr (congrArg KG qql) te6424673941014594599) te15210616859919307203) te827607003410172272) te3509377358238707547) te9633544404823091767) te538576465460464865) te9236213397802156320) te9381614258582700517) te4944005115543616668) te3745994611550229520) te2779138395409851989) te1283253187644381373) te7320568642672262881) te4926118404807661896) te12839094344028761767) te6760248990604517437) te305362733342793794
end PySem.W.Fast
namespace K38
open PySem PySem.W PySem.Calls PyProof.Rows HD
noncomputable abbrev ads:List Ya:=[3,107,108,109,110,111,112,113,114,115,116,117,118,119,120,121,127,128,134,135,139,140,146,147,153,154,158,159,165,166,172,173,179,180,186,187,191,192,198,199,205,206,212,213,219,220,226,227,240,241,247,248,261,262,264,265,282,283,289,290,296,297,301,302,308,309,315,316,322,323,329,330,336,337,346,347,352,353,354,355,356,357,363,364,368,369,373,374,380,381,387,388,392,393,399,400,404,405,411,412,418,419,425,426,432,433,439,440,446,447,448,449,450,456,457,463,464,477,478,484,485,491,492,498,499,505,506,512,513,519,520,526,527,533,534,540,541,561,562,575,576,589,590,596,597,603,604,624,625,631,632,641,642,652,653,659,660,666,667,671,672,678,679,685,686,692,693,699,700,704,705,711,712,718,719,725,726,732,733,739,740,744,745,751,752,758,759,765,766,772,773,779,780,784,785]
noncomputable abbrev loose:List Yb:=["ASKS"]
noncomputable def vw(p:Program):Program:=view p [0,2,3,4,5,6,7,8,10,11,12,13,14,15,16,17,18,19,20,21,22,23,24,25,26,28,29,30,31,32,33,34,35,36,38,39,41,42,44,45,46,47,49,50,51,52,54,55,56,57,58,59,60,62,63,64,65,66,67,68,70,71,72,73,75,76,77,78,79,80,81,82,83,84,85,86,87,88,89,90,91]
noncomputable def Xt(q:Program)(s:Qz):Bool:=xlAt q [] s&&recOk (RowW.records (OpenRow.toRowW (OpenLaw.row RZW))) s
theorem pre:∀w:Qk,(λos=>topGo Q4 PZW w 11 an 12 ⟨Qh w.params,#[],boot_drawn,boot_toks,os⟩ (topStub PZW))=λos=>Y2 ((Sa w os).abs,⟨denote Q4 (cE PZW),cE PZW,p0,[topFrame p0]⟩):=by
 rw[Fast.te15667345088766844465,Fast.te14364793385576792824,Fast.te11892475500146522536,Fast.te3320232559529636055];exact λw=>by kernel_rfl
theorem blk:∀w:Qk,(λos=>segRun Q4 PZW w 11 an 1 1 (Sa w os).abs (blockOf (Zo PZW) (ev PZW) (cE PZW) p0 [topFrame p0]))=λos=>Y2 (Flow.next,(Sa w os).abs,cE PZW,p0):=by
 rw[Fast.te14374325043358763698,Fast.te14364793385576792824,Fast.te3320232559529636055];exact λw=>by kernel_rfl
noncomputable def GA(w:Qk):Prop:=(λos=>(Rn PZW 5404 w os).map λr=>(r.1,r.2.2.1,r.2.2.2,LA PZW (vw PZW) ads w r.2.1.abs))=λ_=>Y2 (Flow.next,cE PZW,⟨509,0,528,15⟩,Y0,expectedOf (vw PZW),(KF w.params).map λp=>Y2 p.2)
theorem gAf:∀w:Qk,GA (w.withFollow "special-get-raises" Y1):=by
 unfold GA Rn LA;rw[Fast.te10110043849684766642,Fast.te14364793385576792824,Fast.te5923862056798008813,Fast.te3320232559529636055,Fast.te12746456716184779791];exact λw=>by kernel_rfl
theorem gAt:∀w:Qk,GA (w.withFollow "special-get-raises" Y0):=by
 unfold GA Rn LA;rw[Fast.te10110043849684766642,Fast.te14364793385576792824,Fast.te5923862056798008813,Fast.te3320232559529636055,Fast.te12746456716184779791];exact λw=>by kernel_rfl
noncomputable def GB(w:Qk):Prop:=(λos=>(Rn PZW 5404 w os).map λr=>LB PZW (vw PZW) loose Xt r.2.1.abs)=λ_=>Y2 Y0
theorem gBf:∀w:Qk,GB (w.withFollow "special-get-raises" Y1):=by
 unfold GB Rn LB;rw[Fast.te10110043849684766642,Fast.te14364793385576792824,Fast.te5923862056798008813,Fast.te3320232559529636055];exact λw=>by kernel_rfl
theorem gBt:∀w:Qk,GB (w.withFollow "special-get-raises" Y0):=by
 unfold GB Rn LB;rw[Fast.te10110043849684766642,Fast.te14364793385576792824,Fast.te5923862056798008813,Fast.te3320232559529636055];exact λw=>by kernel_rfl
noncomputable def GC(w:Qk):Prop:=(λos=>(Rn PZW 5404 w os).map λr=>plainSeenE (vw PZW) (looseW (vw PZW) loose) r.2.1.abs)=λ_=>Y2 (plainGoodE (vw PZW) (looseW (vw PZW) loose))
theorem gCf:∀w:Qk,GC (w.withFollow "special-get-raises" Y1):=by
 unfold GC Rn ;rw[Fast.te10110043849684766642,Fast.te14364793385576792824,Fast.te3320232559529636055];exact λw=>by kernel_rfl
theorem gCt:∀w:Qk,GC (w.withFollow "special-get-raises" Y0):=by
 unfold GC Rn ;rw[Fast.te10110043849684766642,Fast.te14364793385576792824,Fast.te3320232559529636055];exact λw=>by kernel_rfl
noncomputable def GD(w:Qk):Prop:=(λos=>(Rn PZW 5404 w os).map λr=>LD (vw PZW) loose r.2.1.abs)=λ_=>Y2 (bltViewBooted,Y0,pinGoodD (drecsOf (vw PZW)),clsGoodW (vw PZW) loose)
theorem gDf:∀w:Qk,GD (w.withFollow "special-get-raises" Y1):=by
 unfold GD Rn LD;rw[Fast.te10110043849684766642,Fast.te14364793385576792824,Fast.te3320232559529636055];exact λw=>by kernel_rfl
theorem gDt:∀w:Qk,GD (w.withFollow "special-get-raises" Y0):=by
 unfold GD Rn LD;rw[Fast.te10110043849684766642,Fast.te14364793385576792824,Fast.te3320232559529636055];exact λw=>by kernel_rfl
noncomputable def GE(w:Qk):Prop:=(λos=>(Rn PZW 5404 w os).map λr=>LG (vw PZW) loose r.2.1.abs)=λ_=>Y2 (wideGood (vw PZW),plainGoodD (vw PZW) loose)
theorem gEf:∀w:Qk,GE (w.withFollow "special-get-raises" Y1):=by
 unfold GE Rn LG;rw[Fast.te10110043849684766642,Fast.te14364793385576792824,Fast.te3320232559529636055];exact λw=>by kernel_rfl
theorem gEt:∀w:Qk,GE (w.withFollow "special-get-raises" Y0):=by
 unfold GE Rn LG;rw[Fast.te10110043849684766642,Fast.te14364793385576792824,Fast.te3320232559529636055];exact λw=>by kernel_rfl
theorem left:LeftO PZW (vw PZW) loose (Xt (vw PZW)) (λs=>ads.map s.heap.get?) (λw=>(KF w.params).map λp=>Y2 p.2) 10932:=
 lo3 (boot_open (by kernel_rfl) (by decide) (λs=>by kernel_rfl)) (λw=>by kernel_rfl) pre blk (byRow2 "special-get-raises" gAf gAt) (byRow2 "special-get-raises" gBf gBt) (byRow2 "special-get-raises" gCf gCt) (byRow2 "special-get-raises" gDf gDt) (byRow2 "special-get-raises" gEf gEt) (by decide)
end K38
section
namespace L2
open PySem PySem.Spec PyProof.Rows
abbrev Key:=Sum Int Yb
noncomputable def qbp:Key->Yv->Bool
 |.inl k,v=>Value.isInt k v
 |.inr x,v=>Value.isStrOf x v
noncomputable def keyH(w:Qk):Key->Int
 |.inl k=>hashInt k
 |.inr x=>hashStr w x
def qzg:∀{k}{v},qbp k v=Y0->(∃i t,k=Sum.inl i/\v=Value.int i t)\/(∃x t,k=Sum.inr x/\v=Value.str x t)
 |.inl i,v,h=>by
  obtain⟨t,e⟩:=Value.isInt_shape h;exact .inl ⟨i,t,rfl,e⟩
 |.inr x,v,h=>by
  obtain⟨t,e⟩:=Value.isStrOf_shape h;exact .inr ⟨x,t,rfl,e⟩
def qej(i)(t):qbp (.inl i) (.int i t)=true:=by simp[qbp,Value.isInt]
def qex(x)(t):qbp (.inr x) (.str x t)=true:=by simp[qbp,Value.isStrOf]
def key_ll(a b):decide ((Sum.inl a:Key)=Sum.inl b)=(a==b):=by
 by_cases e:a=b
 ·subst e; simp
 ·have h:¬ (Sum.inl a:Key)=Sum.inl b:=λq=>e (Sum.inl.inj q);rw[Z8 h];exact(beq_eq_false_iff_ne.mpr e).symm
def key_rr(a b):decide ((Sum.inr a:Key)=Sum.inr b)=decide (a=b):=by
 by_cases e:a=b
 ·subst e; simp
 ·have h:¬ (Sum.inr a:Key)=Sum.inr b:=λq=>e (Sum.inr.inj q);rw[Z8 h,Z8 e]
def key_lr(a)(b):decide ((Sum.inl a:Key)=Sum.inr b)=false:=Z8 (λq=>nomatch q)
def key_rl(a)(b):decide ((Sum.inr a:Key)=Sum.inl b)=false:=Z8 (λq=>nomatch q)
noncomputable def mixKind(prog:Program)(w:Qk):PySem.KeyKind prog w Key where
 is:=qbp
 hash:=keyH w
 inj:=λv a b ha hb=>by
  rcases qzg ha with⟨i,t,rfl,rfl⟩|⟨x,t,rfl,rfl⟩
  ·rcases qzg hb with⟨j,u,rfl,e⟩|⟨y,u,rfl,e⟩
   ·injection e with e1 _; rw[e1]
   ·exact nomatch e
  ·rcases qzg hb with⟨j,u,rfl,e⟩|⟨y,u,rfl,e⟩
   ·exact nomatch e
   ·injection e with e1 _; rw[e1]
 byValue:=λk v h=>by
  rcases qzg h with⟨i,t,rfl,rfl⟩|⟨x,t,rfl,rfl⟩<;>rfl
 pyHash:=λhv h=>by
  rcases qzg hv with⟨i,t,rfl,rfl⟩|⟨x,t,rfl,rfl⟩
  ·exact wpAny_pyHash_int h
  ·exact wpAny_pyHash_str h
 eqBool:=λhu hv h=>by
  rcases qzg hu with⟨i,t,rfl,rfl⟩|⟨x,t,rfl,rfl⟩
  ·rcases qzg hv with⟨j,u,rfl,rfl⟩|⟨y,u,rfl,rfl⟩
   ·rw[key_ll]at h; exact wpAny_eqBool_int h
   ·rw[key_lr]at h; exact SeqAt.EqAt.int_str i t y u _ _ _ _ h
  ·rcases qzg hv with⟨j,u,rfl,rfl⟩|⟨y,u,rfl,rfl⟩
   ·rw[key_rl]at h; exact SeqAt.EqAt.str_int x t j u _ _ _ _ h
   ·rw[key_rr]at h; exact wpAny_eqBool_str h
 «strs»:=λk x t v h=>by
  rcases qzg h with⟨i,u,rfl,e⟩|⟨y,u,rfl,e⟩
  ·exact nomatch e
  ·injection e with e1 _;subst e1;cases v<;>rfl
def qyv(prog)(w)(i)(t):(mixKind prog w).is (.inl i) (.int i t)=true:=qej i t
def qxz(prog)(w)(x)(t):(mixKind prog w).is (.inr x) (.str x t)=true:=qex x t
inductive V where
 |non|bl (b:Bool)|int (i:Int)|str (x:Yb)|byt (b:Array UInt8)|flt (b:UInt64)|ref (a:Ya)|ty (n:String)
 deriving DecidableEq
noncomputable def RelV:V->Yv->Prop
 |.non,u=>u=Value.none
 |.bl b,u=>u=Value.bool b
 |.int i,u=>∃t,u=Value.int i t
 |.str x,u=>∃t,u=Value.str x t
 |.byt b,u=>∃t,u=Value.bytes b t
 |.flt b,u=>∃t,u=Value.float b t
 |.ref a,u=>u=Value.ref a
 |.ty n,u=>u=Value.type n
abbrev Vals:List V->List Yv->Prop:=Paired RelV
theorem Vals.length(r:Vals xs us):xs.length=us.length:=Paired.length r
theorem Vals.get:∀{xs:List V}{us:List Yv}{i:Nat}{x:V},Vals xs us->xs[i]?=Y2 x->∃u,us[i]?=Y2 u/\RelV x u
 |_,_,_,_,.nil,e=>by simp at e
 |_,_,0,_,.cons r _,e=>by simp at e; subst e; exact⟨_,rfl,r⟩
 |_,_,i+1,x,.cons _ t,e=>by
  obtain⟨u,h1,h2⟩:=Vals.get t (by simpa using e);exact⟨u,by simpa using h1,h2⟩
theorem Vals.append:∀{xs ys}{us ws},Vals xs us->Vals ys ws->Vals (xs++ys) (us++ws)
 |_,_,_,_,.nil,s=>s
 |_,_,_,_,.cons r t,s=>.cons r (Vals.append t s)
theorem Vals.take:∀{xs:List V}{us:List Yv}(n:Nat),Vals xs us->Vals (xs.take n) (us.take n)
 |_,_,0,_=>.nil
 |_,_,_+1,.nil=>.nil
 |_,_,n+1,.cons r t=>.cons r (Vals.take n t)
theorem Vals.drop:∀{xs:List V}{us:List Yv}(n:Nat),Vals xs us->Vals (xs.drop n) (us.drop n)
 |_,_,0,r=>r
 |_,_,_+1,.nil=>.nil
 |_,_,n+1,.cons _ t=>Vals.drop n t
noncomputable def RelO:Option V->Option Yv->Prop
 |some v,Y2 u=>RelV v u
 |none,Y3=>True
 |_,_=>False
def KV{κ:Type}:List (κ×V)->List (κ×Yv)->Prop:=Paired λ(p:κ×V) (q:κ×Yv)=>p.1=q.1/\RelV p.2 q.2
noncomputable def kV:Key->V
 |.inl i=>.int i
 |.inr x=>.str x
inductive HO where
 /-- a list -/
 |lst (xs:List V)
 /-- a tuple (never changes) -/
 |tup (xs:List V)
 /-- a dict whose keys are ints and texts; one whose keys are tuples of ints and texts (the empty one is both) -/
 |dK (kvs:List (Key×V))|dT (kvs:List (List Key×V))
 /-- a set of ints: its members,its size -/
 |set (S:Int->Bool) (n:Nat)
 /-- an instance of the class at C,its dict at dx,its attributes -/
 |ins (C dx:Ya) (fs:List (Yb×V))
 /-- the dict of the instance at x -/
 |own (x:Ya)
 /-- the dict of an exception -/
 |xd (fs:List (Yb×V))
 /-- a bound method,f of x -/
 |met (f x:Ya)
 /-- a range object lo,lo+1,.. below hi -/
 |rng (lo hi:Int)
 /-- a thing that is known to the object (the script; a dict while a loop walks it): read,never written while it is so -/
 |frz (o:Obj) (u:HO)
 /-- a code object's table -/
 |tbl (ps:Array Yv)
 /-- any other thing,by what is Y0 of its one object (a def of one's own: SetO a S n:=HO.ext λh=>..) -/
 |ext (φ:Heap->Prop)
abbrev Hp:=Ya->Option HO
noncomputable def upd(H:Hp)(a:Ya)(o:HO):Hp:=λb=>if b=a then Y2 o else H b
def qzk:upd H a o a=Y2 o:=by unfold upd; rw[Xq rfl]
def qzq(h:b≠a):upd H a o b=H b:=by unfold upd; rw[Z9 h]
def qzo{H:Hp}(h:H a=Y2 o)(h':H b=Y2 u)(d:o≠u):a≠b:=by
 intro e; subst e; rw[h]at h'; exact d (Option.some.inj h')
def qzd{H:Hp}(h:H a=Y2 o)(h':H b=Y3):a≠b:=by
 intro e; subst e; rw[h]at h'; cases h'
section
variable (P:Program)(w:Qk)
noncomputable def ObjOk(H:Hp)(h:Heap)(a:Ya):HO->Prop
 |.lst xs=>xs.length<=sizeLine/\∃(its:List Yv) (n:Nat),Vals xs its/\h.get? a=Y2 { cls:=.type "list",data:=.seq its.toArray n }
 |.tup xs=>xs.length<=sizeLine/\∃its:List Yv,Vals xs its/\IsTup h a its.toArray
 |.dK kvs=>kvs.length<=sizeLine/\(a==Qm)=Y1/\∃vs,KV kvs vs/\h.DictOf (mixKind P w) a vs
 |.dT kvs=>kvs.length<=sizeLine/\(a==Qm)=Y1/\∃xs:List (List Key×Ya×Yv),
   Paired (λ(p:List Key×V) (q:List Key×Ya×Yv)=>p.1=q.1/\H q.2.1=Y2 (.tup (p.1.map kV))/\RelV p.2 q.2.2) kvs xs/\
   ∃o es ep,h.get? a=Y2 o/\o.ExactDict/\o.data=.dict es ep/\es.toList=xs.map (entryOfKey (tupleKind (mixKind P w)))/\(xs.map (·.1)).Nodup
 |.set S n=>h.SetOf (intKind P w) a S n
 |.ins C dx fs=>H dx=Y2 (.own a)/\fs.length<=1000/\dx≠a/\h.get? a=Y2 (PySem.W.instObj C dx)/\
   ∃mA,h.Ns1 dx mA/\(∀f,RelO (fs.lookup f) (mA f))/\PySem.Within mA (fs.map (·.1))
 |.own _=>∃o,h.get? a=Y2 o
 |.xd fs=>∃mA,h.Ns1 a mA/\∀f,RelO (fs.lookup f) (mA f)
 |.rng lo hi=>∃t u v,h.get? a=Y2 { cls:=.type "range",data:=.fields #[.int lo t,.int hi u,.int 1 v] }
 |.frz o u=>h.get? a=Y2 o/\ObjOk H h a u
 |.tbl ps=>h.get? a=Y2 { cls:=.none,data:=.fields ps }
 |.met f x=>h.get? a=Y2 (PySem.W.methodObj (.ref f) (.ref x))
 |.ext φ=>φ h/\(∃o,h.get? a=Y2 o)/\∀h1 h2:Heap,φ h1->(∀o,h1.get? a=Y2 o->h2.get? a=Y2 o)->φ h2
def HOk(H:Hp)(h:Heap):Prop:=∀a o,H a=Y2 o->ObjOk P w H h a o
end
section
theorem ObjOk.lt(x:ObjOk P w H h a o):a<h.objs.size:=by
 cases o with
 |lst xs=>obtain⟨_,_,_,_,e⟩:=x; exact Qqe e
 |tup xs=>obtain⟨_,_,_,p⟩:=x; exact p.lt
 |dK kvs=>obtain⟨_,_,_,_,o,_,_,e,_⟩:=x; exact Qqe e
 |dT kvs=>obtain⟨_,_,_,_,o,_,_,e,_⟩:=x; exact Qqe e
 |set S n=>obtain⟨o,_,_,_,e,_⟩:=x; exact Qqe e
 |ins C dx fs=>obtain⟨_,_,_,e,_⟩:=x; exact Qqe e
 |own y=>obtain⟨_,e⟩:=x; exact Qqe e
 |xd fs=>obtain⟨_,⟨_,_,_,e,_⟩,_⟩:=x; exact Qqe e
 |rng lo hi=>obtain⟨_,_,_,e⟩:=x; exact Qqe e
 |frz ob u=>obtain⟨e,_⟩:=x; exact Qqe e
 |tbl ps=>exact Qqe (x)
 |met f y=>exact Qqe (x)
 |ext q=>obtain⟨_,⟨_,e⟩,_⟩:=x; exact Qqe e
theorem Paired.mapP:∀{z}{q},Paired F z q->(∀a b,F a b->G a b)->Paired G z q
 |_,_,.nil,_=>.nil
 |_,_,.cons r t,f=>.cons (f _ _ r) (Paired.mapP t f)
def ObjOk.stay(x:ObjOk P w H h a o)(k:∀b u,(b=a\/H b=Y2 (.own a))->h.get? b=Y2 u->h'.get? b=Y2 u)
  (U:∀b,H b=Y2 (.own a)->H' b=Y2 (.own a)) (O:∀b xs,H b=Y2 (.tup xs)->H' b=Y2 (.tup xs)):ObjOk P w H' h' a o:=by
 induction o with
 |lst xs=>obtain⟨z,F,n,r,e⟩:=x; exact⟨z,F,n,r,k _ _ (.inl rfl) e⟩
 |tup xs=>obtain⟨z,F,r,ob,e,c⟩:=x; exact⟨z,F,r,ob,k _ _ (.inl rfl) e,c⟩
 |dK kvs=>obtain⟨z,y,vs,r,ob,es,ep,e,c⟩:=x; exact⟨z,y,vs,r,ob,es,ep,k _ _ (.inl rfl) e,c⟩
 |dT kvs=>
  obtain⟨z,y,xs,r,ob,es,ep,e,c⟩:=x;exact⟨z,y,xs,Paired.mapP r λp q z=>⟨z.1,O _ _ z.2.1,z.2.2⟩,ob,es,ep,k _ _ (.inl rfl) e,c⟩
 |set S n=>obtain⟨ob,es,ep,t,e,c⟩:=x; exact⟨ob,es,ep,t,k _ _ (.inl rfl) e,c⟩
 |ins C dx fs=>
  obtain⟨d,z,ne,e,mA,⟨J,es,ep,Y,c⟩,r⟩:=x;exact⟨U _ d,z,ne,k _ _ (.inl rfl) e,mA,⟨J,es,ep,k _ _ (.inr d) Y,c⟩,r⟩
 |own y=>obtain⟨ob,e⟩:=x; exact⟨ob,k _ _ (.inl rfl) e⟩
 |xd fs=>obtain⟨mA,⟨J,es,ep,e,c⟩,r⟩:=x; exact⟨mA,⟨J,es,ep,k _ _ (.inl rfl) e,c⟩,r⟩
 |rng lo hi=>obtain⟨t,u,v,e⟩:=x; exact⟨t,u,v,k _ _ (.inl rfl) e⟩
 |frz ob u L=>obtain⟨e,q⟩:=x; exact⟨k _ _ (.inl rfl) e,L q⟩
 |tbl ps=>
  have e:=x;exact k a _ (.inl rfl) e
 |met f y=>
  have e:=x;exact k a _ (.inl rfl) e
 |ext Z=>obtain⟨p,⟨o,e⟩,st⟩:=x; exact⟨st _ _ p λo q=>k _ _ (.inl rfl) q,⟨o,k _ _ (.inl rfl) e⟩,st⟩
theorem HOk.lt(x:HOk P w H h)(e:H a=Y2 o):a<h.objs.size:=(x a o e).lt
def HOk.fresh(x:HOk P w H h)(e:h.objs.size<=a):H a=none:=by
 cases q:H a with
 |none=>rfl
 |some u=>exact absurd (Qq4 (x.lt q) e) (Qz6 _)
def HOk.kept(x:HOk P w H h)(k:∀b u,h.get? b=Y2 u->h'.get? b=Y2 u):HOk P w H h':=λa o e=>
 (x a o e).stay (λb u _ q=>k b u q) (λ_ q=>q) λ_ _ q=>q
def HOk.laid(x:HOk P w H h)(k:∀b u,h.get? b=Y2 u->h'.get? b=Y2 u)(F:h.objs.size<=a)(new:ObjOk P w (upd H a o) h' a o):HOk P w (upd H a o) h':=λb u e=>by
 have hn:=x.fresh F
 by_cases z:b=a
 ·subst z; rw[qzk]at e; cases e; exact new
 ·rw[qzq z]at e;exact(x b u e).stay (λc v _ q=>k c v q) (λc q=>by rw[qzq (qzd q hn)]; exact q) λc xs q=>by rw[qzq (qzd q hn)]; exact q
end
def Rd(H:Hp)(a:Ya)(u:HO):Prop:=H a=Y2 u\/∃o,H a=Y2 (.frz o u)
def Rd.ok(r:Rd H a u)(x:HOk P w H h):ObjOk P w H h a u:=by
 rcases r with r|⟨o,r⟩
 ·exact x a u r
 ·obtain⟨_,q⟩:=x a _ r;exact q
noncomputable def Mut:Option HO->Prop
 |some (.lst _)=>True
 |some (.dK _)=>True
 |some (.dT _)=>True
 |some (.set _ _)=>True
 |some (.ins _ _ _)=>True
 |some (.ext _)=>True
 |_=>False
section
def HOk.write(ok:HOk P w H h)(O:Mut (H x))(he:e=x\/H e=Y2 (.own x))(k:∀b u,b≠e->h.get? b=Y2 u->h'.get? b=Y2 u)(Z:∃u,h'.get? e=Y2 u)
  (new:ObjOk P w (upd H x o') h' x o'):HOk P w (upd H x o') h':=λb u q=>by
 have J:∀c y,H c=Y2 (.own y)->c≠x:=λc y r z=>by subst z; rw[r]at O; exact O
 have L:∀c xs,H c=Y2 (.tup xs)->c≠x:=λc xs r z=>by subst z; rw[r]at O; exact O
 by_cases Y:b=x
 ·subst Y; rw[qzk]at q; cases q; exact new
 ·rw[qzq Y]at q
  by_cases F:b=e
  ·have q':H b=Y2 (.own x):=by
    rcases he with z|z
    ·exact absurd (F.trans z) Y
    ·rw[F]; exact z
   rw[q]at q'; cases q';obtain⟨v,hv⟩:=Z;exact⟨v,by rw[F]; exact hv⟩
  ·refine(ok b u q).stay (λc v U r=>k c v ?_ r) (λc r=>by rw[qzq (J c b r)]; exact r) λc xs r=>by rw[qzq (L c xs r)]; exact r
   rcases U with rfl|U
   ·exact F
   ·rintro rfl;rcases he with z|z
    ·exact J c b U z
    ·rw[U]at z; cases z; exact Y rfl
end
structure Un (fs ex:List Ya) (H H':Hp) (h h':Heap):Prop where
 keep:∀b o,h.get? b=Y2 o->H b=Y3->b ∉ fs->b ∉ ex->h'.get? b=Y2 o
 slot:∀b o,h.get? b=Y2 o->H b=Y3->b∈fs->b ∉ ex->∃sl,h'.get? b=Y2 { o with slots:=sl }
 free:∀b o,h.get? b=Y2 o->H b=Y3->b ∉ ex->H' b=Y3
 there:∀b o,h.get? b=Y2 o->b ∉ ex->∃o',h'.get? b=Y2 o'
 tups:∀b xs,H b=Y2 (.tup xs)->H' b=Y2 (.tup xs)
 frzs:∀b o u,H b=Y2 (.frz o u)->H' b=Y2 (.frz o u)
 tbls:∀b ps,H b=Y2 (.tbl ps)->∃more,H' b=Y2 (.tbl (ps++more))
section
def Un.any(u:Un fs ex H H1 h h1)(q:h.get? b=Y2 ob)(n:H b=Y3)(z:b ∉ ex):∃sl,h1.get? b=Y2 { ob with slots:=sl }:=by
 by_cases F:b∈fs
 ·exact u.slot b ob q n F z
 ·exact⟨ob.slots,u.keep b ob q n F z⟩
def Un.kept(k:∀b u,h.get? b=Y2 u->h'.get? b=Y2 u):Un fs ex H H h h':=
 ⟨λb ob q _ _ _=>k b ob q,λb ob q _ _ _=>⟨ob.slots,k b ob q⟩,λ_ _ _ n _=>n,λb ob q _=>⟨ob,k b ob q⟩,λ_ _ q=>q,λ_ _ _ q=>q,λ_ ps q=>⟨#[],by rw[q]; simp⟩⟩
def Un.refl:Un fs ex H H h h:=Un.kept λ_ _ q=>q
def Un.laid(k:∀b u,h.get? b=Y2 u->h'.get? b=Y2 u)(F:h.objs.size<=a)(z:H a=Y3):Un fs ex H (upd H a o) h h' where
 keep:=λb u q _ _ _=>k b u q
 slot:=λb u q _ _ _=>⟨u.slots,k b u q⟩
 free:=λb u q n _=>by rw[qzq (Qq1 (Qq4 (Qqe q) F))]; exact n
 there:=λb u q _=>⟨u,k b u q⟩
 tups:=λb xs q=>by rw[qzq (qzd q z)]; exact q
 frzs:=λb u xs q=>by rw[qzq (qzd q z)]; exact q
 tbls:=λb ps q=>⟨#[],by rw[qzq (qzd q z),q]; simp⟩
def Un.write(J:Mut (H x))(Z:e=x\/H e=Y2 (.own x))(k:∀b u,b≠e->h.get? b=Y2 u->h'.get? b=Y2 u)(O:∃u,h'.get? e=Y2 u):Un fs ex H (upd H x o) h h':=by
 have U:∀b,H b=Y3->b≠x:=λb n z=>by subst z; rw[n]at J; exact J
 have Y:∀b,H b=Y3->b≠e:=λb n z=>by
  subst z;rcases Z with r|r
  ·exact U b n r
  ·rw[n]at r; cases r
 have L:∀b u,H b=Y2 u->¬ Mut (Y2 u)->b≠x:=λb u q nm z=>by subst z; rw[q]at J; exact nm J
 refine⟨λb u q n _ _=>k b u (Y b n) q,λb u q n _ _=>⟨u.slots,k b u (Y b n) q⟩,λb u q n _=>by rw[qzq (U b n)]; exact n,λb u q _=>?_,
  λb xs q=>by rw[qzq (L b _ q λz=>z)]; exact q,λb u xs q=>by rw[qzq (L b _ q λz=>z)]; exact q,λb ps q=>⟨#[],by rw[qzq (L b _ q λz=>z),q]; simp⟩⟩
 by_cases F:b=e
 ·subst F; exact O
 ·exact⟨u,k b u F q⟩
end
noncomputable def trk(h:Heap)(H:Hp):List Ya:=(List.range h.objs.size).filter λa=>(H a).isSome
noncomputable def hidT(h:Heap)(H:Hp):Heap:=PySem.W.hideAll h (trk h H)
def qeb(h)(H):(hidT h H).objs.size=h.objs.size:=PySem.W.hideAll_size _ _
def qhd(e:h.get? b=Y2 o)(n:H b=Y3):(hidT h H).get? b=Y2 o:=
 PySem.W.hideAll_get _ e λz=>by
  have q:=(Qxz.mp z).2;rw[n]at q; simp at q
def qm4(e:(hidT h H).get? b=Y2 o):h.get? b=Y2 o/\H b=none:=by
 have F:=PySem.W.of_hideAll (trk h H) e;refine⟨F,?_⟩
 cases q:H b with
 |none=>rfl
 |some x=>
  have J:b∈trk h H:=Qxz.mpr ⟨Qz7.mpr (Qqe F),by simp[q]⟩;have z:(hidT h H).get? b=none:=PySem.W.hideAll_none (trk h H) J;rw[z]at e; cases e
structure Mod (K:Qqq) (mg:Yb->Option Yv) (base:Heap):Prop where
 kin:K.In base
 glob:base.Ns mainGlobals mg
 blt:∃mb,base.Ns builtinsNs mb/\∀x:Yb,x ≠ "__name__"->mb x=Qe x
 nolimit:base.NoLimit
structure Cx where
 prog:Program
 w:Qk
 K:Qqq
 mg:Yb->Option Yv
 base:Heap
 A:Qv
 N:List Yb
 s₀:Qz
 H₀:Hp
 env:Env
 outer:List Env
 stack:List Env
 ex:List Ya
 fn:Yb->Bool
 calm:Bool
 pn:List (Ya×Obj)
 xe:Yv->Qz->Prop
noncomputable def frs(l:List Env):List Ya:=l.filterMap (·.frame)
noncomputable abbrev Cx.fs(X:Cx):List Ya:=frs X.outer
def Vis(sc:Scope)(x:Yb):Prop:=sc.names.lookup x=Y2 .local\/sc.names.lookup x=Y2 .cell\/sc.names.lookup x=Y2 .free
def Loc(sc:Scope)(x:Yb):Prop:=sc.names.lookup x=Y2 .local\/sc.names.lookup x=Y2 .cell
def Look(env:Env)(h:Heap)(m:Yb->Option Yv)(x:Yb)(u:Yv):Prop:=
 (env.kindOf x=Y2 .local/\m x=Y2 u)\/((env.kindOf x=Y2 .cell\/env.kindOf x=Y2 .free)/\∃c,env.cells.lookup x=Y2 c/\h.IsCell c (Y2 u))
structure Cx.Ok (X:Cx):Prop where
 mod:Mod X.K X.mg X.base
 kind:X.env.scope.kind=.function
 glob:X.env.globals=mainGlobals
 blt:X.env.builtins=builtinsNs
 above:X.s₀.heap.objs.size<=X.env.locals
 inj:∀x y c,X.env.cells.lookup x=Y2 c->X.env.cells.lookup y=Y2 c->x=y
 has:∀x,(X.env.kindOf x=Y2 .cell\/X.env.kindOf x=Y2 .free)->∃c,X.env.cells.lookup x=Y2 c
 cab:∀x c,X.fn x=Y0->X.env.cells.lookup x=Y2 c->X.s₀.heap.objs.size<=c
 hd:X.calm=Y0->X.A.handled=Y3
 frames:X.A.frames=Y2 X.stack
 stk:X.stack=X.outer\/(X.stack=X.env::X.outer/\X.env.frame=Y2 X.env.locals)
 exf:∀b∈X.ex,b≠X.env.locals/\∀x c,X.env.cells.lookup x=Y2 c->c≠b
 bs:∀b o,X.base.get? b=Y2 o->X.s₀.heap.get? b=Y2 o/\X.H₀ b=Y3
 bsz:X.base.objs.size<=X.s₀.heap.objs.size
 noex:∀b o,X.base.get? b=Y2 o->b ∉ X.ex
 exfs:∀b∈X.ex,b ∉ X.fs
 funs:X.s₀.heap.FunFrames X.base X.outer
 frf:∀b∈X.fs,X.H₀ b=Y3
structure Inv (X:Cx) (pins:List (Ya×Obj)) (σ:List (Option V)) (H:Hp) (s:Qz):Prop where
 ok:X.Ok
 os:s.os=X.s₀.os
 bare:Zr s.gens
 base:Un X.fs X.ex X.H₀ H X.s₀.heap s.heap
 loc:∃m,s.heap.Ns X.env.locals m/\∀(i:Nat) (x:Yb) (v:V),X.N[i]?=Y2 x->σ[i]?=Y2 (Y2 v)->Vis X.env.scope x->∃u,RelV v u/\Look X.env s.heap m x u
 cell:∀x c,X.env.cells.lookup x=Y2 c->∃v,s.heap.IsCell c v
 free:H X.env.locals=Y3
 freeC:∀x c,X.env.cells.lookup x=Y2 c->H c=Y3
 pin:∀p∈X.pn++pins,s.heap.get? p.1=Y2 p.2/\H p.1=Y3/\p.1≠X.env.locals/\p.1 ∉ X.fs/\∀v,p.2.data≠.cell v
 hok:HOk X.prog X.w H s.heap
 len:σ.length=X.N.length
section
variable {X:Cx}
def Cx.Ok.nofr(ok:X.Ok)(e:X.base.get? b=Y2 o):b ∉ X.fs:=λq=>by
 have:=(ok.funs.mem q).1;rw[e]at this; cases this
theorem Inv.bs(I:Inv X pins σ H s):∀b o,X.base.get? b=Y2 o->s.heap.get? b=Y2 o/\H b=none:=λb o e=>
 ⟨I.base.keep b o (I.ok.bs b o e).1 (I.ok.bs b o e).2 (I.ok.nofr e) (I.ok.noex b o e),I.base.free b o (I.ok.bs b o e).1 (I.ok.bs b o e).2 (I.ok.noex b o e)⟩
def Inv.bk(I:Inv X pins σ H s):∀b o,X.base.get? b=Y2 o->s.heap.get? b=Y2 o:=λb o e=>(I.bs b o e).1
theorem Inv.mod(I:Inv X pins σ H s):Mod X.K X.mg X.base:=I.ok.mod
def Inv.kIn(I:Inv X pins σ H s):X.K.In s.heap:=I.ok.mod.kin.keeps I.bk
theorem Inv.lt(I:Inv X pins σ H s):X.env.locals<s.heap.objs.size:=let ⟨_,hn,_⟩:=I.loc; hn.lt
def Inv.sz(I:Inv X pins σ H s):X.s₀.heap.objs.size<=s.heap.objs.size:=Qzl I.ok.above (Qjb I.lt)
def Inv.nofs(I:Inv X pins σ H s)(h:s.heap.objs.size<=a):a ∉ X.fs:=λz=>by
 obtain⟨_,o,q,_⟩:=I.ok.funs.mem z;exact absurd (Qq4 (Qqe q) (Qzl I.sz h)) (Qz6 _)
def Inv.cne(I:Inv X pins σ H s):∀x c,X.env.cells.lookup x=Y2 c->c≠X.env.locals:=λx c e z=>by
 obtain⟨v,o,J,hd⟩:=I.cell x c e;obtain⟨m,⟨o',es,ep,q,F,_⟩,_⟩:=I.loc;rw[z,q]at J; cases J; rw[F]at hd; cases hd
theorem Inv.funs(I:Inv X pins σ H s):s.heap.FunFrames X.base X.outer:=by
 have all:∀(l:List Env),(∀b∈frs l,b∈X.fs)->X.s₀.heap.FunFrames X.base l->s.heap.FunFrames X.base l:=by
  intro l
  induction l with
  |nil=>intro _ _; trivial
  |cons env r O=>
   intro J Z;obtain⟨hk,⟨L,o,hf,hn,Y,hd⟩,U⟩:=Z;have F:=J L (by unfold frs; rw[Qz3,hf]; exact Qq6);obtain⟨sl,e⟩:=I.base.slot L o Y (I.ok.frf L F) F λz=>I.ok.exfs L z F;exact⟨hk,⟨L,_,hf,hn,e,hd⟩,O (λb q=>J b (by unfold frs; rw[Qz3,hf]; exact Qqt _ q)) U⟩
 exact all X.outer (λ_ q=>q) I.ok.funs
theorem Inv.stack(I:Inv X pins σ H s):s.heap.FunFrames X.base X.stack:=by
 rcases I.ok.stk with e|⟨e,hf⟩
 ·rw[e]; exact I.funs
 ·rw[e];obtain⟨m,hn,_⟩:=I.loc;refine .cons (by rw[I.ok.kind]; decide) hf hn ?_ I.funs;exact Heap.get?_none_of_le (Qzl I.ok.bsz I.ok.above)
def Inv.stkSub(I:Inv X pins σ H s):∀b∈frs X.stack,b∈X.env.locals::X.fs:=λb q=>by
 rcases I.ok.stk with e|⟨e,hf⟩
 ·rw[e]at q; exact Qqt _ q
 ·rw[e]at q;unfold frs at q;rw[Qz3,hf]at q;exact q
def Inv.stkFree(I:Inv X pins σ H s):∀b∈frs X.stack,H b=none:=λb q=>by
 rcases Qqa.mp (I.stkSub b q) with e|q
 ·rw[e]; exact I.free
 ·obtain⟨_,o,F,_⟩:=I.ok.funs.mem q;exact I.base.free b o F (I.ok.frf b q) λz=>I.ok.exfs b z q
def Inv.step{ch:List Ya}(I:Inv X pins σ H s)(L:∀b∈ch,(b∈X.ex\/X.s₀.heap.objs.size<=b)/\b≠X.env.locals/\(∀x c,X.env.cells.lookup x=Y2 c->c≠b)/\∀p∈X.pn++pins,p.1≠b)(keep:∀b o,b≠X.env.locals->b ∉ X.fs->b ∉ ch->s.heap.get? b=Y2 o->H b=Y3->h'.get? b=Y2 o)(slot:∀b o,b≠X.env.locals->b∈X.fs->b ∉ ch->s.heap.get? b=Y2 o->H b=Y3->∃sl,h'.get? b=Y2 { o with slots:=sl })(free:∀b o,b ∉ ch->s.heap.get? b=Y2 o->H b=Y3->H' b=Y3)(there:∀b o,b ∉ ch->s.heap.get? b=Y2 o->∃o',h'.get? b=Y2 o')(tups:∀b xs,H b=Y2 (.tup xs)->H' b=Y2 (.tup xs))(frzs:∀b o u,H b=Y2 (.frz o u)->H' b=Y2 (.frz o u))(tbls:∀b ps,H b=Y2 (.tbl ps)->∃more,H' b=Y2 (.tbl (ps++more)))(ns:∀m,s.heap.Ns X.env.locals m->h'.Ns X.env.locals m)(hok:HOk X.prog X.w H' h')(hg:Zr g'):
  Inv X pins σ H' { s with heap:=h',gens:=g',drawn:=d',toks:=t' }:=by
 have a0:∀b o,X.s₀.heap.get? b=Y2 o->b≠X.env.locals:=λb o e=>Qq1 (Qq4 (Qqe e) I.ok.above);have U:∀b o,X.s₀.heap.get? b=Y2 o->b ∉ X.ex->b ∉ ch:=λb o e F Z=>by
  rcases (L b Z).1 with z|z
  ·exact F z
  ·exact absurd (Qq4 (Qqe e) z) (Qz6 _)
 have O:∀x c,X.env.cells.lookup x=Y2 c->∀v,s.heap.IsCell c v->h'.IsCell c v:=λx c e v ⟨o,ho,hd⟩=>by
  have J:=λz=>(L c z).2.2.1 x c e rfl
  by_cases hc:c∈X.fs
  ·obtain⟨sl,q⟩:=slot c o (I.cne x c e) hc J ho (I.freeC x c e);exact⟨_,q,hd⟩
  ·exact⟨o,keep c o (I.cne x c e) hc J ho (I.freeC x c e),hd⟩
 refine⟨I.ok,I.os,hg,⟨λb o e n Z F=>?_,λb o e n Z F=>?_,λb o e n F=>?_,λb o e F=>?_,λb xs e=>tups b xs (I.base.tups b xs e),λb o xs e=>frzs b o xs (I.base.frzs b o xs e),λb ps e=>?_⟩,?_,λx c e=>?_,?_,λx c e=>?_,λp hp=>?_,hok,I.len⟩
 ·exact keep b o (a0 b o e) Z (U b o e F) (I.base.keep b o e n Z F) (I.base.free b o e n F)
 ·obtain⟨sl,Y⟩:=I.base.slot b o e n Z F;obtain⟨a1,e2⟩:=slot b _ (a0 b o e) Z (U b o e F) Y (I.base.free b o e n F);exact⟨a1,e2⟩
 ·obtain⟨o',Y⟩:=I.base.there b o e F;exact free b o' (U b o e F) Y (I.base.free b o e n F)
 ·obtain⟨o',Y⟩:=I.base.there b o e F;exact there b o' (U b o e F) Y
 ·obtain⟨m1,Y⟩:=I.base.tbls b ps e;obtain⟨m2,e2⟩:=tbls b _ Y;exact⟨m1++m2,by rw[e2,Array.append_assoc]⟩
 ·obtain⟨m,hn,hl⟩:=I.loc;refine⟨m,ns m hn,λi x v Y e2 e3=>?_⟩;obtain⟨u,r,l⟩:=hl i x v Y e2 e3;refine⟨u,r,?_⟩;rcases l with l|⟨k,c,e,z⟩
  ·exact .inl l
  ·exact .inr ⟨k,c,e,O x c e _ z⟩
 ·obtain⟨v,z⟩:=I.cell x c e;exact⟨v,O x c e v z⟩
 ·obtain⟨m,⟨o,_,_,ho,_⟩,_⟩:=I.loc;exact free _ o (λz=>(L _ z).2.1 rfl) ho I.free
 ·obtain⟨v,o,ho,hd⟩:=I.cell x c e;exact free c o (λz=>(L c z).2.2.1 x c e rfl) ho (I.freeC x c e)
 ·obtain⟨e,n,ne,nf,d⟩:=I.pin p hp;have J:=λz=>(L p.1 z).2.2.2 p hp rfl;exact⟨keep p.1 p.2 ne nf J e n,free p.1 p.2 J e n,ne,nf,d⟩
def Inv.un(I:Inv X pins σ H s)(u:Un X.fs [] H H' s.heap h')(hok:HOk X.prog X.w H' h'):Inv X pins σ H' { s with heap:=h',toks:=t' }:=by
 obtain⟨m,⟨o,es,ep,O,r⟩,_⟩:=id I.loc;obtain⟨sl,Y⟩:=u.any O I.free (by simp)
 exact I.step (ch:=[]) (λ_ z=>nomatch z) (λb o _ F _ e n=>u.keep b o e n F (by simp)) (λb o _ F _ e n=>u.slot b o e n F (by simp)) (λb o _ e n=>u.free b o e n (by simp)) (λb o _ e=>u.there b o e (by simp)) u.tups u.frzs u.tbls (λm' U=>by
  obtain⟨o',J,L,q,r'⟩:=U;rw[O]at q; cases q
  exact⟨_,J,L,Y,r'⟩) hok I.bare
def Inv.call(I:Inv X pins σ H s)(u:Un (frs X.stack) ch H H' s.heap h')(hok:HOk X.prog X.w H' h')(hg:Zr g')(J:∀b∈ch,(b∈X.ex\/X.s₀.heap.objs.size<=b)/\b≠X.env.locals/\(∀x c,X.env.cells.lookup x=Y2 c->c≠b)/\∀p∈X.pn++pins,p.1≠b):
  Inv X pins σ H' { s with heap:=h',gens:=g',drawn:=d',toks:=t' }:=by
 obtain⟨m,⟨o,es,ep,Y,r⟩,_⟩:=id I.loc;obtain⟨sl,L⟩:=u.any Y I.free λz=>(J _ z).2.1 rfl
 exact I.step J (λb o L hb q e n=>u.keep b o e n (λz=>(Qqa.mp (I.stkSub b z)).elim L hb) q) (λb o _ _ q e n=>u.any e n q) (λb o q e n=>u.free b o e n q) (λb o q e=>u.there b o e q) u.tups u.frzs u.tbls (λm' Z=>by
  obtain⟨o',O,U,F,r'⟩:=Z;rw[Y]at F; cases F
  exact⟨_,O,U,L,r'⟩) hok hg
def Inv.turned(I:Inv X pins σ H s)(k:∀b o,b≠it->s.heap.get? b=Y2 o->h'.get? b=Y2 o)(U:H it=Y3)(L:it≠X.env.locals)(h1:it∈X.ex\/X.s₀.heap.objs.size<=it)(h2:∀x c,X.env.cells.lookup x=Y2 c->c≠it)(h3:∀p∈X.pn++pins,p.1≠it):Inv X pins σ H { s with heap:=h',toks:=t' }:=by
 have J:∀b u,H b=Y2 u->b≠it:=λb u e z=>by rw[z,U]at e; cases e
 refine I.step (ch:=[it]) (λb Z=>?_) (λb o _ _ F e _=>k b o (λz=>F (by simp[z])) e) (λb o _ _ F e _=>⟨o.slots,k b o (λz=>F (by simp[z])) e⟩) (λ_ _ _ _ n=>n)
  (λb o F e=>⟨o,k b o (λz=>F (by simp[z])) e⟩) (λ_ _ e=>e) (λ_ _ _ e=>e) (λb ps e=>⟨#[],by rw[e]; simp⟩) (λm Y=>?_) (λb u e=>?_) I.bare
 ·have e:b=it:=by simpa using Z
  subst e;exact⟨h1,L,h2,h3⟩
 ·obtain⟨o,es,ep,O,r⟩:=Y;exact⟨o,es,ep,k _ o (Ne.symm L) O,r⟩
 ·refine(I.hok b u e).stay (λc v F q=>k c v ?_ q) (λ_ q=>q) λ_ _ q=>q;rcases F with z|z
  ·rw[z]; exact J b u e
  ·exact J c _ z
def Inv.tok(I:Inv X pins σ H s)(t):Inv X pins σ H { s with toks:=t }:=I.un Un.refl I.hok
theorem Inv.kept(I:Inv X pins σ H s)(k:∀b u,s.heap.get? b=Y2 u->h'.get? b=Y2 u):Inv X pins σ H { s with heap:=h',toks:=t' }:=I.un (Un.kept k) (I.hok.kept k)
theorem Inv.laid(I:Inv X pins σ H s)(k:∀b u,s.heap.get? b=Y2 u->h'.get? b=Y2 u)(q:s.heap.objs.size<=a)(new:ObjOk X.prog X.w (upd H a o) h' a o):
  Inv X pins σ (upd H a o) { s with heap:=h',toks:=t' }:=I.un (Un.laid k q (I.hok.fresh q)) (I.hok.laid k q new)
theorem Inv.write(I:Inv X pins σ H s)(z:Mut (H x))(F:e=x\/H e=Y2 (.own x))(k:∀b u,b≠e->s.heap.get? b=Y2 u->h'.get? b=Y2 u)(q:∃u,h'.get? e=Y2 u)(new:ObjOk X.prog X.w (upd H x o) h' x o):Inv X pins σ (upd H x o) { s with heap:=h',toks:=t' }:=I.un (Un.write z F k q) (I.hok.write z F k q new)
def Inv.pins_of(I:Inv X pins σ H s)(h:∀p∈q,s.heap.get? p.1=Y2 p.2/\H p.1=Y3/\p.1≠X.env.locals/\p.1 ∉ X.fs/\∀v,p.2.data≠.cell v):Inv X q σ H s:=
 ⟨I.ok,I.os,I.bare,I.base,I.loc,I.cell,I.free,I.freeC,λp F=>(Qqh.mp F).elim (λz=>I.pin p (Qzy _ z)) (h p),I.hok,I.len⟩
def qad{N:List Yb}(q:N.Nodup){i:Nat}(a:N[i]?=Y2 x)(b:N[j]?=Y2 x):i=j:=by
 obtain⟨h1,F⟩:=Qqk.mp a;obtain⟨h2,z⟩:=Qqk.mp b;exact(List.getElem_inj q).mp (F.trans z.symm)
def qv0(I:Inv X pins σ H s)(hN:X.N.Nodup)(hi:X.N[i]?=Y2 x)(O:Loc X.env.scope x)(r:RelV v u)(h:∀s',Inv X pins (σ.set i (Y2 v)) H s'->(∃a,Heap.SameBut a s.heap s'.heap/\(a=X.env.locals\/X.env.cells.lookup x=Y2 a))->Q () s')(hf:X.fn x=Y0\/X.env.scope.names.lookup x=Y2 .local):wpAny M A (storeName X.env x u) Q E s:=by
 obtain⟨m,hn,hl⟩:=id I.loc;have a4:(X.env.scope.kind==.class||(X.env.scope.kind==.module&&X.env.locals != X.env.globals))=false:=by rw[I.ok.kind]; rfl
 have a0:i<σ.length:=by rw[I.len]; exact(Qqk.mp hi).1
 have cne:=I.cne;have tracked:∀{a:Ya}{h':Heap},(∃o,s.heap.get? a=Y2 o/\H a=Y3)->Heap.SameBut a s.heap h'->HOk X.prog X.w H h':=λ{a h'} ha F b ob e=>by
  obtain⟨_,_,U⟩:=ha;refine(I.hok b ob e).stay (λc w' L q=>(F.2 c ?_).trans q) (λ_ q=>q) λ_ _ q=>q;rintro rfl;rcases L with rfl|L
  ·rw[U]at e; cases e
  ·rw[U]at L; cases L
 rcases O with Z|Z
 ·refine wpAny_storeName_local Z hn (λh' a8 F=>?_) a4;obtain⟨oL,_,_,a7,_⟩:=id hn;refine h _ ⟨I.ok,I.os,I.bare,⟨λb o e n hb O=>?_,λb o e n hb O=>?_,I.base.free,λb o e O=>?_,I.base.tups,I.base.frzs,I.base.tbls⟩,⟨_,a8,λj y v' J Y e3=>?_⟩,λy c e=>?_,I.free,I.freeC,λp hp=>?_,tracked ⟨oL,a7,I.free⟩ F,by simpa using I.len⟩ ⟨_,F,.inl rfl⟩
  ·exact(F.2 b (Qq1 (Qq4 (Qqe e) I.ok.above))).trans (I.base.keep b o e n hb O)
  ·obtain⟨sl,J⟩:=I.base.slot b o e n hb O;exact⟨sl,(F.2 b (Qq1 (Qq4 (Qqe e) I.ok.above))).trans J⟩
  ·obtain⟨o',J⟩:=I.base.there b o e O;exact⟨o',(F.2 b (Qq1 (Qq4 (Qqe e) I.ok.above))).trans J⟩
  ·by_cases hj:j=i
   ·subst hj;rw[hi]at J; cases J;rw[Qq9 a0]at Y;cases Y;exact⟨u,r,.inl ⟨Z,by simp⟩⟩
   ·rw[Qqs (Ne.symm hj)]at Y;obtain⟨u',r',q⟩:=hl j y v' J Y e3;refine⟨u',r',?_⟩;rcases q with⟨k,e⟩|⟨k,c,e,z⟩
    ·refine .inl ⟨k,?_⟩;have:y≠x:=λe=>hj (qad hN J (e▸hi));simp[this,e]
    ·exact .inr ⟨k,c,e,z.sameBut F (cne y c e)⟩
  ·obtain⟨w',z⟩:=I.cell y c e;exact⟨w',z.sameBut F (cne y c e)⟩
  ·obtain⟨e,n,ne,nf,d⟩:=I.pin p hp;exact⟨(F.2 p.1 ne).trans e,n,ne,nf,d⟩
 ·have a1:X.fn x=true:=by
   rcases hf with z|z
   ·exact z
   ·rw[z]at Z; cases Z
  obtain⟨c,L⟩:=I.ok.has x (.inl Z);obtain⟨w',z⟩:=I.cell x c L;refine wpAny_storeName_cell I.ok.kind Z L z (λh' a6 F=>?_);obtain⟨oc,a3,a2⟩:=id z;refine h { s with heap:=h' } ⟨I.ok,I.os,I.bare,⟨λb o e n hb O=>?_,λb o e n hb O=>?_,I.base.free,λb o e O=>?_,I.base.tups,I.base.frzs,I.base.tbls⟩,⟨m,hn.sameBut F (Ne.symm (cne x c L)),λj y v' J Y e3=>?_⟩,λy c' e=>?_,I.free,I.freeC,λp hp=>?_,tracked ⟨oc,a3,I.freeC x c L⟩ F,by simpa using I.len⟩ ⟨c,F,.inr L⟩
  ·exact(F.2 b (Qq1 (Qq4 (Qqe e) (I.ok.cab x c a1 L)))).trans (I.base.keep b o e n hb O)
  ·obtain⟨sl,J⟩:=I.base.slot b o e n hb O;exact⟨sl,(F.2 b (Qq1 (Qq4 (Qqe e) (I.ok.cab x c a1 L)))).trans J⟩
  ·obtain⟨o',J⟩:=I.base.there b o e O;exact⟨o',(F.2 b (Qq1 (Qq4 (Qqe e) (I.ok.cab x c a1 L)))).trans J⟩
  ·by_cases hj:j=i
   ·subst hj;rw[hi]at J; cases J;rw[Qq9 a0]at Y;cases Y;exact⟨u,r,.inr ⟨.inl Z,c,L,a6⟩⟩
   ·rw[Qqs (Ne.symm hj)]at Y;obtain⟨u',r',q⟩:=hl j y v' J Y e3;refine⟨u',r',?_⟩;rcases q with q|⟨k,c',e,z'⟩
    ·exact .inl q
    ·refine .inr ⟨k,c',e,z'.sameBut F ?_⟩;rintro rfl;exact hj (qad hN J (I.ok.inj _ _ _ e L▸hi))
  ·by_cases a5:c'=c
   ·subst a5; exact⟨_,a6⟩
   ·obtain⟨w2,z2⟩:=I.cell y c' e;exact⟨w2,z2.sameBut F a5⟩
  ·obtain⟨e,n,ne,nf,d⟩:=I.pin p hp;refine⟨(F.2 p.1 ?_).trans e,n,ne,nf,d⟩;intro q;rw[q,a3]at e;have q':=Option.some.inj e;exact d w' (by rw[<- q']; exact a2)
def qy8(I:Inv X pins σ H s)(J:X.N.Nodup)(z:X.N[i]?=Y2 x)(q:Loc X.env.scope x)(r:RelV v u)(h:∀s',Inv X pins (σ.set i (Y2 v)) H s'->Q () s')(F:X.fn x=Y0\/X.env.scope.names.lookup x=Y2 .local):wpAny M A (storeName X.env x u) Q E s:=
 qv0 I J z q r (λs' L _=>h s' L) F
def Inv.call'(I:Inv X pins σ H s)(F:s'.os=s.os)(u:Un (frs X.stack) ch H H' s.heap s'.heap)(hok:HOk X.prog X.w H' s'.heap)(J:Zr s'.gens)(q:∀b∈ch,(b∈X.ex\/X.s₀.heap.objs.size<=b)/\b≠X.env.locals/\(∀x c,X.env.cells.lookup x=Y2 c->c≠b)/\∀p∈X.pn++pins,p.1≠b):Inv X pins σ H' s':=by
 obtain⟨h',L,O,z,o'⟩:=s';have e:=F;subst e;exact I.call u hok J q
end
abbrev XK:=Yv->Option Ya->Hp->Prop
abbrev St:=List (Option V)
abbrev VK:=V->Hp->Prop
abbrev TE:=St->Hp->VK->Prop
abbrev TT:=St->Hp->(Bool->Hp->Prop)->Prop
abbrev TA:=St->Hp->(List V->Hp->Prop)->Prop
structure Ends where
 nx:St->Hp->Prop
 rt:VK
 bk:St->Hp->Prop:=λ_ _=>False
 ct:St->Hp->Prop:=λ_ _=>False
abbrev TS:=Ends->St->Hp->Prop
def EP(X:Cx)(pins:List (Ya×Obj))(σ:St)(Q:VK)(u:Yv)(s':Qz):Prop:=∃v H',Inv X pins σ H' s'/\RelV v u/\Q v H'
def TP(X:Cx)(pins:List (Ya×Obj))(σ:St)(Q:Bool->Hp->Prop)(b:Bool)(s':Qz):Prop:=∃H',Inv X pins σ H' s'/\Q b H'
def AP(X:Cx)(pins:List (Ya×Obj))(σ:St)(Q:List V->Hp->Prop)(us:List Yv)(s':Qz):Prop:=∃vs H',Inv X pins σ H' s'/\Vals vs us/\Q vs H'
def SP(X:Cx)(pins:List (Ya×Obj))(D:Ends)(f:Flow)(s':Qz):Prop:=
 match f with
 |.next=>∃σ' H',Inv X pins σ' H' s'/\D.nx σ' H'
 |.brk=>∃σ' H',Inv X pins σ' H' s'/\D.bk σ' H'
 |.cont=>∃σ' H',Inv X pins σ' H' s'/\D.ct σ' H'
 |.ret u=>∃v σ' H',Inv X pins σ' H' s'/\RelV v u/\D.rt v H'
def PE(X:Cx)(e:Qj)(t:TE):Prop:=
 ∀(pins:List (Ya×Obj)) (s:Qz) (σ:St) (H:Hp) (Q:VK),Inv X pins σ H s->t σ H Q->wpAny (model X.prog X.w) X.A (Qa e X.env) (EP X pins σ Q) X.xe s
def PT(X:Cx)(e:Qj)(t:TT):Prop:=
 ∀(pins:List (Ya×Obj)) (s:Qz) (σ:St) (H:Hp) (Q:Bool->Hp->Prop),Inv X pins σ H s->t σ H Q->wpAny (model X.prog X.w) X.A (isTrue e X.env (Qa e X.env)) (TP X pins σ Q) X.xe s
def PW(X:Cx)(e:Qj)(t:TT):Prop:=
 ∀(whole:Sem Yv) (pins:List (Ya×Obj)) (s:Qz) (σ:St) (H:Hp) (Q:Bool->Hp->Prop),Inv X pins σ H s->t σ H Q->wpAny (model X.prog X.w) X.A (isTrue e X.env whole) (TP X pins σ Q) X.xe s
def PW.pt(h:PW X e t):PT X e t:=h _
def PA(X:Cx)(es:List Qj)(t:TA):Prop:=
 ∀(pos:Pos) (pins:List (Ya×Obj)) (s:Qz) (σ:St) (H:Hp) (Q:List V->Hp->Prop),Inv X pins σ H s->t σ H Q->wpAny (model X.prog X.w) X.A (spliced (backTo pos (starEach es X.env))) (AP X pins σ Q) X.xe s
def PS(X:Cx)(st:Stmt)(t:TS):Prop:=
 ∀(pins:List (Ya×Obj)) (s:Qz) (σ:St) (H:Hp) (D:Ends),Inv X pins σ H s->t D σ H->wpAny (model X.prog X.w) X.A (exec st X.env) (SP X pins D) X.xe s
def PSs(X:Cx)(st:List Stmt)(t:TS):Prop:=
 ∀(pins:List (Ya×Obj)) (s:Qz) (σ:St) (H:Hp) (D:Ends),Inv X pins σ H s->t D σ H->wpAny (model X.prog X.w) X.A (execs st X.env) (SP X pins D) X.xe s
def thn{t:Sem α}{Q q:α->Qz->Prop}(h:wpAny M A t Q E s)(z:∀a s,Q a s->q a s):wpAny M A t q E s:=Ql h z λ_ _ x=>x
section
def bin(ha:PE X a O)(hb:PE X b tb){R:V->V->Hp->Prop}(I:Inv X q z H s)(h:O z H λx H1=>tb z H1 λy H2=>R x y H2){Q:α->Qz->Prop}{f:Yv->Yv->Sem α}(hf:∀v u L x y H2,Inv X q z H2 L->RelV x v->RelV y u->R x y H2->wpAny (model X.prog X.w) X.A (f v u) Q X.xe L):
  wpAny (model X.prog X.w) X.A (Qa a X.env) (λv J=>wpAny (model X.prog X.w) X.A (Qa b X.env) (λu F=>wpAny (model X.prog X.w) X.A (f v u) Q X.xe F) X.xe J) X.xe s:=by
 refine thn (ha q s z H _ I h) λv U ⟨x,H1,I1,Z,q1⟩=>?_;refine thn (hb q U z H1 _ I1 q1) λu L ⟨y,H2,I2,Y,q2⟩=>?_;exact hf v u L x y H2 I2 Z Y q2
noncomputable def tVar(i:Nat):TE:=λσ H Q=>∃v,σ[i]?=Y2 (Y2 v)/\Q v H
noncomputable def tC(v:V):TE:=λ_ H Q=>Q v H
def pe_var(Z:X.N[i]?=Y2 x)(O:Vis X.env.scope x)(hd:(x==("__debug__" : Yb))=false:=by decide)(J:(x==("__classdict__" : Yb))=false:=by decide):PE X (.Name x pos) (tVar i):=by
 intro pins s σ H Q I h;obtain⟨v,e,h⟩:=h;obtain⟨m,hn,Y⟩:=I.loc;obtain⟨u,r,l⟩:=Y i x v Z e O;have F:EP X pins σ Q u s:=⟨v,H,I,r,h⟩
 rcases l with⟨z,U⟩|⟨z,c,L,q⟩
 ·exact wpAny_Name (wpAny_loadName_local I.ok.kind z hn U F) hd
 ·rcases z with z|z
  ·exact wpAny_Name (wpAny_loadName_cell I.ok.kind z L q F) hd
  ·exact wpAny_Name (wpAny_loadName_free I.ok.kind z L q F J) hd
def pe_int{i j pos}:PE X (.Constant (.int i) j pos) (tC (.int i)):=λ_ _ _ H _ I h=>wpAny_Constant_int ⟨.int i,H,I.tok _,⟨_,rfl⟩,h⟩
def pe_bl{b j pos}:PE X (.Constant (.bool b) j pos) (tC (.bl b)):=λ_ _ _ H _ I h=>Constant_bool ⟨.bl b,H,I,rfl,h⟩
def pe_non{j pos}:PE X (.Constant .none j pos) (tC .non):=λ_ _ _ H _ I h=>Constant_none ⟨.non,H,I,rfl,h⟩
def pe_str{x j pos}:PE X (.Constant (.str x) j pos) (tC (.str x)):=λ_ _ _ H _ I h=>Calls.Constant_str ⟨.str x,H,I.tok _,⟨_,rfl⟩,h⟩
def Gl(X:Cx)(x:Yb):Prop:=X.env.kindOf x=Y2 .globalImplicit
def qyb(I:Inv X q z H s)(J:Gl X x)(F:X.mg x=Y2 u)(h:Q u s)(hd:(x==("__debug__" : Yb))=false:=by decide):wpAny (model X.prog X.w) X.A (Qa (.Name x pos) X.env) Q E s:=
 Calls.Name_function_global I.ok.kind J (Calls.loadGlobal_global (by rw[I.ok.glob]; exact I.mod.glob.keeps I.bk) F h) hd
def qx8(I:Inv X q z H s)(O:Gl X x)(L:X.mg x=Y3)(F:Qe x=Y2 u)(h:Q u s)(J:x ≠ "__name__":=by decide)(hd:(x==("__debug__" : Yb))=false:=by decide):wpAny (model X.prog X.w) X.A (Qa (.Name x pos) X.env) Q E s:=by
 obtain⟨U,h1,h2⟩:=I.mod.blt;exact Calls.Name_function_global I.ok.kind O (Calls.loadGlobal_builtin (by rw[I.ok.glob]; exact I.mod.glob.keeps I.bk) L (by rw[I.ok.blt]; exact h1.keeps I.bk) ((h2 x J).trans F) h) hd
def qyj(z:Gl X x)(q:X.mg x=Y2 u)(r:RelV v u)(hd:(x==("__debug__" : Yb))=false:=by decide):PE X (.Name x pos) (tC v):=
 λ_ _ _ H _ I h=>qyb I z q ⟨v,H,I,r,h⟩ hd
def qjn(J:Gl X x)(F:X.mg x=Y3)(q:Qe x=Y2 u)(r:RelV v u)(z:x ≠ "__name__":=by decide)(hd:(x==("__debug__" : Yb))=false:=by decide):PE X (.Name x pos) (tC v):=
 λ_ _ _ H _ I h=>qx8 I J F q ⟨v,H,I,r,h⟩ z hd
def PC(X:Cx)(op:CmpOp)(a b:Qj)(t:TE):Prop:=
 ∀(pins:List (Ya×Obj)) (s:Qz) (σ:St) (H:Hp) (Q:VK),Inv X pins σ H s->t σ H Q->
  wpAny (model X.prog X.w) X.A (Qa a X.env) (λv s₁=>wpAny (model X.prog X.w) X.A (Qa b X.env) (λu s₂=>wpAny (model X.prog X.w) X.A (Qi op v u) (EP X pins σ Q) X.xe s₂) X.xe s₁) X.xe s
noncomputable def tB(t:TE):TT:=λσ H Q=>t σ H λx H1=>∃c,x=.bl c/\Q c H1
def qdb(h:PC X q a b t)(F:Zn q b=Y1):PE X (.Compare a [q] [b] pos) t:=λpins s σ H Q I z=>wpAny_Compare1 (h pins s σ H Q I z) F
def qc9(h:PC X z a b t)(F:Zn z b=Y1):PT X (.Compare a [z] [b] pos) (tB t):=by
 intro pins s σ H Q I O;refine wpAny_isTrue_Compare1 (thn (h pins s σ H _ I O) λv s1 F=>thn F λu Z h2=>thn h2 λc Y ⟨x,H1,U,J,L⟩=>?_) F;obtain⟨d,rfl,q⟩:=L;cases J;exact Qg ⟨H1,U,q⟩
noncomputable def tAnd(t u:TT):TT:=λσ H Q=>t σ H λc H1=>if c=Y0 then u σ H1 Q else Q Y1 H1
noncomputable def tOr(t u:TT):TT:=λσ H Q=>t σ H λc H1=>if c=Y0 then Q Y0 H1 else u σ H1 Q
noncomputable def tNot(t:TT):TT:=λσ H Q=>t σ H λc H1=>Q (!c) H1
def ql6(q:PT X a tA):PW X (.BoolOp .And [a] pos) tA:=by
 intro z pins s σ H Q I h;refine isTrue_and (thn (q pins s σ H Q I h) λc F e=>?_)
 cases c with
 |true=>exact isTrue_and_nil e
 |false=>exact e
def pw_or1(q:PT X a tA):PW X (.BoolOp .Or [a] pos) tA:=by
 intro z pins s σ H Q I h;refine isTrue_or (thn (q pins s σ H Q I h) λc F e=>?_)
 cases c with
 |false=>exact isTrue_or_nil e
 |true=>exact e
def pw_and(O:PT X a tA)(L:PW X (.BoolOp .And (b::rest) pos) tB'):PW X (.BoolOp .And (a::b::rest) pos) (tAnd tA tB'):=by
 intro F pins s σ H Q I h;refine isTrue_and (thn (O pins s σ H _ I h) λc J ⟨H1,z,q⟩=>?_)
 cases c with
 |true=>exact L F pins J σ H1 Q z q
 |false=>exact⟨H1,z,q⟩
def pw_or(O:PT X a tA)(L:PW X (.BoolOp .Or (b::rest) pos) tB'):PW X (.BoolOp .Or (a::b::rest) pos) (tOr tA tB'):=by
 intro F pins s σ H Q I h;refine isTrue_or (thn (O pins s σ H _ I h) λc J ⟨H1,z,q⟩=>?_)
 cases c with
 |true=>exact⟨H1,z,q⟩
 |false=>exact L F pins J σ H1 Q z q
def pt_not(q:PT X a tA):PT X (.UnaryOp .Not a pos) (tNot tA):=by
 intro pins s σ H Q I h;exact isTrue_not (q pins s σ H (λc H1=>Q (!c) H1) I h)
noncomputable def tAndV(ta tb:TE):TE:=λσ H Q=>ta σ H λx H1=>∃c,x=.bl c/\if c=Y0 then tb σ H1 Q else Q (.bl Y1) H1
noncomputable def tOrV(ta tb:TE):TE:=λσ H Q=>ta σ H λx H1=>∃c,x=.bl c/\if c=Y0 then Q (.bl Y0) H1 else tb σ H1 Q
noncomputable def tNotV(ta:TE):TE:=λσ H Q=>ta σ H λx H1=>∃c,x=.bl c/\Q (.bl (!c)) H1
def qid{op}(h:PE X a t):PE X (.BoolOp op [a] pos) t:=λpins s σ H Q I q=>BoolOp_one (h pins s σ H Q I q)
def pe_and(O:PE X a ta)(L:PE X (.BoolOp .And (b::rest) pos) tb):PE X (.BoolOp .And (a::b::rest) pos) (tAndV ta tb):=by
 intro pins s σ H Q I h;refine BoolOp_and (thn (O pins s σ H _ I h) λv F ⟨x,H1,z,J,q⟩=>?_);obtain⟨c,rfl,q⟩:=q;cases J;refine Qg ?_
 cases c with
 |true=>exact L pins F σ H1 Q z q
 |false=>exact⟨.bl Y1,H1,z,rfl,q⟩
def pe_or(O:PE X a ta)(L:PE X (.BoolOp .Or (b::rest) pos) tb):PE X (.BoolOp .Or (a::b::rest) pos) (tOrV ta tb):=by
 intro pins s σ H Q I h;refine BoolOp_or (thn (O pins s σ H _ I h) λv F ⟨x,H1,z,J,q⟩=>?_);obtain⟨c,rfl,q⟩:=q;cases J;refine Qg ?_
 cases c with
 |false=>exact L pins F σ H1 Q z q
 |true=>exact⟨.bl Y0,H1,z,rfl,q⟩
def pe_not(F:PE X a ta):PE X (.UnaryOp .Not a pos) (tNotV ta):=by
 intro pins s σ H Q I h;refine UnaryOp_ (thn (F pins s σ H _ I h) λv L ⟨x,H1,J,z,q⟩=>?_);obtain⟨c,rfl,q⟩:=q;cases z;exact not_of (Qg ⟨.bl (!c),H1,J,rfl,q⟩)
noncomputable def tIf(t:TT)(ta tb:TE):TE:=λσ H Q=>t σ H λc H1=>if c=Y0 then ta σ H1 Q else tb σ H1 Q
def qg2(J:PT X c tA)(O:PE X a ta)(L:PE X b tb):PE X (.IfExp c a b pos) (tIf tA ta tb):=by
 intro pins s σ H Q I h;refine wpAny_IfExp (thn (J pins s σ H _ I h) λd q ⟨H1,F,z⟩=>?_)
 cases d with
 |true=>exact O pins q σ H1 Q F z
 |false=>exact L pins q σ H1 Q F z
end
def SqL(K:Qqq)(H:Hp)(a:Ya)(xs:List V):Prop:=
 Rd H a (.lst xs)\/
  ∃(o:Obj) (its:Array Yv) (n:Nat),K.lookup a=Y2 o/\o.cls=.type "list"/\o.dict=Y3/\o.data=.seq its n/\its.size<=sizeLine/\Vals xs its.toList
def SqT(K:Qqq)(H:Hp)(a:Ya)(xs:List V):Prop:=
 Rd H a (.tup xs)\/
  ∃(o:Obj) (its:Array Yv) (n:Nat),K.lookup a=Y2 o/\o.cls=.type "tuple"/\o.data=.seq its n/\its.size<=sizeLine/\Vals xs its.toList
noncomputable def absV:Yv->Option V
 |.none=>Y2 .non
 |.bool b=>Y2 (.bl b)
 |.int i _=>Y2 (.int i)
 |.str x _=>Y2 (.str x)
 |.bytes b _=>Y2 (.byt b)
 |.float b _=>Y2 (.flt b)
 |.ref a=>Y2 (.ref a)
 |.type n=>Y2 (.ty n)
 |_=>Y3
def RelV.abs(r:RelV x u):absV u=Y2 x:=by
 cases x with
 |non=>cases r; rfl
 |bl _=>cases r; rfl
 |int _=>obtain⟨t,rfl⟩:=r; rfl
 |str _=>obtain⟨t,rfl⟩:=r; rfl
 |byt _=>obtain⟨t,rfl⟩:=r; rfl
 |flt _=>obtain⟨t,rfl⟩:=r; rfl
 |ref _=>cases r; rfl
 |ty _=>cases r; rfl
theorem RelV.inj(r:RelV x u)(q:RelV y u):x=y:=Option.some.inj (r.abs.symm.trans q.abs)
theorem Vals.inj:∀{xs ys}{us},Vals xs us->Vals ys us->xs=ys
 |_,_,_,.nil,.nil=>rfl
 |_,_,_,.cons r t,.cons r' t'=>by rw[r.inj r',Vals.inj t t']
section
def SqL.of{K:Qqq}(h:H a=Y2 (.lst xs)):SqL K H a xs:=.inl (.inl h)
def SqT.of{K:Qqq}(h:H a=Y2 (.tup xs)):SqT K H a xs:=.inl (.inl h)
def Inv.list(I:Inv X pins σ H s)(h:SqL X.K H a xs):∃q:List Yv,Vals xs q/\PlainL s.heap a q.toArray/\xs.length<=sizeLine:=by
 rcases h with h|⟨o,q,n,J,L,hd,F,O,r⟩
 ·obtain⟨z,q,n,r,e⟩:=h.ok I.hok;exact⟨q,r,⟨_,n,e,rfl,rfl,rfl⟩,z⟩
 ·refine⟨q.toList,r,⟨o,n,I.kIn a o J,L,hd,by simpa using F⟩,?_⟩;have e:=r.length;simp only[Qzf]at e;omega
def Inv.tuple(I:Inv X pins σ H s)(h:SqT X.K H a xs):∃q:List Yv,Vals xs q/\IsTup s.heap a q.toArray/\xs.length<=sizeLine:=by
 rcases h with h|⟨o,q,n,J,L,F,O,r⟩
 ·obtain⟨z,q,r,p⟩:=h.ok I.hok;exact⟨q,r,p,z⟩
 ·refine⟨q.toList,r,⟨o,I.kIn a o J,L,n,by simpa using F⟩,?_⟩;have e:=r.length;simp only[Qzf]at e;omega
def Inv.list_inj(I:Inv X pins σ H s)(h:SqL X.K H a xs)(h':SqL X.K H a ys):xs=ys:=by
 obtain⟨q,r,⟨o,n,e,_,_,d⟩,_⟩:=I.list h;obtain⟨its',r',⟨o',L,z,_,_,F⟩,_⟩:=I.list h';rw[e]at z; cases z;rw[d]at F;injection F with J _;have:q=its':=by simpa using congrArg Array.toList J
 subst this;exact r.inj r'
def Inv.tuple_inj(I:Inv X pins σ H s)(h:SqT X.K H a xs)(h':SqT X.K H a ys):xs=ys:=by
 obtain⟨q,r,⟨o,e,_,n,d⟩,_⟩:=I.tuple h;obtain⟨its',r',⟨o',z,_,L,F⟩,_⟩:=I.tuple h';rw[e]at z; cases z;rw[d]at F;injection F with J _;have:q=its':=by simpa using congrArg Array.toList J
 subst this;exact r.inj r'
end
noncomputable abbrev Cx.wish(X:Cx)(E:Yv->Qz->Prop):Cx:={ X with xe:=E }
noncomputable abbrev Cx.nox(X:Cx):Cx:=X.wish λ_ _=>False
theorem Cx.Ok.wish{X:Cx}(ok:X.Ok)(E:Yv->Qz->Prop):(X.wish E).Ok:=
 ⟨ok.mod,ok.kind,ok.glob,ok.blt,ok.above,ok.inj,ok.has,ok.cab,ok.hd,ok.frames,ok.stk,ok.exf,ok.bs,ok.bsz,ok.noex,ok.exfs,ok.funs,ok.frf⟩
def Cx.Ok.unwish{X:Cx}(ok:(X.wish E).Ok):X.Ok:=
 ⟨ok.mod,ok.kind,ok.glob,ok.blt,ok.above,ok.inj,ok.has,ok.cab,ok.hd,ok.frames,ok.stk,ok.exf,ok.bs,ok.bsz,ok.noex,ok.exfs,ok.funs,ok.frf⟩
section
theorem Inv.wish(I:Inv X pins σ H s)(E:Yv->Qz->Prop):Inv (X.wish E) pins σ H s:=⟨I.ok.wish E,I.os,I.bare,I.base,I.loc,I.cell,I.free,I.freeC,I.pin,I.hok,I.len⟩
theorem Inv.unwish(I:Inv (X.wish E) pins σ H s):Inv X pins σ H s:=⟨I.ok.unwish,I.os,I.bare,I.base,I.loc,I.cell,I.free,I.freeC,I.pin,I.hok,I.len⟩
theorem SP.unwish(h:SP (X.wish E) pins D f s'):SP X pins D f s':=by
 cases f with
 |next=>obtain⟨z,H',I,q⟩:=h; exact⟨z,H',I.unwish,q⟩
 |brk=>obtain⟨z,H',I,q⟩:=h; exact⟨z,H',I.unwish,q⟩
 |cont=>obtain⟨z,H',I,q⟩:=h; exact⟨z,H',I.unwish,q⟩
 |ret u=>obtain⟨v,z,H',I,r,q⟩:=h; exact⟨v,z,H',I.unwish,r,q⟩
theorem PSs.nox{st:List Stmt}(h:PSs X.nox st t):PSs X st t:=λpins s σ H D I F=>
 Ql (h pins s σ H D (I.wish _) F) (λ_ _ q=>q.unwish) λ_ _ z=>False.elim z
end
section
variable {X:Cx}{st:Stmt}{rest:List Stmt}{t u:TS}
noncomputable def tNext:TS:=λD σ H=>D.nx σ H
noncomputable def tSeq(t u:TS):TS:=λD σ H=>t { D with nx:=u D } σ H
def pss_nil:PSs X [] tNext:=λ_ _ σ H _ I h=>wpAny_execs_nil ⟨σ,H,I,h⟩
def qaw(L:PS X st t)(J:PSs X rest u):PSs X (st::rest) (tSeq t u):=by
 intro pins s σ H D I h;refine wpAny_execs_cons (thn (L pins s σ H { D with nx:=u D } I h) λf F q=>?_)
 cases f with
 |next=>
  obtain⟨z,H',O,q⟩:=q;exact J pins F z H' D O q
 |ret v=>exact q
 |brk=>exact q
 |cont=>exact q
def Inv.quiet(I:Inv X q z H s):interactive X.env=false:=by simp[interactive,I.ok.kind]
def ps_doc{x j pos pos'}:PS X (.Expr (.Constant (.str x) j pos) pos') tNext:=λ_ s σ H _ I h=>wpAny_Expr (Calls.Constant_str (show SP X _ _ .next { s with toks:=s.toks+1 } from⟨σ,H,I.tok _,h⟩)) I.quiet
noncomputable def tDrop(te:TE):TS:=λD σ H=>te σ H λ_ H1=>D.nx σ H1
def qmq(F:PE X e te)(z:swapsWith e Y3 pos.line X.env=pure Y1):PS X (.Expr e pos) (tDrop te):=by
 intro pins s σ H D I h;exact wpAny_Expr_any (thn (F pins s σ H _ I h) λv L ⟨x,H1,J,O,q⟩=>⟨σ,H1,J,q⟩) I.quiet z
noncomputable def tRet(te:TE):TS:=λD σ H=>te σ H D.rt
def ps_ret(F:PE X e te):PS X (.Return (Y2 e) pos) (tRet te):=by
 intro pins s σ H D I h;exact wpAny_Return_some (thn (F pins s σ H _ I h) λv L ⟨x,H1,J,q,z⟩=>⟨x,σ,H1,J,q,z⟩)
noncomputable def tIfS(c:TT)(t u:TS):TS:=λD σ H=>c σ H λb H1=>if b=Y0 then t D σ H1 else u D σ H1
def ps_if(J:PT X c tc)(O:PSs X a t)(L:PSs X b u):PS X (.If c a b pos) (tIfS tc t u):=by
 intro pins s σ H D I h;refine wpAny_If (thn (J pins s σ H _ I h) λd q ⟨H1,F,z⟩=>?_)
 cases d with
 |true=>exact O pins q σ H1 D F z
 |false=>exact L pins q σ H1 D F z
end
abbrev TG:=V->St->Hp->(St->Hp->Prop)->Prop
abbrev TGs:=List V->St->Hp->(St->Hp->Prop)->Prop
def PG(X:Cx)(target:Qj)(t:TG):Prop:=
 ∀(pins:List (Ya×Obj)) (s:Qz) (σ:St) (H:Hp) (v:V) (u:Yv) (Q:St->Hp->Prop),Inv X pins σ H s->RelV v u->t v σ H Q->
  wpAny (model X.prog X.w) X.A (assign target X.env u) (λ_ s'=>∃σ' H',Inv X pins σ' H' s'/\Q σ' H') X.xe s
def PGs(X:Cx)(ts:List Qj)(t:TGs):Prop:=
 ∀(pins:List (Ya×Obj)) (s:Qz) (σ:St) (H:Hp) (vs:List V) (us:List Yv) (Q:St->Hp->Prop),Inv X pins σ H s->Vals vs us->t vs σ H Q->
  wpAny (model X.prog X.w) X.A (assignInOrder ((Zq ts X.env).map (·.2)) us) (λ_ s'=>∃σ' H',Inv X pins σ' H' s'/\Q σ' H') X.xe s
section
noncomputable def qyg(i:Nat):TG:=λv σ H Q=>Q (σ.set i (Y2 v)) H
def qdv(J:X.N.Nodup)(z:X.N[i]?=Y2 x)(q:Loc X.env.scope x)(F:X.fn x=Y0\/X.env.scope.names.lookup x=Y2 .local):PG X (.Name x pos) (qyg i):=by
 intro pins s σ H v u Q I r h;exact wpAny_assign_Name (qy8 I J z q r (λs' L=>⟨_,H,L,h⟩) F)
noncomputable def gNil:TGs:=λvs σ H Q=>vs=[]/\Q σ H
noncomputable def gCons(t:TG)(u:TGs):TGs:=λvs σ H Q=>∃v r,vs=v::r/\t v σ H λσ' H'=>u r σ' H' Q
def qma:PGs X [] gNil:=by
 intro pins s σ H vs q Q I r h;obtain⟨e,h⟩:=h;subst e;cases r;exact assignInOrder_nil ⟨σ,H,I,h⟩
def qg0(U:PG X e t)(O:PGs X es u)(L:(Zq (e::es) X.env).map (·.2)=assign e X.env::(Zq es X.env).map (·.2):=by rfl):PGs X (e::es) (gCons t u):=by
 intro pins s σ H vs us Q I r h;obtain⟨v,vr,Y,h⟩:=h;subst Y
 cases r with
 |cons r F=>
  rw[L];refine assignInOrder_cons (thn (U pins s σ H _ _ _ I r h) λ_ z ⟨q,H1,Z,J⟩=>?_);exact O pins z q H1 _ _ Q Z F J
noncomputable def gTup(K:Qqq)(n:Nat)(t:TGs):TG:=λv σ H Q=>∃a xs,v=.ref a/\SqT K H a xs/\xs.length=n/\t xs σ H Q
def pg_tup(hc:X.calm=Y0)(h:PGs X es t)(Y:(Zq es X.env).length=n:=by rfl)(z:(Zq es X.env).findIdx? (·.1)=none:=by rfl):PG X (.Tuple es k pos) (gTup X.K n t):=by
 intro pins s σ H v u Q I r q;obtain⟨a,xs,e1,U,Z,q⟩:=q;subst e1;cases r;obtain⟨J,F,O,hz⟩:=I.tuple U;refine assign_Tuple_tuple (I.ok.hd hc) O (by simp[Y,<- Z,F.length]) z λh' L=>?_;have I1:=I.kept (t':=s.toks) λb o e=>L b o (Qq1 (Qqe e)) e;exact h pins _ σ H xs _ Q I1 (by simpa using F) q
noncomputable def tAsg(te:TE)(g:TG):TS:=λD σ H=>te σ H λx H1=>g x σ H1 D.nx
def qib(hN:X.N.Nodup)(U:X.N[i]?=Y2 x)(L:Loc X.env.scope x)(Z:PE X e z)(O:swapsWith e (Y2 (.Name x q)) pos.line X.env=pure false:=by rfl)(Y:X.fn x=Y0\/X.env.scope.names.lookup x=Y2 .local):
  PS X (.Assign [.Name x q] e pos) (tAsg z (qyg i)):=by
 intro pins s σ H D I h;refine wpAny_Assign_Name (thn (Z pins s σ H _ I h) λv s1 ⟨y,H1,I1,F,J⟩=>?_) O;exact qy8 I1 hN U L F (λs2 I2=>⟨_,H1,I2,J⟩) Y
end
section
end
structure It where
 go:Nat->Hp->Prop
 yld:Nat->Hp->V->Hp->Prop
 stop:Nat->Hp->Prop
def FpOk(X:Cx)(pins:List (Ya×Obj))(H:Hp)(b:Ya):Prop:=
 H b=Y3/\b≠X.env.locals/\b ∉ X.fs/\(b∈X.ex\/X.s₀.heap.objs.size<=b)/\(∀x c,X.env.cells.lookup x=Y2 c->c≠b)/\∀p∈X.pn++pins,p.1≠b
def Inv.fpOk(I:Inv X F L H s)(J:s.heap.objs.size<=b)(U:H' b=Y3):FpOk X F H' b:=by
 refine⟨U,Qxw (Qq4 I.lt J),I.nofs J,.inr (Qzl I.sz J),λx c e z=>?_,λp O z=>?_⟩
 ·obtain⟨v,q⟩:=I.cell x c e;exact absurd (Qq4 q.lt (by rw[z]; exact J)) (Qz6 _)
 ·exact absurd (Qq4 (Qqe (I.pin p O).1) (by rw[z]; exact J)) (Qz6 _)
structure Turn (P:Program) (w:Qk) (K:Qqq) (tg:Qj) (J:It) (fp:List Ya) (it:Ya) (tn:Nat->Heap->Prop):Prop where
 mem:it∈fp
 obj:∀i h,tn i h->∀b∈fp,∃o,h.get? b=Y2 o/\∀v,o.data≠.cell v
 keep:∀i h h',tn i h->(∀b∈fp,∀o,h.get? b=Y2 o->h'.get? b=Y2 o)->tn i h'
 item:∀(X:Cx),X.prog=P->X.w=w->X.K=K->X.calm=Y0->∀(i:Nat) (pins:List (Ya×Obj)) (s:Qz) (σ:St) (H:Hp) (E:Yv->Qz->Prop),Inv X pins σ H s->(∀b∈fp,FpOk X pins H b)->tn i s.heap->J.go i H->
  wpAny (model P w) X.A (pyNext (.ref it)) (λr s1=>∃u,r=Y2 u/\
   wpAny (model P w) X.A (Zs tg (.ref it) u) (λ_ s2=>∃x H',Inv X pins σ H' s2/\RelV x u/\J.yld i H x H'/\tn (i+1) s2.heap/\∀b∈fp,H' b=Y3) E s1) E s
 done:∀(X:Cx),X.prog=P->X.w=w->X.K=K->X.calm=Y0->∀(i:Nat) (pins:List (Ya×Obj)) (s:Qz) (σ:St) (H:Hp) (E:Yv->Qz->Prop),Inv X pins σ H s->(∀b∈fp,FpOk X pins H b)->tn i s.heap->J.stop i H->
  wpAny (model P w) X.A (pyNext (.ref it)) (λr s1=>r=Y3/\Inv X pins σ H s1) E s
 self:∀(A:Qv) (i:Nat) (s:Qz) (Q:Yv->Qz->Prop) (E:Yv->Qz->Prop),tn i s.heap->Q (.ref it) s->wpAny (model P w) A (pyIter (.ref it)) Q E s
abbrev TI:=St->Hp->(It->Hp->Prop)->Prop
def PIE(X:Cx)(pins:List (Ya×Obj))(σ:St)(tg:Qj)(R:It->Hp->Prop)(itv:Yv)(s2:Qz):Prop:=
 ∃(it:Ya) (fp:List Ya) (tn:Nat->Heap->Prop) (J:It) (H':Hp),itv=.ref it/\Inv X pins σ H' s2/\Turn X.prog X.w X.K tg J fp it tn/\tn 0 s2.heap/\(∀b∈fp,FpOk X pins H' b)/\R J H'
def PI(X:Cx)(tg iter:Qj)(wi:TI):Prop:=
 ∀(pins:List (Ya×Obj)) (s:Qz) (σ:St) (H:Hp) (R:It->Hp->Prop),Inv X pins σ H s->wi σ H R->
  wpAny (model X.prog X.w) X.A (Qa iter X.env) (λv s1=>wpAny (model X.prog X.w) X.A (pyIter v) (PIE X pins σ tg R) X.xe s1) X.xe s
def qbs(z:s.heap.get? it=Y2 o)(J:o.cls=.type n)(hd:o.data=.fields vs)(F:["enumerate","zip","dict_itemiterator","dict_reverseitemiterator","odict_iterator","itertools.zip_longest","itertools.pairwise"].contains n=Y1)(q:Q () s):wpAny M A (Zs tg (.ref it) u) Q E s:=by
 unfold Zs
 cases tg<;>first
  |exact Qx q
  |(cases u<;>first
    |exact Qx q
    |(refine Qq (wpAny_load z ?_)
      rw[J,hd];show wpAny M A (if (["enumerate","zip","dict_itemiterator","dict_reverseitemiterator","odict_iterator","itertools.zip_longest","itertools.pairwise"].contains n&&vs[0]?==Y2 (rawInt _))=Y0 then _ else _) Q E s;rw[Z9 (by intro h; rw[F,Bool.false_and]at h; cases h)]
      exact Qx q))
noncomputable def Itl(K:Qqq)(a:Ya):It:=
 ⟨λi H=>∃xs x,SqL K H a xs/\xs[i]?=Y2 x,λi H x H'=>H'=H/\∀xs,SqL K H a xs->xs[i]?=Y2 x,λi H=>∃xs,SqL K H a xs/\xs.length<=i⟩
noncomputable def Itt(K:Qqq)(a:Ya):It:=
 ⟨λi H=>∃xs x,SqT K H a xs/\xs[i]?=Y2 x,λi H x H'=>H'=H/\∀xs,SqT K H a xs->xs[i]?=Y2 x,λi H=>∃xs,SqT K H a xs/\xs.length<=i⟩
noncomputable def Itr(lo:Int)(n:Nat):It:=⟨λi _=>i<n,λi H x H'=>H'=H/\x=.int (lo+i),λi _=>n<=i⟩
def qck{K:Qqq}(a it):Turn P w K tg (Itl K a) [it] it (λi h=>h.IsListIter it a i) where
 mem:=by simp
 obj:=λi h st b q=>by
  have e:b=it:=by simpa using q
  subst e;obtain⟨o,e,c,d⟩:=st;exact⟨o,e,λv z=>by rw[d]at z; cases z⟩
 keep:=λi h h' st k=>st.at λo e=>k it (by simp) o e
 item:=by
  intro X Z U hK hc i pins s σ H E I hf st Y;subst Z U hK;obtain⟨xs,x,F,O⟩:=Y;obtain⟨L,J,p,hz⟩:=I.list F;obtain⟨u,hu,ru⟩:=J.get O;obtain⟨f0,f1,f2,f3,f4,f5⟩:=hf it (by simp);refine wpAny_pyNext_list_item st p.isList (x:=u) (by simpa using hu) λh' st' sb=>?_;have I1:=I.turned (t':=s.toks) (λb o q e=>(sb.2 b q).trans e) f0 f1 f3 f4 f5;obtain⟨o,e,c,d⟩:=id st';exact⟨u,rfl,qbs e c d (by decide) ⟨x,H,I1,ru,⟨rfl,λys hy=>by rw[I.list_inj hy F]; exact O⟩,st',λb q=>(hf b q).1⟩⟩
 done:=by
  intro X Z U hK hc i pins s σ H E I hf st Y;subst Z U hK;obtain⟨xs,F,O⟩:=Y;obtain⟨L,J,p,hz⟩:=I.list F;obtain⟨f0,f1,f2,f3,f4,f5⟩:=hf it (by simp);have hl:=J.length;exact wpAny_pyNext_list_end (I.ok.hd hc) st p.isList (by simp; omega) λh' eb=>⟨rfl,I.turned (λb o q e=>eb b o q e) f0 f1 f3 f4 f5⟩
 self:=λ_ _ _ _ _ st h=>wpAny_pyIter_listiter st h
def qbz{K:Qqq}(a it):Turn P w K tg (Itt K a) [it] it (λi h=>h.IsTupleIter it a i) where
 mem:=by simp
 obj:=λi h st b F=>by
  have e:b=it:=by simpa using F
  subst e;obtain⟨o,e,c,d⟩:=st;exact⟨o,e,λv z=>by rw[d]at z; cases z⟩
 keep:=λi h h' st k=>st.at λo e=>k it (by simp) o e
 item:=by
  intro X Z U hK hc i pins s σ H E I hf st Y;subst Z U hK;obtain⟨xs,x,J,O⟩:=Y;obtain⟨q,L,p,hz⟩:=I.tuple J;obtain⟨u,hu,ru⟩:=L.get O;obtain⟨f0,f1,f2,f3,f4,f5⟩:=hf it (by simp);refine wpAny_pyNext_tuple_item st (p) (x:=u) (by simpa using hu) λh' st' sb=>?_;have I1:=I.turned (t':=s.toks) (λb o F e=>(sb.2 b F).trans e) f0 f1 f3 f4 f5;obtain⟨o,e,c,d⟩:=id st';exact⟨u,rfl,qbs (s:={ s with heap:=h' }) e c d (by decide) ⟨x,H,I1,ru,⟨rfl,λys hy=>by rw[I.tuple_inj hy J]; exact O⟩,st',λb F=>(hf b F).1⟩⟩
 done:=by
  intro X Z U hK hc i pins s σ H E I hf st Y;subst Z U hK;obtain⟨xs,J,O⟩:=Y;obtain⟨q,L,p,hz⟩:=I.tuple J;obtain⟨f0,f1,f2,f3,f4,f5⟩:=hf it (by simp);have hl:=L.length;exact wpAny_pyNext_tuple_end (I.ok.hd hc) st (p) (by simp; omega) λh' eb=>⟨rfl,I.turned (λb o F e=>eb b o F e) f0 f1 f3 f4 f5⟩
 self:=λ_ _ _ _ _ st h=>wpAny_pyIter_tupleiter st h
def qbx{K:Qqq}(it)(lo)(n):Turn P w K tg (Itr lo n) [it] it (λi h=>IsRangeIter h it (lo+(i:Nat)*1) ((n:Int) - (i:Nat)) 1) where
 mem:=by simp
 obj:=λi h st b q=>by
  have e:b=it:=by simpa using q
  subst e
  exact⟨_,st,λv z=>by
   have z':=z
   cases z'⟩
 keep:=λi h h' st k=>k it (by simp) _ st
 item:=by
  intro X O F U L i pins s σ H E I hf st J;subst O F U;obtain⟨f0,f1,f2,f3,Z,Y⟩:=hf it (by simp);have W:=Walks.range (prog:=X.prog) (w:=X.w) (I.ok.hd L) it lo 1 n;refine W.item i s _ _ J st λv h' tk hv st' kk=>?_;obtain⟨t,rfl⟩:=hv;have I1:Inv X pins σ H { s with heap:=h',toks:=tk }:=I.turned (λb o q e=>kk b o (by simpa using q) e) f0 f1 f3 Z Y;refine⟨_,rfl,qbs st' rfl rfl (by decide) ⟨.int (lo+i),H,I1,⟨t,?_⟩,⟨rfl,rfl⟩,st',λb q=>(hf b q).1⟩⟩;rw[Int.mul_one]
 done:=by
  intro X O F U L i pins s σ H E I hf st J;subst O F U;obtain⟨f0,f1,f2,f3,Z,Y⟩:=hf it (by simp);exact wpAny_pyNext_range_end (I.ok.hd L) st (by have:n<=i:=J; omega) λh' eb=>⟨rfl,I.turned (λb o q e=>eb b o q e) f0 f1 f3 Z Y⟩
 self:=λ_ _ _ _ _ st h=>wpAny_pyIter_rangeiter st h
section
def qav{lo:Int}(I:Inv X F J H s)(h1:-(2 ^ 62)<=lo)(h2:lo<2 ^ 62)(Z:-(2 ^ 62)<=z)(Y:z<2 ^ 62)(q:R (Itr lo (z - lo).toNat) H):wpAny (model X.prog X.w) X.A (pyIter (.ref s.heap.objs.size)) (PIE X F J tg R) E { s with heap:=s.heap.push { cls:=.type "range",data:=.fields #[.int lo t,.int z u,.int 1 v] },toks:=L }:=by
 refine wpAny_pyIter_range (IsRange.new ..) (small_one h1 h2 Z Y) ?_;have O:Inv X F J H { s with heap:=s.heap.push { cls:=.type "range",data:=.fields #[.int lo t,.int z u,.int 1 v] },toks:=L }:=I.kept λb o e=>Qqx _ e
 refine⟨(s.heap.push { cls:=.type "range",data:=.fields #[.int lo t,.int z u,.int 1 v] }).objs.size,[(s.heap.push { cls:=.type "range",data:=.fields #[.int lo t,.int z u,.int 1 v] }).objs.size],_,_,H,rfl,
  O.kept λb o e=>Qqx _ e,qbx _ lo (z - lo).toNat,?_,λb U=>?_,q⟩
 ·have e1:lo+((0:Nat):Int)*1=lo:=by simp
  have e2:(((z - lo).toNat:Nat):Int) - ((0:Nat):Int)=Builtin.Range.rangeSize lo z 1:=by rw[rangeSize_one]; split<;>omega
  rw[e1,e2];exact Qqc _ rfl
 ·have e:b=(s.heap.push { cls:=.type "range",data:=.fields #[.int lo t,.int z u,.int 1 v] }).objs.size:=by simpa using U
  subst e;exact O.fpOk (Qqj _) (O.hok.fresh (Qqj _))
noncomputable def iRng1(ta:TA):TI:=λσ H R=>ta σ H λvs H1=>∃j:Int,vs=[.int j]/\-(2 ^ 62)<=j/\j<2 ^ 62/\R (Itr 0 j.toNat) H1
noncomputable def iRng2(ta:TA):TI:=λσ H R=>ta σ H λvs H1=>∃i j:Int,vs=[.int i,.int j]/\(-(2 ^ 62)<=i/\i<2 ^ 62/\-(2 ^ 62)<=j/\j<2 ^ 62)/\R (Itr i (j - i).toNat) H1
def qdk(Z:Gl X "range")(Y:X.mg "range" = Y3)(ha:PA X [a] F)(U:starEach [a] X.env=[(Y1,Qa a X.env)]:=by rfl):PI X tg (.Call (.Name "range" p) [a] [] pos) (iRng1 F):=by
 intro pins s σ H R I h;refine Call_ (qx8 I Z Y boot_range (PyProof.Rows.callWith_type1 (thn (ha pos pins s σ H _ I h) λus s1 ⟨vs,H1,I1,L,z⟩=>?_) U rfl));obtain⟨j,e,z,O,q⟩:=z;subst e
 cases L with
 |cons r J=>
  cases J;obtain⟨t,rfl⟩:=r;exact call_range_1 (qav I1 (by omega) (by omega) z O (by simpa using q))
def qdj(hg:Gl X "range")(hm:X.mg "range" = Y3)(ha:PA X [a,b] L)(hs:starEach [a,b] X.env=[(Y1,Qa a X.env),(Y1,Qa b X.env)]:=by rfl)(z:starEach [b] X.env=[(Y1,Qa b X.env)]:=by rfl):
  PI X tg (.Call (.Name "range" p) [a,b] [] pos) (iRng2 L):=by
 intro pins s σ H R I h;refine Call_ (qx8 I hg hm boot_range (PyProof.Rows.callWith_type1 (thn (ha pos pins s σ H _ I h) λus s1 ⟨vs,H1,I1,O,J⟩=>?_) (by rw[hs,z]) (by rw[z]; rfl)));obtain⟨i,j,e,⟨J,Z,Y,U⟩,q⟩:=J;subst e
 cases O with
 |cons r F=>
  cases F with
  |cons r' F=>
   cases F;obtain⟨t,rfl⟩:=r;obtain⟨t',rfl⟩:=r';exact call_range_2 (qav I1 J Z Y U q)
noncomputable def tFor(wi:TI)(g:TG)(tb:TS):TS:=λD σ H=>wi σ H λJ H1=>∃W:Nat->Nat->St->Hp->Prop,(∃m,W 0 m σ H1)/\∀i m σ H,W i m σ H->
 (J.stop i H/\D.nx σ H)\/(J.go i H/\∃N:St->Hp->Prop,(∀σ' H',N σ' H'->∃m',m'<m/\W (i+1) m' σ' H')/\∀x H',J.yld i H x H'->g x σ H' λσ2 H2=>tb { D with nx:=N,ct:=N,bk:=D.nx } σ2 H2)
noncomputable def qv9(fp:List Ya)(h:Heap):List (Ya×Obj):=fp.filterMap λb=>(h.get? b).map λo=>(b,o)
def qq1(q:b∈fp)(e:h.get? b=Y2 o):(b,o)∈qv9 fp h:=Qxu.mpr ⟨b,q,by rw[e]; rfl⟩
def qdl(z:p∈qv9 fp h):p.1∈fp/\h.get? p.1=Y2 p.2:=by
 obtain⟨b,F,e⟩:=Qxu.mp z
 cases q:h.get? b with
 |none=>rw[q]at e; cases e
 |some o=>
  rw[q]at e;have J:=Option.some.inj e;subst J;exact⟨F,q⟩
def Inv.pinned(I:Inv X q F H s)(Y:∀b∈fp,FpOk X q H b)(U:∀b∈fp,∃o,s.heap.get? b=Y2 o/\∀v,o.data≠.cell v):Inv X (q++qv9 fp s.heap) F H s:=
 I.pins_of λp O=>(Qqh.mp O).elim (λz=>I.pin p (Qqp _ z)) λz=>by
  obtain⟨J,e⟩:=qdl z;obtain⟨f0,f1,Z,_⟩:=Y p.1 J;obtain⟨o,L,d⟩:=U p.1 J;rw[e]at L; cases L;exact⟨e,f0,f1,Z,d⟩
def Inv.unpinned(I:Inv X (q++pl) z H s):Inv X q z H s:=I.pins_of λp F=>I.pin p (Qqp _ (Qzy _ F))
def qic(hp:PassesOwn (model X.prog X.w) X.A X.env X.xe)(hc:X.calm=Y0)(hi:PI X tg O wi)(hg:PG X tg g)(U:PSs X body tb)(hs:∀x,foldedSetIterable O X.env x=pure x):PS X (.For tg O body [] pos) (tFor wi g tb):=by
 intro pins s σ H D I h;refine wpAny_For (thn (hi pins s σ H _ I h) λv s1 h1=>thn h1 λa8 s2 h2=>?_) hs;obtain⟨it,fp,tn,J,H2,e,I2,T,a5,f2,W,⟨m0,w0⟩,a1⟩:=h2;subst e;have L:∀{H':Hp},(∀b∈fp,H' b=Y3)->∀b∈fp,FpOk X pins H' b:=λhn b U=>⟨hn b U,(f2 b U).2⟩
 refine codeAny_forLoop_any (λn s'=>∃i F H',Inv X pins F H' s'/\tn i s'.heap/\(∀b∈fp,H' b=Y3)/\W i n F H') ?_ m0 ⟨0,σ,H2,I2,a5,λb U=>(f2 b U).1,w0⟩;rintro n s3 ⟨i,z,H3,I3,a2,a3,w3⟩;rcases a1 i n z H3 w3 with⟨stop,qn⟩|⟨go,N,hN,step⟩
 ·refine Zc hp (thn (T.done X rfl rfl rfl hc i pins s3 z H3 X.xe I3 (L a3) a2 stop) λr s4 ⟨hr,I4⟩=>?_);subst hr;exact wpAny_execs_nil ⟨z,H3,I4,qn⟩
 ·refine Zc hp (thn (T.item X rfl rfl rfl hc i pins s3 z H3 X.xe I3 (L a3) a2 go) λr s4 ⟨u,hr,h4⟩=>?_);subst hr;refine Zc hp (thn h4 λ_ s5 ⟨x,H5,I5,r5,y5,a0,a6⟩=>?_);have a7:=I5.pinned (L a6) (T.obj _ _ a0);refine Zc hp (thn (hg _ s5 z H5 x u _ a7 r5 (step x H5 y5)) λ_ s6 ⟨a4,H6,I6,q6⟩=>?_);refine Zc hp (thn (U _ s6 a4 H6 _ I6 q6) λf s7 q7=>?_);have Y:∀{q:St}{H7:Hp},Inv X (pins++qv9 fp s5.heap) q H7 s7->N q H7->∃m,m<n/\∃i F H',Inv X pins F H' s7/\tn i s7.heap/\(∀b∈fp,H' b=Y3)/\W i m F H':=λ{q H7} Z n7=>by
   obtain⟨m',hm,w7⟩:=hN q H7 n7;refine⟨m',hm,i+1,q,H7,Z.unpinned,T.keep _ _ _ a0 λb U o e=>(Z.pin (b,o) (Qqp _ (Qqp _ (qq1 U e)))).1,λb U=>?_,w7⟩;obtain⟨o,e,d⟩:=T.obj _ _ a0 b U;exact(Z.pin (b,o) (Qqp _ (Qqp _ (qq1 U e)))).2.1
  cases f with
  |next=>obtain⟨q,H7,Z,n7⟩:=q7; exact Y Z n7
  |cont=>obtain⟨q,H7,Z,n7⟩:=q7; exact Y Z n7
  |brk=>obtain⟨q,H7,Z,q7⟩:=q7; exact⟨q,H7,Z.unpinned,q7⟩
  |ret v=>obtain⟨x7,q,H7,Z,r7,q7⟩:=q7; exact⟨x7,q,H7,Z.unpinned,r7,q7⟩
end
abbrev R2:=V->V->Hp->VK->Prop
def OpR(X:Cx)(f:Yv->Yv->Sem Yv)(r:R2):Prop:=
 ∀(pins:List (Ya×Obj)) (s:Qz) (σ:St) (H:Hp) (x y:V) (v u:Yv) (Q:VK),Inv X pins σ H s->RelV x v->RelV y u->r x y H Q->
  wpAny (model X.prog X.w) X.A (f v u) (EP X pins σ Q) X.xe s
def UnR(X:Cx)(f:Yv->Sem Yv)(r:V->Hp->VK->Prop):Prop:=
 ∀(pins:List (Ya×Obj)) (s:Qz) (σ:St) (H:Hp) (x:V) (v:Yv) (Q:VK),Inv X pins σ H s->RelV x v->r x H Q->
  wpAny (model X.prog X.w) X.A (f v) (EP X pins σ Q) X.xe s
def qqh(X:Cx)(f:Yv)(r:List V->Hp->VK->Prop):Prop:=
 ∀(pins:List (Ya×Obj)) (s:Qz) (σ:St) (H:Hp) (xs:List V) (us:List Yv) (Q:VK),Inv X pins σ H s->Vals xs us->r xs H Q->
  wpAny (model X.prog X.w) X.A (call f us) (EP X pins σ Q) X.xe s
def TruR(X:Cx)(r:V->Hp->(Bool->Hp->Prop)->Prop):Prop:=
 ∀(pins:List (Ya×Obj)) (s:Qz) (σ:St) (H:Hp) (x:V) (v:Yv) (Q:Bool->Hp->Prop),Inv X pins σ H s->RelV x v->r x H Q->
  wpAny (model X.prog X.w) X.A (truthy v) (TP X pins σ Q) X.xe s
noncomputable def tOp(r:R2)(ta tb:TE):TE:=λσ H Q=>ta σ H λx H1=>tb σ H1 λy H2=>r x y H2 Q
noncomputable def tUn(r:V->Hp->VK->Prop)(ta:TE):TE:=λσ H Q=>ta σ H λx H1=>r x H1 Q
noncomputable def rI(C:Int->Int->Prop)(g:Int->Int->V):R2:=λx y H Q=>∃i j,x=.int i/\y=.int j/\C i j/\Q (g i j) H
noncomputable def rI0(g:Int->Int->V):R2:=λx y H Q=>∃i j,x=.int i/\y=.int j/\Q (g i j) H
def rU(g:Int->V):V->Hp->VK->Prop:=λx H Q=>∃i,x=.int i/\Q (g i) H
section
def binT(ha:PE X a ta)(hb:PE X b tb){R:V->V->Hp->Prop}(I:Inv X q z H s)(h:ta z H λx H1=>tb z H1 λy H2=>R x y H2){f:Yv->Yv->Sem Yv}(hf:∀v u L x y H2,Inv X q z H2 L->RelV x v->RelV y u->R x y H2->wpAny (model X.prog X.w) X.A (f v u) Q X.xe L):
  wpAny (model X.prog X.w) X.A (Qa a X.env) (λv J=>wpAny (model X.prog X.w) X.A (Qa b X.env) (λu F=>wpAny (model X.prog X.w) X.A (f v u) Q X.xe F) X.xe J) X.xe s:=by
 refine thn (ha q s z H _ I h) λv O ⟨x,H1,I1,Y,q1⟩=>?_;refine thn (hb q O z H1 _ I1 q1) λu L ⟨y,H2,I2,U,Z⟩=>?_;exact hf v u L x y H2 I2 Y U Z
def pe_op(O:OpR X (Q6 z) r)(Y:PE X a ta)(U:PE X b tb):PE X (.BinOp a z b pos) (tOp r ta tb):=by
 intro pins s σ H Q I h;exact wpAny_BinOp (binT Y U I h λv u F x y H2 Z L J q=>O pins F σ H2 x y v u Q Z L J q)
def pe_un(L:UnR X (unaryOp q) r)(O:PE X a ta):PE X (.UnaryOp q a pos) (tUn r ta):=by
 intro pins s σ H Q I h;exact UnaryOp_ (thn (O pins s σ H _ I h) λv z ⟨x,H1,U,F,J⟩=>L pins z σ H1 x v Q U F J)
def opI{g:Int->Int->Int}(z:∀(i j:Int) (t u:Tok) (s:Qz) (Q:Yv->Qz->Prop) (E:Yv->Qz->Prop),C i j->Q (.int (g i j) s.toks) { s with toks:=s.toks+1 }->wpAny (model X.prog X.w) X.A (f (.int i t) (.int j u)) Q E s):
  OpR X f (rI C λi j=>.int (g i j)):=by
 intro pins s σ H x y v u Q I L J h;obtain⟨i,j,rfl,rfl,O,q⟩:=h;obtain⟨t,rfl⟩:=L;obtain⟨F,rfl⟩:=J;exact z i j t F s _ _ O ⟨.int (g i j),H,I.tok _,⟨_,rfl⟩,q⟩
def opI0{g:Int->Int->Int}(z:∀(i j:Int) (t u:Tok) (s:Qz) (Q:Yv->Qz->Prop) (E:Yv->Qz->Prop),Q (.int (g i j) s.toks) { s with toks:=s.toks+1 }->wpAny (model X.prog X.w) X.A (f (.int i t) (.int j u)) Q E s):
  OpR X f (rI0 λi j=>.int (g i j)):=by
 intro pins s σ H x y v u Q I L J h;obtain⟨i,j,rfl,rfl,q⟩:=h;obtain⟨t,rfl⟩:=L;obtain⟨F,rfl⟩:=J;exact z i j t F s _ _ ⟨.int (g i j),H,I.tok _,⟨_,rfl⟩,q⟩
def opB0{g:Int->Int->Bool}(z:∀(i j:Int) (t u:Tok) (s:Qz) (Q:Yv->Qz->Prop) (E:Yv->Qz->Prop),Q (.bool (g i j)) s->wpAny (model X.prog X.w) X.A (f (.int i t) (.int j u)) Q E s):
  OpR X f (rI0 λi j=>.bl (g i j)):=by
 intro pins s σ H x y v u Q I L J h;obtain⟨i,j,rfl,rfl,q⟩:=h;obtain⟨t,rfl⟩:=L;obtain⟨F,rfl⟩:=J;exact z i j t F s _ _ ⟨.bl (g i j),H,I,rfl,q⟩
def CPow(i j:Int):Prop:=0<=j/\j<=1000000/\i.natAbs<2 ^ 64
def CMul(i j:Int):Prop:=(-(2 ^ 64)<i/\i<2 ^ 64)\/(-(2 ^ 64)<j/\j<2 ^ 64)
def CMul.ok(h:CMul i j):IntMulOk i j:=by
 rcases h with⟨h1,h2⟩|⟨h1,h2⟩
 ·exact .of_left (intBits_le_64 h1 h2)
 ·exact .of_right (intBits_le_64 h1 h2)
def op_add:OpR X (Q6 .Add) (rI0 λi j=>.int (i+j)):=opI0 λ_ _ _ _ _ _ _ q=>add_int q
def op_sub:OpR X (Q6 .Sub) (rI0 λi j=>.int (i - j)):=opI0 λ_ _ _ _ _ _ _ q=>sub_int q
def op_mul:OpR X (Q6 .Mult) (rI CMul λi j=>.int (i*j)):=opI λ_ _ _ _ _ _ _ z q=>mul_int q z.ok
def op_mod:OpR X (Q6 .Mod) (rI (λ_ j=>0<j) λi j=>.int (i % j)):=opI λi j _ _ _ _ _ z q=>by
 have h1:=z;exact mod_int' (by omega) (by rw[Int.fmod_eq_emod_of_nonneg i (by omega)]; exact q)
def op_pow:OpR X (Q6 .Pow) (rI CPow λi j=>.int (i ^ j.toNat)):=opI λ_ _ _ _ _ _ _ z q=>pow_int_small z.1 z.2.1 z.2.2 q
def unI{g:Int->Int}(z:∀(i:Int) (t:Tok) (s:Qz) (Q:Yv->Qz->Prop) (E:Yv->Qz->Prop),Q (.int (g i) s.toks) { s with toks:=s.toks+1 }->wpAny (model X.prog X.w) X.A (f (.int i t)) Q E s):
  UnR X f (rU λi=>.int (g i)):=by
 intro pins s σ H x v Q I F h;obtain⟨i,rfl,q⟩:=h;obtain⟨t,rfl⟩:=F;exact z i t s _ _ ⟨.int (g i),H,I.tok _,⟨_,rfl⟩,q⟩
def un_neg:UnR X (unaryOp .USub) (rU λi=>.int (-i)):=unI λ_ _ _ _ _ q=>neg_int q
end
section
def qi2(I:Inv X z F H s)(q:Q (.bl k) H)(e:k=J):EP X z F Q (.bool J) s:=by
 subst e;exact⟨.bl k,H,I,rfl,q⟩
def op_lt:OpR X (Qi .Lt) (rI0 λi j=>.bl (decide (i<j))):=opB0 λ_ _ _ _ _ _ _ q=>lt_int q
def op_le:OpR X (Qi .LtE) (rI0 λi j=>.bl (decide (i<=j))):=opB0 λ_ _ _ _ _ _ _ q=>le_int q
def op_gt:OpR X (Qi .Gt) (rI0 λi j=>.bl (decide (j<i))):=opB0 λ_ _ _ _ _ _ _ q=>gt_int q
def op_ge:OpR X (Qi .GtE) (rI0 λi j=>.bl (decide (j<=i))):=opB0 λ_ _ _ _ _ _ _ q=>ge_int q
def op_isN:OpR X (Qi .Is) (λx y H Q=>y=.non/\Q (.bl (decide (x=.non))) H):=by
 intro pins s σ H x y v u Q I z F h;obtain⟨rfl,q⟩:=h;cases F;refine is_none_gen (qi2 I q ?_)
 cases x<;>first
  |(cases z; rfl)
  |(obtain⟨t,rfl⟩:=z; rfl)
def qmu:OpR X (Qi .IsNot) (λx y H Q=>y=.non/\Q (.bl (!decide (x=.non))) H):=by
 intro pins s σ H x y v u Q I z F h;obtain⟨rfl,q⟩:=h;cases F;refine isnot_none_gen (qi2 I q ?_)
 cases x<;>first
  |(cases z; rfl)
  |(obtain⟨t,rfl⟩:=z; rfl)
def qmm(O:OpR X (Qi z) r)(Z:PE X a ta)(Y:PE X b tb)(U:Zn z b=Y1):PE X (.Compare a [z] [b] pos) (tOp r ta tb):=by
 intro pins s σ H Q I h;exact wpAny_Compare1 (binT Z Y I h λv u F x y H2 I2 L J q=>O pins F σ H2 x y v u Q I2 L J q) U
noncomputable def tTest(t:TE):TT:=λσ H Q=>t σ H λx H'=>∃k,x=.bl k/\Q k H'
def ql9(ho:OpR X (Qi q) r)(ha:PE X a ta)(hb:PE X b tb)(hm:Zn q b=Y1):PT X (.Compare a [q] [b] pos) (tTest (tOp r ta tb)):=by
 intro pins s σ H Q I h
 refine wpAny_isTrue_Compare1 (thn (ha pins s σ H _ I h) λv J ⟨x,H1,I1,U,q1⟩=>thn (hb pins J σ H1 _ I1 q1) λu F ⟨y,H2,I2,O,Z⟩=>
  thn (ho pins F σ H2 x y v u _ I2 U O Z) λc s3 ⟨z,H3,I3,L,k,e,Y⟩=>?_) hm
 subst e;cases L;exact Qg ⟨H3,I3,Y⟩
noncomputable def qik(r r':R2)(ta tb tc:TE):TE:=λσ H Q=>ta σ H λx H1=>tb σ H1 λy H2=>r x y H2 λz H3=>∃k,z=.bl k/\
 (if k=Y0 then tc σ H3 λw' H4=>r' y w' H4 Q else Q (.bl Y1) H3)
def qg7(ho:OpR X (Qi F) r)(J:OpR X (Qi q) O)(ha:PE X a ta)(hb:PE X b tb)(hc:PE X c tc)(hm:lastMarks [F,q] [b,c]=Y1):PE X (.Compare a [F,q] [b,c] pos) (qik r O ta tb tc):=by
 intro pins s σ H Q I h
 refine Compare_chain (thn (ha pins s σ H _ I h) λv s1 ⟨x,H1,I1,r1,q1⟩=>chain_link (thn (hb pins s1 σ H1 _ I1 q1) λu s2 ⟨y,H2,I2,L,q2⟩=>
  thn (ho pins s2 σ H2 x y v u _ I2 r1 L q2) λd s3 ⟨z,Z,Y,r3,k,e,U⟩=>?_)) hm
 subst e;cases r3;refine Qg ?_
 cases k with
 |false=>exact ite_ff ⟨.bl Y1,Z,Y,rfl,U⟩
 |true=>exact ite_tt (chain_last (thn (hc pins s3 σ Z _ Y U) λw' s4 ⟨z',H4,I4,r4,q4⟩=>J pins s4 σ H4 y z' u w' Q I4 L r4 q4))
def qgn(ho:OpR X (Qi F) r)(J:OpR X (Qi q) O)(ha:PE X a ta)(hb:PE X b tb)(hc:PE X c tc)(hm:lastMarks [F,q] [b,c]=Y1):PT X (.Compare a [F,q] [b,c] pos) (tTest (qik r O ta tb tc)):=by
 intro pins s σ H Q I h
 refine isTrue_chain (thn (ha pins s σ H _ I h) λv s1 ⟨x,H1,I1,r1,q1⟩=>test_link (thn (hb pins s1 σ H1 _ I1 q1) λu s2 ⟨y,H2,I2,L,q2⟩=>
  thn (ho pins s2 σ H2 x y v u _ I2 r1 L q2) λd s3 ⟨z,Z,Y,r3,k,e,U⟩=>?_)) hm
 subst e;cases r3;refine Qg ?_
 cases k with
 |false=>
  obtain⟨k',e',q'⟩:=U;cases e';exact ite_ff ⟨Z,Y,q'⟩
 |true=>
  refine ite_tt (test_last (thn (hc pins s3 σ Z _ Y U) λw' s4 ⟨z',H4,I4,r4,q4⟩=>thn (J pins s4 σ H4 y z' u w' _ I4 L r4 q4) λd' s5 ⟨z2,H5,I5,r5,k2,e2,q5⟩=>?_));subst e2;cases r5;exact Qg ⟨H5,I5,q5⟩
def TruV(K:Qqq)(x:V)(H:Hp)(k:Bool):Prop:=
 match x with
 |.non=>k=Y1
 |.bl b=>k=b
 |.int i=>k=(i != 0)
 |.str y=>y.length<=sizeLine/\k=((y.length:Int) != 0)
 |.byt y=>y.size<=sizeLine/\k=((y.size:Int) != 0)
 |.ref p=>(∃xs,SqL K H p xs/\k = !xs.isEmpty)\/(∃xs,SqT K H p xs/\k = !xs.isEmpty)\/∃kvs,H p=Y2 (.dK kvs)/\k = !kvs.isEmpty
 |_=>False
def qbr{kvs:List (q×V)}{vs:List (q×Yv)}(r:KV kvs vs):(!vs.isEmpty) = !kvs.isEmpty:=by
 cases r<;>rfl
def qkn(r:Vals xs q):(!q.toArray.isEmpty) = !xs.isEmpty:=by
 cases r<;>simp
def qal:(sizeLine:Nat)<2 ^ 63:=by rw[Q5]; decide
def tru_ok:TruR X (λx H Q=>∃k,TruV X.K x H k/\Q k H):=by
 intro pins s σ H x v Q I J h;obtain⟨k,e,q⟩:=h;have hl:=qal;have hs:=Q5
 cases x with
 |non=>
  cases J;have z:=e;subst z;exact truthy_none ⟨H,I,q⟩
 |bl b=>
  cases J;have z:=e;subst z;exact Qg ⟨H,I,q⟩
 |int i=>
  obtain⟨t,rfl⟩:=J;have z:=e;subst z;exact PySem.P.truthy_int ⟨H,I,q⟩
 |str y=>
  obtain⟨t,rfl⟩:=J;obtain⟨Y,z⟩:y.length<=sizeLine/\k=((y.length:Int) != 0):=e;subst z;exact PySem.P.truthy_str (by omega) ⟨H,I.tok _,q⟩
 |byt y=>
  obtain⟨t,rfl⟩:=J;obtain⟨Y,z⟩:y.size<=sizeLine/\k=((y.size:Int) != 0):=e;subst z;exact PySem.W.truthy_bytes (by omega) ⟨H,I.tok _,q⟩
 |ref p=>
  cases J;have z:=e;rcases z with⟨xs,L,z⟩|⟨xs,L,z⟩|⟨kvs,L,z⟩
  ·subst z;obtain⟨O,r,pl,U⟩:=I.list L;have F:=r.length;exact wpAny_truthy_list pl.isList (by simp only[Qqd]; omega) ⟨H,I.tok _,by rw[qkn r]; exact q⟩
  ·subst z;obtain⟨O,r,pl,U⟩:=I.tuple L;have F:=r.length;exact truthy_tuple pl (by simp only[Qqd]; omega) ⟨H,I.tok _,by rw[qkn r]; exact q⟩
  ·subst z;obtain⟨U,Z,vs,r,m⟩:kvs.length<=sizeLine/\(p==Qm)=Y1/\∃vs,KV kvs vs/\s.heap.DictOf (mixKind X.prog X.w) p vs:=I.hok p _ L;have F:=Paired.length r;exact wpAny_truthy_dict Z m (by omega) ⟨H,I.tok _,by rw[qbr r]; exact q⟩
 |_=>exact(e).elim
def qgm(O:PE X a ta)(L:∀q,isTrue a X.env q=(do let v <- q; standAt a.pos; holding [v] (truthy v))):
  PT X a (λσ H Q=>ta σ H λx H'=>∃k,TruV X.K x H' k/\Q k H'):=by
 intro pins s σ H Q I h;exact isTrue_plain (thn (O pins s σ H _ I h) λv z ⟨x,H1,U,F,J⟩=>tru_ok pins z σ H1 x v Q U F J) (L _)
def vals1(r:Vals [x] us):∃u,us=[u]/\RelV x u:=by
 cases r with
 |cons z q=>cases q; exact⟨_,rfl,z⟩
def vals2(r:Vals [x,y] us):∃u w',us=[u,w']/\RelV x u/\RelV y w':=by
 cases r with
 |cons J F=>
  cases F with
  |cons z q=>cases q; exact⟨_,_,rfl,J,z⟩
def qfj(F:X.calm=Y0):qqh X (.builtin "min") (λxs H Q=>∃i j,xs=[.int i,.int j]/\Q (.int (if j<i then j else i)) H):=by
 intro pins s σ H xs L Q I r h;obtain⟨i,j,rfl,q⟩:=h;obtain⟨u,J,rfl,⟨t,rfl⟩,⟨O,rfl⟩⟩:=vals2 r;refine min_two_ints (I.ok.hd F) λh' tk k=>⟨_,H,I.kept k,?_,q⟩
 by_cases z:j<i
 ·rw[Xq z,Xq z]; exact⟨_,rfl⟩
 ·rw[Z9 z,Z9 z]; exact⟨_,rfl⟩
end
structure ObjM (h:Heap) (x dx C:Ya) (mA:Yb->Option Yv):Prop where
 obj:h.get? x=Y2 (PySem.W.instObj C dx)
 ns:h.Ns1 dx mA
 ne:dx≠x
def qd3{h:Heap}(n:h.Ns1 O L):∃J,h.get? O=Y2 J/\∀name,PySem.W.lookIn name J=Y2 (L name):=by
 obtain⟨o,es,ep,Y,hd,hk,_,Z⟩:=n;refine⟨o,Y,λname=>?_⟩;have e:=Z name;unfold nsFind findBy at e;rw[<- Array.find?_toList]at e;unfold PySem.W.lookIn;rw[hd];dsimp only
 split
 ·rename_i y q;rw[q]at e;exact congrArg Y2 e
 ·rename_i q;rw[q]at e;have a:es.toList.any (·.refKey)=false:=by
   rw[Qjo];intro y U;obtain⟨z,t,F⟩:=hk y (Array.mem_toList_iff.mp U);simp[DictEntry.refKey,F]
  have a':¬ es.toList.any (·.refKey)=true:=by rw[a]; exact Qq7
  rw[Z9 a'];exact congrArg Y2 e
def ObjM.look(I:ObjM h x F C z):∃q,PySem.W.InstAt h x (PySem.W.instObj C F) C (Y2 q)/\∀name,PySem.W.lookIn name q=Y2 (z name):=
 let ⟨q,J,L⟩:=qd3 I.ns
 ⟨q,⟨I.obj,rfl,rfl,J⟩,L⟩
section
variable {prog:Program}{w:Qk}{A:Qv}{E:Yv->Qz->Prop}{s:Qz}{K:Qqq}{x dx C f:Ya}{mA:Yb->Option Yv}{name:Yb}{v:Yv}
def qnn(X:K.In s.heap)(I:ObjM s.heap x dx C mA)(O:PySem.W.plainGet K C name=Y0)(L:PySem.W.hasDictIn K C=Y0)(U:PySem.W.findIn K (.ref C) name=Y2 Y3)(z:mA name=Y2 v)(q:PySem.W.handedIn v=Y0)(h:Q v { s with toks:=s.toks+1 }):
  wpAny (model prog w) A (getAttr (.ref x) name expr) Q E s:=by
 obtain⟨Y,J,F⟩:=I.look;exact PySem.W.get_value X J (Qji O).1 (PySem.W.findObj_own L U rfl (by rw[F,z])) q h
def qhe(X:K.In s.heap)(I:ObjM s.heap x dx C mA)(q:PySem.W.plainGet K C name=Y0)(U:PySem.W.findIn K (.ref C) name=Y2 (Y2 (.ref f)))(L:PySem.W.isFn K (.ref f)=Y0)(F:mA name=Y3)(h:Q (.ref f,[.ref x]) s):
  wpAny (model prog w) A (Z4 (.ref x) name pl) Q E s:=by
 obtain⟨z,J,O⟩:=I.look;exact PySem.W.method_fn X J (Qji q).1 (Qji q).2 U (beq_iff_eq.mp L) (by show(PySem.W.lookIn name z).map (·.isSome)=Y2 Y1; rw[O,F]; rfl) h
def ql0(X:K.In s.heap)(I:ObjM s.heap x dx C mA)(hs:PySem.W.findIn K (.ref C) "__setattr__" = Y2 (Y2 (.builtin "object.__setattr__")))(hp:PySem.W.plainOver K C=Y0)(ht:PySem.W.takerIn K C name=Y2 Y3)(hh:PySem.W.hasDictIn K C=Y0)(Z:PySem.Within mA ns)(hsz:ns.length<=sizeLine)(h:∀h',ObjM h' x dx C (λy=>if y=name then Y2 v else mA y)->Heap.SameBut dx s.heap h'->Q () { s with heap:=h',toks:=s.toks+2 }):
  wpAny (model prog w) A (setAttr (.ref x) name v) Q E s:=by
 obtain⟨od,J,hl⟩:=I.look;refine PySem.W.set_plain X J hs (PySem.W.osa_open X J hp ht λb=>?_);obtain⟨cd,hc,O⟩:=PySem.W.any_some hh;have Y:=I.obj;refine Qq (Qx (Qq (Qq (wpAny_loadPart Y (Qq (PySem.W.Looks.here (PySem.W.looks_clsIn X hc) ?_))))));rw[O];refine Qx (Qq (Qx (Qq ?_)));refine wpAny_nsSet1 I.ns λh' z q=>?_;obtain⟨oD,a0,a1,F,L,U⟩:=z.count (PySem.Within.cons name v Z);refine Qq (wpAny_lookBehind F (by rw[L]; exact pastItsLine_dict (Qzl U (by rw[Qqg]; omega))) ?_);exact Qx (h _ ⟨(q.2 _ (Ne.symm I.ne)).trans I.obj,z,I.ne⟩ q)
def qhw(X:K.In s.heap)(z:PySem.W.makesIn K C=Y0)(F:PySem.W.findIn K (.ref C) "__init__" = Y2 (Y2 (.ref f)))(J:PySem.W.typeIn K (.ref f)=Y2 (.type "function"))(h:Zh (model prog w) (A.under (.builtin "type.__call__" ⟨.ref C::vs,q⟩)) (.call (.ref f) ⟨.ref (s.heap.objs.size+1)::vs,q⟩) (PySem.W.InitBack (s.heap.objs.size+1) R)
   { s with heap:=(s.heap.push PySem.W.emptyDict).push (PySem.W.instObj C s.heap.objs.size) }):
  Zh (model prog w) A (.call (.ref C) ⟨vs,q⟩) R s:=by
 obtain⟨L,g,d,t,os⟩:=s;exact PySem.W.make_core (PySem.W.makes_of X z) (PySem.W.looks_findIn X F) (λself=>PySem.W.bind_fn X self J) (.inl rfl) h
end
noncomputable def putF(f:Yb)(v:V):List (Yb×V)->List (Yb×V)
 |[]=>[(f,v)]
 |(g,x)::r=>if g=f then(g,v)::r else(g,x)::putF f v r
theorem qjr(f g)(v):∀fs:List (Yb×V),(putF f v fs).lookup g=if g=f then Y2 v else fs.lookup g
 |[]=>by
  show List.lookup g [(f,v)]=_
  by_cases h:g=f
  ·have q:=beq_iff_eq.mpr h;simp only[List.lookup,q,Xq h]
  ·have q:=beq_eq_false_iff_ne.mpr h;simp only[List.lookup,q,Z9 h]
 |(k,x)::r=>by
  have F:=qjr f g v r;rw[show putF f v ((k,x)::r)=(if k=f then(k,v)::r else(k,x)::putF f v r) from rfl]
  by_cases z:k=f
  ·rw[Xq z]
   by_cases h:g=k
   ·have q:=beq_iff_eq.mpr h;simp only[List.lookup,q,Xq (h.trans z)]
   ·have q:=beq_eq_false_iff_ne.mpr h;simp only[List.lookup,q,Z9 (λe:g=f=>h (e.trans z.symm))]
  ·rw[Z9 z]
   by_cases h:g=k
   ·have q:=beq_iff_eq.mpr h;simp only[List.lookup,q,Z9 (λe:g=f=>z (h.symm.trans e))]
   ·have q:=beq_eq_false_iff_ne.mpr h;simp only[List.lookup,q];exact F
theorem qju(f)(v):∀fs:List (Yb×V),f∈(putF f v fs).map (·.1)/\∀g,g∈fs.map (·.1)->g∈(putF f v fs).map (·.1)
 |[]=>⟨by simp[putF],λg h=>by simp at h⟩
 |(k,x)::r=>by
  obtain⟨F,z⟩:=qju f v r;rw[show putF f v ((k,x)::r)=(if k=f then(k,v)::r else(k,x)::putF f v r) from rfl]
  by_cases q:k=f
  ·rw[Xq q];subst q;exact⟨by simp,λg h=>by simpa using h⟩
  ·rw[Z9 q];refine⟨?_,λg h=>?_⟩
   ·rw[Qqb];exact Qqt _ F
   ·rw[Qqb]at h ⊢;rcases Qqa.mp h with e|e
    ·exact Qqa.mpr (.inl e)
    ·exact Qqt _ (z g e)
theorem qjs(f)(v):∀fs:List (Yb×V),(putF f v fs).length<=fs.length+1
 |[]=>by simp[putF]
 |(k,x)::r=>by
  have z:=qjs f v r;rw[show putF f v ((k,x)::r)=(if k=f then(k,v)::r else(k,x)::putF f v r) from rfl]
  by_cases q:k=f
  ·rw[Xq q,Qqg,Qqg]; omega
  ·rw[Z9 q,Qqg,Qqg]; omega
def RelO.some_of(r:RelO (Y2 v) o):∃u,o=Y2 u/\RelV v u:=by
 cases o with
 |none=>exact(r).elim
 |some u=>exact⟨u,rfl,r⟩
def RelO.none_of(r:RelO Y3 o):o=none:=by
 cases o with
 |none=>rfl
 |some u=>exact(r).elim
def qec(r:RelV v u):PySem.W.handedIn u=true:=by
 cases v with
 |non=>cases (r); rfl
 |bl b=>cases (r); rfl
 |int i=>obtain⟨t,e⟩:=(r); cases e; rfl
 |str x=>obtain⟨t,e⟩:=(r); cases e; rfl
 |byt b=>obtain⟨t,e⟩:=(r); cases e; rfl
 |flt b=>obtain⟨t,e⟩:=(r); cases e; rfl
 |ref a=>cases (r); rfl
 |ty n=>cases (r); rfl
section
def qqy(hok:HOk P w H h)(e:H a=Y2 (.ins C dx fs)):∃mA,ObjM h a dx C mA/\(∀f,RelO (fs.lookup f) (mA f))/\PySem.Within mA (fs.map (·.1))/\fs.length<=1000/\H dx=Y2 (.own a):=by
 obtain⟨d,z,ne,ob,mA,n,r,q⟩:=(hok a _ e)
 exact⟨mA,⟨ob,n,ne⟩,r,q,z,d⟩
end
structure Cls (K:Qqq) (C:Ya):Prop where
 pg:PySem.W.plainGet K C Str.empty=Y0
 hd:PySem.W.hasDictIn K C=Y0
 po:PySem.W.plainOver K C=Y0
 sa:PySem.W.findIn K (.ref C) "__setattr__" = Y2 (Y2 (.builtin "object.__setattr__"))
def Cls.get{K:Qqq}(c:Cls K C)(f):PySem.W.plainGet K C f=true:=c.pg
def NoAttr(K:Qqq)(C:Ya)(f:Yb):Prop:=PySem.W.findIn K (.ref C) f=Y2 Y3
def NoAttr.taker{K:Qqq}(n:NoAttr K C f):PySem.W.takerIn K C f=Y2 none:=by
 unfold PySem.W.takerIn;rw[show PySem.W.findIn K (.ref C) f=Y2 Y3 from n]
 rfl
structure Meth (K:Qqq) (C:Ya) (m:Yb) (f:Ya):Prop where
 at_:PySem.W.findIn K (.ref C) m=Y2 (Y2 (.ref f))
 fn:PySem.W.isFn K (.ref f)=Y0
 kp:Qzp K (.ref f)=Y0
section
def qbt(I:Inv X pins σ H s)(e:H a=Y2 (.ins C dx fs))(c:Cls X.K C)(n:NoAttr X.K C f)(l:fs.lookup f=Y2 v)(h:∀u s',Inv X pins σ H s'->RelV v u->Q u s'):wpAny (model X.prog X.w) A (getAttr (.ref a) f b) Q E s:=by
 obtain⟨mA,O,r,_,_,_⟩:=qqy I.hok e;obtain⟨u,z,q⟩:=RelO.some_of (by rw[<- l]; exact r f);exact qnn I.kIn O (c.get f) c.hd n z (qec q) (h u _ (I.tok _) q)
def qx0(I:Inv X pins σ H s)(e:H a=Y2 (.ins C dx fs))(c:Cls X.K C)(k:Meth X.K C m g)(l:fs.lookup m=Y3)(h:Q (.ref g,[.ref a]) s):wpAny (model X.prog X.w) A (Z4 (.ref a) m pl) Q E s:=by
 obtain⟨mA,O,r,_,_,_⟩:=qqy I.hok e;have hn:=RelO.none_of (by rw[<- l]; exact r m);exact qhe I.kIn O (c.get m) k.at_ k.fn hn h
def qby(I:Inv X pins σ H s)(e:H a=Y2 (.ins C dx fs))(c:Cls X.K C)(n:NoAttr X.K C f)(hl:fs.length<1000)(Y:RelV y u)(h:∀s',Inv X pins σ (upd H a (.ins C dx (putF f y fs))) s'->Q () s'):wpAny (model X.prog X.w) A (setAttr (.ref a) f u) Q E s:=by
 obtain⟨mA,O,r,J,_,L⟩:=qqy I.hok e;have Z:(fs.map (·.1)).length<=sizeLine:=by rw[Qqz,Q5]; omega
 refine ql0 I.kIn O c.sa c.po n.taker c.hd J Z λh' F U=>h _ ?_;have hd:∃o,h'.get? dx=Y2 o:=let ⟨o,_,_,e',_⟩:=F.ns; ⟨o,e'⟩;refine I.write (by rw[e]; exact True.intro) (.inr L) (λb q hb z=>(U.2 b hb).trans z) hd ?_;refine⟨by rw[qzq O.ne]; exact L,?_,O.ne,F.obj,_,F.ns,λg=>?_,λg hg=>?_⟩
 ·have:=qjs f y fs; omega
 ·rw[qjr]
  by_cases q:g=f
  ·rw[Xq q,Xq q]; exact Y
  ·rw[Z9 q,Z9 q]; exact r g
 ·by_cases q:g=f
  ·rw[q]; exact(qju f y fs).1
  ·refine(qju f y fs).2 g (J g λz=>hg ?_);show(if g=f then Y2 u else mA g)=Y3;rw[Z9 q]; exact z
def Inv.made(I:Inv X pins σ H s):Inv X pins σ (upd (upd H s.heap.objs.size (.own (s.heap.objs.size+1))) (s.heap.objs.size+1) (.ins C s.heap.objs.size []))
  { s with heap:=(s.heap.push PySem.W.emptyDict).push (PySem.W.instObj C s.heap.objs.size) }:=by
 have z:(s.heap.push PySem.W.emptyDict).get? s.heap.objs.size=Y2 PySem.W.emptyDict:=Qqc s.heap rfl;have O:((s.heap.push PySem.W.emptyDict).push (PySem.W.instObj C s.heap.objs.size)).get? (s.heap.objs.size+1)=Y2 (PySem.W.instObj C s.heap.objs.size):=by
  have:=Qqc (s.heap.push PySem.W.emptyDict) (o:=PySem.W.instObj C s.heap.objs.size) rfl;rwa [Qz0]at this
 have L:(s.heap.push PySem.W.emptyDict).Ns s.heap.objs.size (λ_=>Y3):=⟨PySem.W.emptyDict,#[],_,z,rfl,(λe J=>absurd J (by simp)),λ_=>rfl⟩
 have U:=I.laid (o:=.own (s.heap.objs.size+1)) (t':=s.toks) (λb u q=>Qqx _ q) (Qqj _) ⟨_,z⟩;refine U.laid (λb u q=>Qqx _ q) (Nat.le_of_eq (Qz0 _ _)) ?_;have ne:s.heap.objs.size≠s.heap.objs.size+1:=Qq1 (Qzb _);refine⟨by rw[qzq ne,qzk],Qzq _,ne,O,λ_=>Y3,(Heap.Ns1.of_empty L).at λo q=>Qqx _ q,λ_=>True.intro,λy F=>absurd rfl F⟩
def qow(z:Q8 e f env (Qa e env)=Qa e env)(h:wpAny (model prog w) A (Qa e env) (λo q=>wpAny (model prog w) A (getAttr o f Y0) Q E q) E s):wpAny (model prog w) A (Qa (.Attribute e f pos) env) Q E s:=
 Attribute_any_ h (by rw[arm_eval_Attribute,z])
end
noncomputable def tFld(K:Qqq)(ta:TE)(f:Yb):TE:=λσ H Q=>ta σ H λx H1=>∃a C dx fs v,x=.ref a/\H1 a=Y2 (.ins C dx fs)/\Cls K C/\NoAttr K C f/\fs.lookup f=Y2 v/\Q v H1
noncomputable def sFld(K:Qqq)(ta tv:TE)(f:Yb):TS:=λD σ H=>tv σ H λy H1=>ta σ H1 λx H2=>∃a C dx fs,x=.ref a/\H2 a=Y2 (.ins C dx fs)/\Cls K C/\NoAttr K C f/\fs.length<1000/\
 D.nx σ (upd H2 a (.ins C dx (putF f y fs)))
section
def pe_fld(J:PE X e ta)(L:Q8 e f X.env (Qa e X.env)=Qa e X.env):PE X (.Attribute e f pos) (tFld X.K ta f):=by
 intro pins s σ H Q I h;refine qow L (thn (J pins s σ H _ I h) λu s1 ⟨x,H1,Y,z,a,C,dx,fs,v,ex,O,c,n,l,q⟩=>?_);subst ex;obtain rfl:u=Value.ref a:=z;exact qbt Y O c n l λZ s2 U F=>⟨v,H1,U,F,q⟩
def ps_fld(Z:PE X o ta)(U:PE X value tv)(Y:swapsWith value (Y2 (.Attribute o f pos')) pos.line X.env=pure Y1):PS X (.Assign [.Attribute o f pos'] value pos) (sFld X.K ta tv f):=by
 intro pins s σ H D I h;refine plainObj_wpAny_Assign_Attribute (thn (U pins s σ H _ I h) λu z ⟨y,H1,I1,F,q⟩=>thn (Z pins z σ H1 _ I1 q) λO s2 ⟨x,H2,I2,J,a,C,dx,fs,ex,ea,c,n,l,L⟩=>?_) Y;subst ex;obtain rfl:O=Value.ref a:=J;exact qby I2 ea c n l F λs3 I3=>⟨σ,_,I3,L⟩
def qm7(he:PE X e U)(I:Inv X F L H s)(h:U L H λx H1=>∃a C dx fs g,x=.ref a/\H1 a=Y2 (.ins C dx fs)/\Cls X.K C/\Meth X.K C m g/\fs.lookup m=Y3/\
   ∀O,Inv X F L H1 O->wpAny (model X.prog X.w) X.A (callWith pos (.ref g) [.ref a] (backTo pos (starEach z X.env)) (backToKw pos (keywordEach [] X.env))) Q X.xe O)(ht:Qa (.Call (.Attribute e m J) z [] pos) X.env=(do
   let Y <- Qa e X.env
   standAt J.atName
   let (f,first) <- holding [Y] (Z4 Y m pl)
   callWith pos f first (backTo pos (starEach z X.env)) (backToKw pos (keywordEach [] X.env)))):
  wpAny (model X.prog X.w) X.A (Qa (.Call (.Attribute e m J) z [] pos) X.env) Q X.xe s:=by
 refine Qjv (thn (he F s L H _ I h) λu O ⟨x,H1,Z,rx,a,C,dx,fs,g,ex,ea,c,k,l,q⟩=>?_) ht;subst ex;obtain rfl:u=Value.ref a:=rx;exact qx0 Z ea c k l (q O Z)
end
section
end
structure Room (k:Nat) (A:Qv):Prop where
 hd:A.handled=Y3
 dp:A.depth+3*k+5<recursionLimit
 un:A.units+16*k+200<cLine
def Room.mono(r:Room k A)(h:j<=k):Room j A:=⟨r.hd,by have:=r.dp; omega,by have:=r.un; omega⟩
theorem Room.deeper(r:Room (k+1) A)(env):Room k (A.deeper env):=
 ⟨r.hd,by have:=r.dp; show A.depth+1+3*k+5<_; omega,by have:=r.un; show A.units+3+16*k+200<_; omega⟩
def qbo{A:Qv}:(A.under (.builtin "type.__call__" ⟨.ref C::us,q⟩)).depth=A.depth+1:=by
 first|rfl|simp[Around.under,Code.weight,Code.isCreation,Code.isGuard,Code.isCaller,Code.frames,Code.isFrame,guardIds]
def qbn{A:Qv}:(A.under (.builtin "type.__call__" ⟨.ref C::us,q⟩)).units=A.units+1:=by
 first|rfl|simp[Around.under,Code.cUnits,Code.frames,Code.isFrame]
def Room.make(r:Room (k+1) A)(C)(us)(q):Room k (A.under (.builtin "type.__call__" ⟨.ref C::us,q⟩)):=
 ⟨r.hd,by have:=r.dp; rw[qbo]; omega,by have:=r.un; rw[qbn]; omega⟩
theorem Room.depth(r:Room k A):A.depth<recursionLimit:=by have:=r.dp; omega
theorem Room.units(r:Room k A):A.units+64<cLine:=by have:=r.un; omega
noncomputable def tNil:TA:=λ_ H Q=>Q [] H
noncomputable def qlm(ta:TE)(tr:TA):TA:=λσ H Q=>ta σ H λx H1=>tr σ H1 λxs H2=>Q (x::xs) H2
section
def pa_nil:PA X [] tNil:=λ_ _ _ _ H Q I h=>Calls.spliced_nil ⟨[],H,I,.nil,h⟩
def qqp(Y:PE X e te)(U:PA X es t)(O:starEach (e::es) X.env=(Y1,Qa e X.env)::starEach es X.env:=by rfl):PA X (e::es) (qlm te t):=by
 intro pos pins s σ H Q I h;rw[O];refine Calls.spliced_cons (thn (Y pins s σ H _ I h) λu q ⟨x,H1,I1,F,L⟩=>?_);exact thn (U pos pins q σ H1 _ I1 L) λus s2 ⟨xs,H2,Z,z,J⟩=>⟨x::xs,H2,Z,.cons F z,J⟩
noncomputable def tTup(t:TA):TE:=λσ H Q=>t σ H λxs H1=>xs.length<=sizeLine/\∀p,H1 p=Y3->Q (.ref p) (upd H1 p (.tup xs))
noncomputable def tLst(t:TA):TE:=λσ H Q=>t σ H λxs H1=>xs.length<=sizeLine/\∀p,H1 p=Y3->Q (.ref p) (upd H1 p (.lst xs))
def qdw{L}(h:PA X es t):PE X (.Tuple es L pos) (tTup t):=by
 intro pins s σ H Q I U;refine wpAny_Tuple_spliced (thn (h pos pins s σ H _ I U) λO F ⟨xs,H1,J,r,z,q⟩=>⟨by rw[<- r.length]; exact z,?_⟩);have hf:=J.hok.fresh (Qqj _);refine⟨.ref F.heap.objs.size,upd H1 F.heap.objs.size (.tup xs),J.laid (λb u e=>Qqx _ e) (Qqj _) ?_,rfl,q _ hf⟩;exact⟨z,O,r,⟨_,Qqc _ rfl,rfl,_,rfl⟩⟩
def pe_lst(h:PA X es t):PE X (.List es pos) (tLst t):=by
 intro pins s σ H Q I O;refine wpAny_List_spliced (thn (h pos pins s σ H _ I O) λL F ⟨xs,H1,J,r,z,q⟩=>⟨by rw[<- r.length]; exact z,?_⟩);have hf:=J.hok.fresh (Qqj _);refine⟨.ref F.heap.objs.size,upd H1 F.heap.objs.size (.lst xs),J.laid (λb u e=>Qqx _ e) (Qqj _) ?_,rfl,q _ hf⟩;exact⟨z,L,0,r,Qqc _ rfl⟩
end
abbrev Sp:=List V->Hp->VK->XK->Prop
abbrev CXT:=List Env->Hp->Qz->XK->Yv->Qz->Prop
structure Env0 (P:Program) (w:Qk) (K:Qqq) (mg:Yb->Option Yv) (base:Heap) (A:Qv) (outer:List Env) (s:Qz) (H:Hp):Prop where
 frames:A.frames=Y2 outer
 mod:Mod K mg base
 bs:∀b o,base.get? b=Y2 o->s.heap.get? b=Y2 o/\H b=Y3
 bsz:base.objs.size<=s.heap.objs.size
 funs:s.heap.FunFrames base outer
 frf:∀b∈frs outer,H b=Y3
 hok:HOk P w H s.heap
 bare:Zr s.gens
def CE(outer:List Env)(P:Program)(w:Qk)(H:Hp)(s:Qz)(Q:VK)(u:Yv)(s':Qz):Prop:=
 ∃v H',s'.os=s.os/\Zr s'.gens/\Un (frs outer) [] H H' s.heap s'.heap/\HOk P w H' s'.heap/\RelV v u/\Q v H'
def CR(CX:CXT)(outer:List Env)(P:Program)(w:Qk)(H:Hp)(s:Qz)(Q:VK)(E:XK)(r:Result)(s':Qz):Prop:=
 match r with
 |.ok (.ret u)=>CE outer P w H s Q u s'
 |.ok _=>False
 |.error e=>CX outer H s E e s'
structure FnOk (P:Program) (w:Qk) (K:Qqq) (mg:Yb->Option Yv) (base:Heap) (CX:CXT) (k:Nat) (f:Ya) (fd:Qr) (ps:List Yb) (sp:Sp):Prop where
 len:∀vs H Q E,sp vs H Q E->vs.length=ps.length
 run:∀(A:Qv) (outer:List Env) (s:Qz) (H:Hp) (args:Args) (us:List Yv) (vs:List V) (Q:VK) (E:XK),Room k A->Env0 P w K mg base A outer s H->BindsTo s fd args (ps.zip us)->Vals vs us->sp vs H Q E->
  Zh (model P w) A (.call (.ref f) args) (CR CX outer P w H s Q E) s
def FnOk.imp{K:Qqq}(F:FnOk P w K mg base O k f L ps J)(h:∀vs H Q E,sp' vs H Q E->J vs H Q E):FnOk P w K mg base O k f L ps sp':=
 ⟨λvs H Q E q=>F.len vs H Q E (h _ _ _ _ q),λA outer s H z U vs Q E hr he hb Y Z=>F.run A outer s H z U vs Q E hr he hb Y (h _ _ _ _ Z)⟩
def Env0.make{K:Qqq}(e:Env0 P w K mg base A outer s H)(C)(us)(q):
  Env0 P w K mg base (A.under (.builtin "type.__call__" ⟨.ref C::us,q⟩)) outer s H:=⟨by first|exact e.frames|(simpa[Around.under,Code.envs,Code.isFrame,pushEnvs] using e.frames),e.mod,e.bs,e.bsz,e.funs,e.frf,e.hok,e.bare⟩
section
def Inv.env0(I:Inv X pins σ H s):Env0 X.prog X.w X.K X.mg X.base X.A X.stack s H:=
 ⟨I.ok.frames,I.ok.mod,I.bs,Qzl I.ok.bsz I.sz,I.stack,I.stkFree,I.hok,I.bare⟩
def Inv.after(I:Inv X pins σ H s)(h:CE X.stack X.prog X.w H s Q u s'):EP X pins σ Q u s':=by
 obtain⟨v,H',os,bare,un,hok,r,q⟩:=h;obtain⟨J,g,d,t,F⟩:=s';obtain rfl:F=s.os:=os;exact⟨v,H',I.call un hok bare (λb z=>absurd z (by simp)),r,q⟩
end
noncomputable def tCall(sp:Sp)(dvs:List V)(E:XK)(t:TA):TE:=λσ H Q=>t σ H λvs H1=>sp (vs++dvs) H1 Q E
noncomputable def qlh(C:Ya)(m:Yb)(sp:Sp)(dvs:List V)(E:XK)(ta:TE)(t:TA):TE:=λσ H Q=>ta σ H λx H1=>∃a dx fs,x=.ref a/\H1 a=Y2 (.ins C dx fs)/\fs.lookup m=Y3/\
 t σ H1 λvs H2=>sp (x::(vs++dvs)) H2 Q E
noncomputable def tMake(C:Ya)(sp:Sp)(dvs:List V)(E:XK)(t:TA):TE:=λσ H Q=>t σ H λvs H1=>∀x dx,H1 x=Y3->H1 dx=Y3->dx≠x->
 sp (.ref x::(vs++dvs)) (upd (upd H1 dx (.own x)) x (.ins C dx [])) (λv H2=>v=.non/\Q (.ref x) H2) E
def Binds(K:Qqq)(fd:Qr)(ps:List Yb)(ds:List Yv):Prop:=
 ∀(s:Qz) (us:List Yv),K.In s.heap->(us++ds).length=ps.length->BindsTo s fd ⟨us,[]⟩ (ps.zip (us++ds))
def Binds.all{K:Qqq}(h:∀q:List Yv,q.length=ps.length->bindArgs F ⟨q,[]⟩=pure (ps.zip q)):Binds K F ps []:=λs q _ z=>by
 rw[Qzh]at z ⊢;exact .of_eq (h q z)
def qkx(CX:CXT)(X:Cx)(E:XK):Prop:=∀(pins:List (Ya×Obj)) (σ:St) (H:Hp) (s:Qz) (e:Yv) (s':Qz),Inv X pins σ H s->CX X.stack H s E e s'->X.xe e s'
section
def qc4(F:FnOk X.prog X.w X.K X.mg X.base CX k f fd ps sp)(U:Room k X.A)(Z:Binds X.K fd ps ds)(hd:Vals dvs ds)(O:qkx CX X E)(I:Inv X q J H s)(r:Vals vs us)(h:sp (vs++dvs) H Q E):wpAny (model X.prog X.w) X.A (call (.ref f) us) (EP X q J Q) X.xe s:=by
 have L:=r.append hd;have Y:(us++ds).length=ps.length:=by rw[<- L.length]; exact F.len _ _ _ _ h
 refine wpAny_call (Zk (F.run X.A X.stack s H ⟨us,[]⟩ (us++ds) (vs++dvs) Q E U I.env0 (Z s us I.kIn Y) L h) λr s' z=>?_)
 cases r with
 |error e=>exact O q J H s e s' I z
 |ok fl=>
  cases fl with
  |ret u=>exact I.after z
  |next=>exact False.elim z
  |brk=>exact False.elim z
  |cont=>exact False.elim z
def qmn(F:FnOk X.prog X.w X.K X.mg X.base CX k f fd ps sp)(U:Room k X.A)(hg:Gl X x)(Y:X.mg x=Y2 (.ref f))(Z:Qzp X.K (.ref f)=Y0)(hb:Binds X.K fd ps ds)(hd:Vals dvs ds)(O:qkx CX X E)
  (ha:PA X (e::es) t) (J:(x==("__debug__" : Yb))=false:=by decide) (he:starEach (e::es) X.env=(Y1,Qa e X.env)::starEach es X.env:=by rfl) (z:(backTo pos (starEach es X.env)).any (·.1)=false:=by rfl) :
  PE X (.Call (.Name x p) (e::es) [] pos) (tCall sp dvs E t):=by
 intro pins s σ H Q I h;refine Zg (qyb I hg Y ?_ J);refine Qjl I.ok.mod.kin Z (thn (ha pos pins s σ H _ I h) λus s1 ⟨vs,H1,L,r,q⟩=>⟨L.kIn,?_⟩) he z;exact qc4 F U hb hd O L r q
def qmf(he:PE X o ta)(c:Cls X.K C)(O:Meth X.K C m f)(F:FnOk X.prog X.w X.K X.mg X.base CX k f fd ps sp)(hr:Room k X.A)(hb:Binds X.K fd ps ds)(hd:Vals dvs ds)(hx:qkx CX X E)(ha:PA X (e::es) t)(z:starEach (e::es) X.env=(Y1,Qa e X.env)::starEach es X.env:=by rfl)(J:(backTo pos (starEach es X.env)).any (·.1)=false:=by rfl)(ht:Qa (.Call (.Attribute o m apos) (e::es) [] pos) X.env=(do
   let L <- Qa o X.env
   standAt apos.atName
   let (f,first) <- holding [L] (Z4 L m pl)
   callWith pos f first (backTo pos (starEach (e::es) X.env)) (backToKw pos (keywordEach [] X.env))):=by rfl):
  PE X (.Call (.Attribute o m apos) (e::es) [] pos) (qlh C m sp dvs E ta t):=by
 intro pins s σ H Q I h;refine Qjv (thn (he pins s σ H _ I h) λu s1 ⟨x,H1,Y,rx,a,dx,fs,ex,ea,l,q⟩=>?_) ht;subst ex;obtain rfl:u=Value.ref a:=rx;refine qx0 Y ea c O l ?_;refine Qjl I.ok.mod.kin O.kp (thn (ha pos pins s1 σ H1 _ Y q) λZ s2 ⟨vs,H2,U,r,q2⟩=>⟨U.kIn,?_⟩) z J;exact qc4 (vs:=.ref a::vs) F hr hb hd hx U (.cons rfl r) q2
def qg1(he:PE X o ta)(c:Cls X.K C)(L:Meth X.K C m f)(F:FnOk X.prog X.w X.K X.mg X.base CX k f fd ps sp)(Z:Room k X.A)(hb:Binds X.K fd ps ds)(hd:Vals dvs ds)(U:qkx CX X E)(Y:Qa (.Call (.Attribute o m apos) [] [] pos) X.env=(do
   let J <- Qa o X.env
   standAt apos.atName
   let (f,first) <- holding [J] (Z4 J m pl)
   callWith pos f first (backTo pos (starEach [] X.env)) (backToKw pos (keywordEach [] X.env))):=by rfl):
  PE X (.Call (.Attribute o m apos) [] [] pos) (qlh C m sp dvs E ta tNil):=by
 intro pins s σ H Q I h;refine Qjv (thn (he pins s σ H _ I h) λu s1 ⟨x,H1,z,O,a,dx,fs,ex,ea,l,q⟩=>?_) Y;subst ex;obtain rfl:u=Value.ref a:=O;refine qx0 z ea c L l ?_;exact PySem.W.callWith_K0 z.kIn L.kp (qc4 (vs:=[.ref a]) F Z hb hd U z (.cons rfl .nil) q)
structure Mk (K:Qqq) (C f:Ya):Prop where
 makes:PySem.W.makesIn K C=Y0
 init:PySem.W.findIn K (.ref C) "__init__" = Y2 (Y2 (.ref f))
 fn:PySem.W.isFn K (.ref f)=Y0
 kp:Qzp K (.ref C)=Y0
def qgg(M:Mk X.K C f)(F:FnOk X.prog X.w X.K X.mg X.base CX k f fd ps sp)(hr:Room (k+1) X.A)(hb:Binds X.K fd ps ds)(hd:Vals dvs ds)(hx:qkx CX X E)(I:Inv X q L H s)(r:Vals vs us)(h:∀x dx,H x=Y3->H dx=Y3->dx≠x->sp (.ref x::(vs++dvs)) (upd (upd H dx (.own x)) x (.ins C dx [])) (λv H2=>v=.non/\Q (.ref x) H2) E):
  wpAny (model X.prog X.w) X.A (call (.ref C) us) (EP X q L Q) X.xe s:=by
 have U:=h (s.heap.objs.size+1) s.heap.objs.size (I.hok.fresh (Qxq _)) (I.hok.fresh (Qqj _)) (Qq1 (Qzb _));have J:=Inv.made (C:=C) I;have O:Vals (V.ref (s.heap.objs.size+1)::(vs++dvs)) (Value.ref (s.heap.objs.size+1)::(us++ds)):=.cons rfl (r.append hd);have hl:(Value.ref (s.heap.objs.size+1)::us++ds).length=ps.length:=by
  have e:=O.length;rw[F.len _ _ _ _ U]at e;exact e.symm
 refine wpAny_call (qhw I.kIn M.makes M.init (beq_iff_eq.mp M.fn) (Zk (F.run _ X.stack _ _ ⟨Value.ref (s.heap.objs.size+1)::us,[]⟩ (Value.ref (s.heap.objs.size+1)::(us++ds)) _ _ E (hr.make C us [])
  (J.env0.make C us []) (hb _ (Value.ref (s.heap.objs.size+1)::us) J.kIn hl) O U) λr s' z=>?_))
 cases r with
 |error e=>exact hx q L _ _ e s' J z
 |ok fl=>
  cases fl with
  |ret u=>
   obtain⟨v,H',I3,Y,ev,Z⟩:=J.after z;subst ev;exact⟨Y,⟨V.ref (s.heap.objs.size+1),H',I3,rfl,Z⟩⟩
  |next=>exact False.elim z
  |brk=>exact False.elim z
  |cont=>exact False.elim z
def qmg(M:Mk X.K C f)(F:FnOk X.prog X.w X.K X.mg X.base CX k f fd ps sp)(U:Room (k+1) X.A)(Z:Gl X x)(Y:X.mg x=Y2 (.ref C))(hb:Binds X.K fd ps ds)(hd:Vals dvs ds)(O:qkx CX X E)
  (ha:PA X (e::es) t) (J:(x==("__debug__" : Yb))=false:=by decide) (he:starEach (e::es) X.env=(Y1,Qa e X.env)::starEach es X.env:=by rfl) (z:(backTo pos (starEach es X.env)).any (·.1)=false:=by rfl) :
  PE X (.Call (.Name x p) (e::es) [] pos) (tMake C sp dvs E t):=by
 intro pins s σ H Q I h;refine Zg (qyb I Z Y ?_ J);refine Qjl I.ok.mod.kin M.kp (thn (ha pos pins s σ H _ I h) λus s1 ⟨vs,H1,L,r,q⟩=>⟨L.kIn,?_⟩) he z;exact qgg M F U hb hd O L r q
end
section
end
structure FnScope (N P:List Yb) (sc:Scope):Prop where
 kind:sc.kind=.function
 co:sc.isCoroutine=Y1
 gen:sc.isGenerator=Y1
 nd:N.Nodup
 pre:N.take P.length=P
 par:∀x∈P,sc.names.lookup x=Y2 .local\/sc.names.lookup x=Y2 .cell
 nofree:∀y∈sc.names,y.2≠.free
theorem qw1:∀{binds}{m},(∀v,(x,v) ∉ binds)->bindL q binds m x=m x
 |[],_,_=>rfl
 |(n,v)::r,m,h=>by
  unfold bindL;rw[qw1 λw z=>h w (Qqt _ z)]
  split
  ·have:x≠n:=by rintro rfl; exact h v Qq6
   simp[this]
  ·rfl
theorem qw3:∀{binds}{m},(∀v,(x,v) ∉ binds)->bindC q binds m x=m x
 |[],_,_=>rfl
 |(n,v)::r,m,h=>by
  unfold bindC;rw[qw3 λw z=>h w (Qqt _ z)]
  split
  ·rfl
  ·have:x≠n:=by rintro rfl; exact h v Qq6
   simp[this]
theorem qw2:∀{P:List Yb}{vs:List Yv}{i:Nat}{m:Yb->Option Yv},P.Nodup->P[i]?=Y2 x->vs[i]?=Y2 v->q x=Y2 .local->
  bindL q (P.zip vs) m x=Y2 v
 |[],_,_,_,_,h,_,_=>by simp at h
 |_::_,[],_,_,_,_,h,_=>by simp at h
 |p::P,w::vs,0,m,nd,h1,h2,z=>by
  simp at h1 h2; subst h1; subst h2;show bindL q ((p,w)::P.zip vs) m p=_;unfold bindL;rw[qw1 λv F=>(Qzv.mp nd).1 (Qj8 F).1,Xq z];simp
 |p::P,w::vs,i+1,m,nd,h1,h2,z=>by
  unfold bindL;exact qw2 (Qzv.mp nd).2 (by simpa using h1) (by simpa using h2) z
theorem qw4:∀{P:List Yb}{vs:List Yv}{i:Nat}{m:Yb->Option Yv},P.Nodup->P[i]?=Y2 x->vs[i]?=Y2 v->q x≠Y2 .local->
  bindC q (P.zip vs) m x=Y2 v
 |[],_,_,_,_,h,_,_=>by simp at h
 |_::_,[],_,_,_,_,h,_=>by simp at h
 |p::P,w::vs,0,m,nd,h1,h2,z=>by
  simp at h1 h2; subst h1; subst h2;show bindC q ((p,w)::P.zip vs) m p=_;unfold bindC;rw[qw3 λv F=>(Qzv.mp nd).1 (Qj8 F).1,Z9 z];simp
 |p::P,w::vs,i+1,m,nd,h1,h2,z=>by
  unfold bindC;exact qw4 (Qzv.mp nd).2 (by simpa using h1) (by simpa using h2) z
noncomputable def start(N:List Yb)(vs:List V):St:=vs.map Y2++List.replicate (N.length - vs.length) Y3
noncomputable def cxOf(CX:CXT)(P:Program)(w:Qk)(K:Qqq)(mg:Yb->Option Yv)(base:Heap)(N:List Yb)(qual:Yb)(scope:Scope)(f:Ya)(cd:Yv)(A:Qv)(outer:List Env)(s:Qz)(H:Hp)(E:XK):Cx where
 prog:=P
 w:=w
 K:=K
 mg:=mg
 base:=base
 A:=A.deeper (envOfC qual scope s.heap.objs.size f cd)
 N:=N
 s₀:=s
 H₀:=H
 env:=envOfC qual scope s.heap.objs.size f cd
 outer:=outer
 stack:=envOfC qual scope s.heap.objs.size f cd::outer
 ex:=[]
 calm:=Y0
 fn:=λ_=>Y0
 pn:=[]
 xe:=λe s'=>wpAny (model P w) (A.deeper (envOfC qual scope s.heap.objs.size f cd)) (leaving (envOfC qual scope s.heap.objs.size f cd) e) (λ_ s''=>CX outer H s E e s'') (λe' s''=>CX outer H s E e' s'') s'
def qa8{sc:Scope}(h:sc.names.lookup x=Y2 .cell):∃c,(cellsFrom n sc.names []).lookup x=Y2 c:=by
 have q:=Qj9 sc.names n [] (.inl h);exact Qzt.mp q
def qew{K:Qqq}(S:FnScope N ps F)(hd:A.handled=Y3)(L:Env0 P w K mg base A outer s H)(hl:vs.length=ps.length)(r:Vals vs us)(x:InCallC s s.heap.objs.size (bindL (envOfC J F s.heap.objs.size f cd).kindOf (ps.zip us) λ_=>Y3) (cellsFrom (s.heap.objs.size+1) F.names []) (bindC (envOfC J F s.heap.objs.size f cd).kindOf (ps.zip us) λ_=>Y3) s1):
  Inv (cxOf CX P w K mg base N J F f cd A outer s H E) [] (start N vs) H s1:=by
 have a0:ps.length<=N.length:=by have:=congrArg List.length S.pre; rw[Qzz]at this; omega
 obtain⟨h1,tk,rfl,hk⟩:=x.done;have O:∀b:Ya,b ∉ (cxOf CX P w K mg base N J F f cd A outer s H E).ex:=λb z=>absurd (show b∈([]:List Ya) from z) (by simp)
 refine⟨⟨L.mod,S.kind,rfl,rfl,Qqj _,λy z c h1 h2=>?_,λy U=>?_,λy c _ h=>?_,λ_=>hd,Around.frames_deeper L.frames,.inr ⟨rfl,rfl⟩,λb z=>absurd z (O b),L.bs,L.bsz,λb _ _=>O b,λb z=>absurd z (O b),L.funs,L.frf⟩,
  rfl,L.bare,Un.kept hk,⟨_,x.toInCall.ns,λi y v h1 h2 h3=>?_⟩,λy c h=>⟨_,x.cell y c h⟩,L.hok.fresh (Qqj _),λy c h=>?_,λp Z=>absurd (show p∈([]:List (Ya×Obj)) from Z) (by simp),L.hok.kept hk,?_⟩
 ·exact name_of_addr x.apart (PySem.mem_of_lookup h1) (PySem.mem_of_lookup h2)
 ·have U:=U;rcases U with U|U
  ·exact qa8 U
  ·exact absurd rfl (S.nofree _ (PySem.mem_of_lookup U))
 ·exact Qjb (x.above y c (PySem.mem_of_lookup h))
 ·have hi:i<vs.length:=by
   unfold start at h2
   by_cases hi:i<vs.length
   ·exact hi
   ·rw[Qzm (by simpa using hi)]at h2;rw[Qj6]at h2
    split at h2<;>cases h2
  have ha:vs[i]?=Y2 v:=by
   unfold start at h2;rw[Qq2 (by simpa using hi),Qqv]at h2
   cases e:vs[i]? with
   |none=>rw[e]at h2; cases h2
   |some a=>rw[e]at h2; cases h2; rfl
  obtain⟨u,hu,rv⟩:=r.get ha;have Z:ps[i]?=Y2 y:=by
   rw[<- S.pre,Qj2 (by omega)]; exact h1
  have Y:ps.Nodup:=by rw[<- S.pre]; exact S.nd.sublist (Qjp _ _)
  refine⟨u,rv,?_⟩;rcases S.par y (Qqm Z) with k|k
  ·exact .inl ⟨k,qw2 Y Z hu k⟩
  ·obtain⟨c,e⟩:=qa8 k;refine .inr ⟨.inl k,c,e,?_⟩;have q:=x.cell y c e;rw[qw4 Y Z hu (by show F.names.lookup y≠_; rw[k]; decide)]at q;exact q
 ·exact L.hok.fresh (Qjb (x.above y c (PySem.mem_of_lookup h)))
 ·unfold start;show _=N.length;rw[Qqi,Qqz,Qjw];omega
def fn_of{K:Qqq}{kV:Yv}(lk:K.lookup f=Y2 ⟨oc,od,.func (PySem.W.fnOf name F O body z dV kV doc pm an L ct),a2⟩)(a3:PySem.W.codeIn K L F=Y0)(S:FnScope N ps z)(len:∀vs H Q E,sp vs H Q E->vs.length=ps.length)(Z:∀(A:Qv) (outer:List Env) (s:Qz) (H:Hp) (vs:List V) (Q:VK) (E:XK),Room k (A.deeper (envOfC F z s.heap.objs.size f L))->sp vs H Q E->
   ∃t,PSs (cxOf CX P w K mg base N F z f L A outer s H E) body t/\t { nx:=λ_ H'=>Q .non H',rt:=Q } (start N vs) H):
  FnOk P w K mg base CX (k+1) f (PySem.W.fnOf name F O body z dV kV doc pm an L ct) ps sp:=by
 refine⟨len,λA outer s H a4 us vs Q E hr e0 hb r a0=>?_⟩;have hl:=len _ _ _ _ a0;have KX:=e0.mod.kin.keeps λb o e=>(e0.bs b o e).1;have lim:=e0.mod.nolimit.keeps λb o e=>(e0.bs b o e).1;have Y:∀y∈ps.zip us,z.names.lookup y.1=Y2 .local\/(z.names.lookup y.1=Y2 .cell/\((cellsFrom (s.heap.objs.size+1) z.names []).lookup y.1).isSome=Y0):=λ⟨n,v⟩ hy=>by
  rcases S.par n (Qj8 hy).1 with q|q
  ·exact .inl q
  ·exact .inr ⟨q,Qj9 _ _ _ (.inl q)⟩
 refine codeAny_call_function hr.depth (KX _ _ lk) rfl S.co S.gen rfl (PySem.W.codeRec_of KX a3) (hb _ _ _ _ ?_);refine wpAny_newFunctionEnv_cells S.kind Y λenv he s1 x=>?_;subst he;refine⟨lim.keeps x.toInCall.keep,codeAny_func ?_⟩;obtain⟨t,ht,hq⟩:=Z A outer s H vs Q E (hr.deeper _) a0;have I:Inv (cxOf CX P w K mg base N F z f L A outer s H E) [] (start N vs) H s1:=qew S hr.hd e0 hl r x;refine Ql (ht [] s1 (start N vs) H _ I hq) (λfl s' hs=>?_) λe s' hs=>hs;have a1:∀{U:St}{H':Hp}{v:V}{u:Yv},Inv (cxOf CX P w K mg base N F z f L A outer s H E) [] U H' s'->RelV v u->Q v H'->CE outer P w H s Q u s':=
  λ{U H' v u} J rv q=>⟨v,H',J.os,J.bare,J.base,J.hok,rv,q⟩
 cases fl with
 |ret u=>
  obtain⟨v,U,H',J,rv,q⟩:=hs;exact a1 J rv q
 |next=>
  obtain⟨U,H',J,q⟩:=hs;exact a1 (v:=V.non) J rfl q
 |brk=>
  obtain⟨_,_,_,q⟩:=hs;exact False.elim q
 |cont=>
  obtain⟨_,_,_,q⟩:=hs;exact False.elim q
section
variable {X:Cx}{x:Yb}{p pos:Pos}{e:Qj}{es:List Qj}{t:TA}{id:String}{r:List V->Hp->VK->Prop}
noncomputable def tCB(r:List V->Hp->VK->Prop)(t:TA):TE:=λσ H Q=>t σ H λvs H1=>r vs H1 Q
def qz6(hc:qqh X (.builtin id) r)(hg:Gl X x)(Z:X.mg x=Y3)(U:Qe x=Y2 (.builtin id))(ha:PA X (e::es) t)(Y:x ≠ "__name__":=by decide)(z:(x==("__debug__" : Yb))=false:=by decide)
  (he:starEach (e::es) X.env=(Y1,Qa e X.env)::starEach es X.env:=by rfl) (q:(backTo pos (starEach es X.env)).any (·.1)=false:=by rfl):PE X (.Call (.Name x p) (e::es) [] pos) (tCB r t):=by
 intro pins s σ H Q I h;refine Zg (qx8 I hg Z U ?_ Y z);exact PyProof.Rows.callWith_builtin1 (thn (ha pos pins s σ H _ I h) λF J ⟨vs,H1,I1,L,O⟩=>hc pins J σ H1 vs F Q I1 L O) he q
def qjm(hc:qqh X (.type T) r)(hg:Gl X x)(Z:X.mg x=Y3)(U:Qe x=Y2 (.type T))(ha:PA X (e::es) t)(Y:x ≠ "__name__":=by decide)(z:(x==("__debug__" : Yb))=false:=by decide)
  (he:starEach (e::es) X.env=(Y1,Qa e X.env)::starEach es X.env:=by rfl) (q:(backTo pos (starEach es X.env)).any (·.1)=false:=by rfl):PE X (.Call (.Name x p) (e::es) [] pos) (tCB r t):=by
 intro pins s σ H Q I h;refine Zg (qx8 I hg Z U ?_ Y z);exact PyProof.Rows.callWith_type1 (thn (ha pos pins s σ H _ I h) λF J ⟨vs,H1,I1,L,O⟩=>hc pins J σ H1 vs F Q I1 L O) he q
end
end L2
namespace HT
open PySem PyProof.Rows
section
open PySem.SeqAt
open PySem.AutoSeq1 (wpAny_loadPart')
open PySem.MeetsSeq PySem.MeetsSeq2 PySem.MeetsSeq3
end
section
def cat_tup(ht:IsTup s.heap t vs.toArray)(hb:IsTup s.heap b ws.toArray)(hv:vs≠[])(h1:ws=[]->Q (.ref t) s)(h2:ws≠[]->Q (.ref s.heap.objs.size) { s with heap:=s.heap.push { cls:=.type "tuple",data:=.seq (vs++ws).toArray } })(hsz:vs.length+ws.length<=sizeLine):wpAny (model prog w) A (Q6 .Add (.ref t) (.ref b)) Q E s:=by
 obtain⟨⟨cls,dd,data,sl⟩,U,hc,n,hd⟩:=id ht;obtain⟨⟨a0,L,Y,z⟩,q,J,Z,F⟩:=id hb;simp only at hc hd J F;subst hc hd J F;have e:vs.toArray++ws.toArray=(vs++ws).toArray:=by simp
 by_cases O:ws=[]
 ·exact concat_meets ⟨_,U,rfl⟩ ⟨_,q,rfl⟩ noFill_tuple_add seq_tuple_add PySem.F.slot_tuple_add PySem.F.entry_tuple_add (PySem.F.args_tuple_add_2 _ _)
   (tuple_addW1 t b vs.toArray ws.toArray n Z dd L sl z (by simpa using hv) (by simp[O])) ⟨U,q,h1 O⟩
 ·refine concat_meets ⟨_,U,rfl⟩ ⟨_,q,rfl⟩ noFill_tuple_add seq_tuple_add PySem.F.slot_tuple_add PySem.F.entry_tuple_add (PySem.F.args_tuple_add_2 _ _)
   (tuple_addW2 t b vs.toArray ws.toArray n Z dd L sl z (by simpa using hv) (by simpa using O) (by rw[Qqd,Qqd]; exact hsz)) ⟨U,q,?_⟩
  rw[e];exact h2 O
noncomputable def sIx(n d:Nat):Option Int->Nat
 |none=>d
 |some v=>if v<0 then(v+(n:Int)).toNat else min v.toNat n
def sIx_le(n d)(hd:d<=n)(o):sIx n d o<=n:=by
 cases o with
 |none=>exact hd
 |some v=>
  show(if v<0 then(v+(n:Int)).toNat else min v.toNat n)<=n
  by_cases q:v<0
  ·rw[Xq q]; omega
  ·rw[Z9 q]; exact Nat.min_le_right _ _
def qe6(v)(n d:Nat):(if v<0 then max (v+(n:Int)) 0 else min v (n:Int))=((sIx n d (Y2 v):Nat):Int):=by
 show(if v<0 then max (v+(n:Int)) 0 else min v (n:Int))=(((if v<0 then(v+(n:Int)).toNat else min v.toNat n):Nat):Int)
 by_cases q:v<0
 ·simp only[Xq q]; omega
 ·simp only[Z9 q]; omega
def qb9(lo q)(n:Nat):Builtin.Slice.sliceAdjust lo q 1 (n:Int)=(((sIx n 0 lo:Nat):Int),((sIx n n q:Nat):Int)):=by
 have h1:¬ ((1:Int)<0):=by omega
 unfold Builtin.Slice.sliceAdjust;simp only[h1,if_false];refine Prod.ext ?_ ?_
 ·cases lo with
  |none=>rfl
  |some v=>exact qe6 v n 0
 ·cases q with
  |none=>rfl
  |some v=>exact qe6 v n n
def qbe(i j:Nat):Builtin.Slice.slicePlaces (i:Int) (j:Int) 1=j - i:=by
 unfold Builtin.Slice.slicePlaces;have h1:(1:Int) > 0:=by omega
 simp only[h1,if_true,Int.ediv_one]
 split<;>omega
def qkg(p:IsPart v o)(h:Q o s):wpAny (model prog w) A (Builtin.Slice.slicePartIndex v) Q E s:=by
 cases p with
 |none=>exact slicePart_none h
 |int i t=>exact slicePart_int h
def sliceApplied_gen{lo:Option Int}{n:Nat}(O:s.heap.IsSliceOf sl vl J .none)(pl:IsPart vl lo)(L:IsPart J z)(h:Q (((sIx n 0 lo:Nat):Int),1,sIx n n z - sIx n 0 lo) s):wpAny (model prog w) A (Builtin.Slice.sliceApplied (.ref sl) (pure (n:Int))) Q E s:=by
 obtain⟨os,q,U,F⟩:=id O;unfold Builtin.Slice.sliceApplied Builtin.Slice.sliceFields;refine Qq (Qq (Qw q F rfl (Qq (Qw q F rfl (Qq (Qw q F rfl (Qx ?_)))))));refine Qq (slicePart_none ?_);rw[Z9 (by decide)];refine Qq (qkg pl (Qq (qkg L (Qq (Qx ?_)))));show wpAny _ _ (match Builtin.Slice.sliceAdjust lo z 1 (n:Int) with|(lo,z)=>pure (lo,(1:Int),Builtin.Slice.slicePlaces lo z 1)) _ _ s;rw[qb9 lo z n];show wpAny _ _ (pure (((sIx n 0 lo:Nat):Int),(1:Int),Builtin.Slice.slicePlaces ((sIx n 0 lo:Nat):Int) ((sIx n n z:Nat):Int) 1)) _ _ s;rw[qbe];exact Qx h
def qgt(xs:Array Yv)(i k:Nat):((List.range k).filterMap λ(m:Nat)=>xs[((i:Int)+(m:Int)*1).toNat]?).toArray=((xs.toList.drop i).take k).toArray:=by
 have e:(λ(m:Nat)=>xs[((i:Int)+(m:Int)*1).toNat]?)=λm=>xs[i+m]?:=by
  funext m
  have:((i:Int)+(m:Int)*1).toNat=i+m:=by omega
  rw[this]
 rw[e];have:=pick_run xs i k;rw[Qx0]at this;have q:((λx=>xs[x]?)∘λx=>i+x)=λm=>xs[i+m]?:=rfl;rw[q]at this;rw[this]
def getItem_tuple_cut{lo:Option Int}(L:IsTup s.heap t z)(hs:s.heap.IsSliceOf sl vl vu .none)(pl:IsPart vl lo)(pu:IsPart vu J)(hw:¬ (sIx z.size 0 lo=0/\sIx z.size z.size J=z.size))(h:Q (.ref s.heap.objs.size) { s with heap:=s.heap.push { cls:=.type "tuple",data:=.seq ((z.toList.drop (sIx z.size 0 lo)).take (sIx z.size z.size J - sIx z.size 0 lo)).toArray } })(hsz:z.size<=sizeLine):wpAny (model prog w) A (Za (.ref t) (.ref sl)) Q E s:=by
 have F:sizeOk (.seq ((z.toList.drop (sIx z.size 0 lo)).take (sIx z.size z.size J - sIx z.size 0 lo)).toArray):=by
  show((z.toList.drop (sIx z.size 0 lo)).take (sIx z.size z.size J - sIx z.size 0 lo)).toArray.size<=sizeLine;rw[Qqd,Qzz,Qxn,Qzf];omega
 have hj:sIx z.size z.size J<=z.size:=sIx_le _ _ (Qqj _) J;obtain⟨os,O,Y,a0⟩:=id hs;have Z:s.TypeIs (.ref sl) "slice":=⟨os,O,Y⟩
 unfold Za
 try with_reducible refine Q2 ?_
 first|refine Qq (Qx ?_)|skip
 refine Qq (wpAny_sequenceKey L.typeIs (by decide) ?_)
 refine Qq (Qy L.typeIs PyProof.Rows.slot_tuple_getitem
  (Qc PyProof.Rows.slot_tuple_getitem L.typeIs entry_tuple_getitem ?_ (args_tuple_getitem _ _)))
 show wpAny _ _ (Builtin.Tuple.tupleItemsOf (.ref t) >>= _) _ _ s;refine Qq (tupleItemsOf_ L ?_);refine Qq (wpAny_typeOf Z ?_);rw[Xq (by decide)];refine Qq (sliceApplied_gen hs pl pu ?_);have U:¬ ((((sIx z.size 0 lo:Nat):Int)==0&&(1:Int)==1&&(sIx z.size z.size J - sIx z.size 0 lo)==z.size)=Y0):=by
  intro q;rw[Qqo,Qqo]at q;have q1:=eq_of_beq q.1.1;have q2:=eq_of_beq q.2;exact hw ⟨by omega,by omega⟩
 show wpAny _ _ (if (((sIx z.size 0 lo:Nat):Int)==0&&(1:Int)==1&&(sIx z.size z.size J - sIx z.size 0 lo)==z.size)=Y0 then _ else _) _ _ s;rw[Z9 U,qgt]
 first
  |exact Qq (Qf (Qx ⟨_,rfl,Qx h⟩) F)
  |exact Qq (Qf (Qq (Qx (Qx ⟨_,rfl,Qx h⟩))) F)
  |exact Qq (Qq (Qf (Qx (Qx ⟨_,rfl,Qx h⟩)) F))
  |exact Qq (Qq (Qf (Qx ⟨_,rfl,Qx h⟩) F))
end
end HT
namespace L2
open PySem PySem.Spec PyProof.Rows
abbrev TO:=St->Hp->(Option Int->Hp->Prop)->Prop
def PO(X:Cx)(e:Option Qj)(t:TO):Prop:=
 ∀(pins:List (Ya×Obj)) (s:Qz) (σ:St) (H:Hp) (Q:Option Int->Hp->Prop),Inv X pins σ H s->t σ H Q->
  wpAny (model X.prog X.w) X.A (evalPart e X.env) (λu s'=>∃o H',Inv X pins σ H' s'/\IsPart u o/\Q o H') X.xe s
noncomputable def qlg:TO:=λ_ H Q=>Q Y3 H
noncomputable def tPart(t:TE):TO:=λσ H Q=>t σ H λx H1=>∃i,x=.int i/\Q (Y2 i) H1
def intsAre_of:∀{us},Vals (ns.map V.int) us->Z0 us ns:=by
 induction ns with
 |nil=>intro us r; rw[Qxx]at r; cases r; exact .nil
 |cons n ns F=>
  intro us r;rw[Qqb]at r
  cases r with
  |cons z q=>
   obtain⟨t,e⟩:=z;subst e;exact .cons n t (F q)
section
variable {X:Cx}{e:Qj}{te:TE}{lo hi:Option Qj}{tl th:TO}{pos p2:Pos}
def qmk:PO X Y3 qlg:=by
 intro pins s σ H Q I h;rw[evalPart_none];exact Qx ⟨Y3,H,I,.none,h⟩
def qmj(h:PE X e te):PO X (Y2 e) (tPart te):=by
 intro pins s σ H Q I J;rw[evalPart_some];refine thn (h pins s σ H _ I J) λu O ⟨x,H1,L,z,F⟩=>?_;obtain⟨i,rfl,q⟩:=F;obtain⟨t,rfl⟩:=z;exact⟨Y2 i,H1,L,.int i t,q⟩
def SlR(X:Cx)(r:V->Option Int->Option Int->Hp->VK->Prop):Prop:=
 ∀(pins:List (Ya×Obj)) (s:Qz) (σ:St) (H:Hp) (x:V) (v vl vu:Yv) (lo hi:Option Int) (sl:Ya) (Q:VK),Inv X pins σ H s->RelV x v->s.heap.IsSliceOf sl vl vu .none->IsPart vl lo->IsPart vu hi->r x lo hi H Q->
  ∃T id,typeLookup (.type T) "__getitem__" = pure (Y2 (.builtin id))/\s.TypeIs v T/\wpAny (model X.prog X.w) X.A (Za v (.ref sl)) (EP X pins σ Q) X.xe s
noncomputable def tSl(r:V->Option Int->Option Int->Hp->VK->Prop)(te:TE)(tl th:TO):TE:=λσ H Q=>te σ H λx H1=>tl σ H1 λl H2=>th σ H2 λu H3=>r x l u H3 Q
def qaa(hr:SlR X r)(he:PE X e te)(hl:PO X lo tl)(hu:PO X hi th):PE X (.Subscript e (.Slice lo hi Y3 p2) pos) (tSl r te tl th):=by
 intro pins s σ H Q I h;refine Subscript_ (thn (he pins s σ H _ I h) λv O ⟨x,H1,I1,U,q1⟩=>?_);refine wpAny_Slice (thn (hl pins O σ H1 _ I1 q1) λvl L ⟨l,H2,I2,pl,Z⟩=>thn (hu pins L σ H2 _ I2 Z) λF z ⟨u,J,I3,pu,Y⟩=>?_);rw[evalPart_none];refine Qx ?_;have I4:Inv X pins σ J { z with heap:=z.heap.push { cls:=.type "slice",data:=.fields #[vl,F,.none] } }:=I3.kept λb ob q=>Qqx _ q;obtain⟨T,id,hT,ht,hg⟩:=hr pins { z with heap:=z.heap.push { cls:=.type "slice",data:=.fields #[vl,F,.none] } } σ J x v vl F l u z.heap.objs.size Q I4 U (Heap.IsSliceOf.new ..) pl pu Y;exact tail_any ht hT hg (by with_unfolding_all rfl)
noncomputable def cutV(xs:List V)(lo hi:Option Int):List V:=(xs.drop (HT.sIx xs.length 0 lo)).take (HT.sIx xs.length xs.length hi - HT.sIx xs.length 0 lo)
def qj9(xs)(lo q):(cutV xs lo q).length<=xs.length:=by
 unfold cutV;rw[Qzz,Qxn];omega
def rSlT(K:Qqq):V->Option Int->Option Int->Hp->VK->Prop:=λx lo hi H Q=>∃a xs,x=.ref a/\SqT K H a xs/\
 ¬ (HT.sIx xs.length 0 lo=0/\HT.sIx xs.length xs.length hi=xs.length)/\∀p,H p=Y3->Q (.ref p) (upd H p (.tup (cutV xs lo hi)))
def qiy:SlR X (rSlT X.K):=by
 intro pins s σ H x v vl vu lo hi sl Q I O hs pl U h;obtain⟨a,xs,rfl,Y,Z,q⟩:=h;cases O;obtain⟨F,r,L,J⟩:=I.tuple Y;have z:F.toArray.size=xs.length:=by rw[Qqd]; exact r.length.symm
 refine⟨"tuple",_,PyProof.Rows.slot_tuple_getitem.lookup,L.typeIs,?_⟩;refine HT.getItem_tuple_cut L hs pl U (by rw[z]; exact Z) ?_ (by rw[z]; exact J);rw[z];refine⟨.ref s.heap.objs.size,_,I.laid (λb ob q=>Qqx _ q) (Qqj _) ?_,rfl,q _ (I.hok.fresh (Qqj _))⟩;exact⟨Qzl (qj9 xs lo hi) J,_,(r.drop (HT.sIx xs.length 0 lo)).take (HT.sIx xs.length xs.length hi - HT.sIx xs.length 0 lo),IsTup.new _ _⟩
noncomputable def rCatT(K:Qqq):R2:=λx y H Q=>∃a b xs ys,x=.ref a/\y=.ref b/\SqT K H a xs/\SqT K H b ys/\xs≠[]/\xs.length+ys.length<=sizeLine/\
 (ys=[]->Q (.ref a) H)/\(ys≠[]->∀p,H p=Y3->Q (.ref p) (upd H p (.tup (xs++ys))))
def Vals.nil_iff(r:Vals xs us):us=[]↔xs=[]:=by
 cases r with
 |nil=>simp
 |cons _ _=>simp
def qm0:OpR X (Q6 .Add) (rCatT X.K):=by
 intro pins s σ H x y v u Q I Y U h;obtain⟨a,b,xs,ys,rfl,rfl,ha,hb,hx,O,q1,Z⟩:=h;cases Y;cases U;obtain⟨a0,J,p1,_⟩:=I.tuple ha;obtain⟨L,F,p2,_⟩:=I.tuple hb;refine HT.cat_tup p1 p2 (λz=>hx (J.nil_iff.mp z)) (λz=>⟨.ref a,H,I,rfl,q1 (F.nil_iff.mp z)⟩) (λz=>?_) (by rw[<- J.length,<- F.length]; exact O);refine⟨.ref s.heap.objs.size,_,I.laid (λb ob q=>Qqx _ q) (Qqj _) ?_,rfl,Z (λw=>z (F.nil_iff.mpr w)) _ (I.hok.fresh (Qqj _))⟩;exact⟨by rw[Qqi]; exact O,_,J.append F,IsTup.new _ _⟩
end
noncomputable def ixN(n:Nat)(i:Int):Option Nat:=if 0<=i then(if i<n then Y2 i.toNat else Y3) else if -(n:Int)<=i then Y2 (i+n).toNat else Y3
noncomputable def atI{α:Type}(xs:List α)(i:Int):Option α:=(ixN xs.length i).bind λj=>xs[j]?
def qnc(h:ixN n i=Y2 j):seqIndex? i n=Y2 j/\j<n/\-(n:Int)<=i/\i<n:=by
 unfold ixN at h
 by_cases q:0<=i
 ·rw[Xq q]at h
  by_cases h1:i<n
  ·rw[Xq h1]at h;have e:=Option.some.inj h;exact⟨by rw[seqIndex_of q h1,e],by omega,by omega,h1⟩
  ·rw[Z9 h1]at h; cases h
 ·rw[Z9 q]at h
  by_cases h1:-(n:Int)<=i
  ·rw[Xq h1]at h;have e:=Option.some.inj h;exact⟨by rw[seqIndex_neg (by omega) h1,e],by omega,h1,by omega⟩
  ·rw[Z9 h1]at h; cases h
def qfm(h:atI xs i=Y2 v):∃j,seqIndex? i xs.length=Y2 j/\xs[j]?=Y2 v/\j<xs.length/\-(xs.length:Int)<=i/\i<xs.length:=by
 unfold atI at h
 cases e:ixN xs.length i with
 |none=>rw[e]at h; cases h
 |some j=>
  rw[e]at h;obtain⟨h1,h2,z,q⟩:=qnc e;exact⟨j,h1,h,h2,z,q⟩
def qoa(b:Qj):Prop:=∀o i,subscripted b Y1 o i=operate [o,i] (Za o i)
def IxR(X:Cx)(r:R2):Prop:=
 ∀(value slice:Qj) (pins:List (Ya×Obj)) (s:Qz) (σ:St) (H:Hp) (x y:V) (v u:Yv) (Q:VK),Inv X pins σ H s->RelV x v->RelV y u->r x y H Q->
  subscripted slice Y1 v u=operate [v,u] (Za v u)->wpAny (model X.prog X.w) X.A (subscriptTail value slice v u) (EP X pins σ Q) X.xe s
def MtR(X:Cx)(id:String)(r:V->List V->Hp->VK->Prop):Prop:=
 ∀(pins:List (Ya×Obj)) (s:Qz) (σ:St) (H:Hp) (x:V) (xs:List V) (v:Yv) (us:List Yv) (Q:VK),Inv X pins σ H s->RelV x v->Vals xs us->r x xs H Q->
  wpAny (model X.prog X.w) X.A (call (.builtin id) (v::us)) (EP X pins σ Q) X.xe s
section
variable {X:Cx}
def pe_ix(O:IxR X r)(Y:PE X a ta)(U:PE X b tb)(L:qoa b):PE X (.Subscript a b pos) (tOp r ta tb):=by
 intro pins s σ H Q I h;exact Subscript_ (binT Y U I h λv u z x y H2 Z J F q=>O a b pins z σ H2 x y v u Q Z J F q (L _ _))
noncomputable def rIxL(K:Qqq):R2:=λx y H Q=>∃p xs i v,x=.ref p/\y=.int i/\SqL K H p xs/\atI xs i=Y2 v/\Q v H
noncomputable def rIxT(K:Qqq):R2:=λx y H Q=>∃p xs i v,x=.ref p/\y=.int i/\SqT K H p xs/\atI xs i=Y2 v/\Q v H
def qnb:IxR X (rIxL X.K):=by
 intro value J pins s σ H x y v u Q I rx ry h Y;obtain⟨p,xs,i,z,rfl,rfl,hq,he,q⟩:=h;cases rx;obtain⟨t,rfl⟩:=ry;obtain⟨O,r,pl,hz⟩:=I.list hq;obtain⟨j,h1,h2,h3,h4,h5⟩:=qfm he;obtain⟨w,ew,L⟩:=r.get h2;have hl:=r.length;have hn:=qal;have F:EP X pins σ Q w s:=⟨z,H,I,L,q⟩
 by_cases Z:0<=i
 ·have U:i.toNat=j:=by
   rw[seqIndex_of Z h5]at h1;exact Option.some.inj h1
  exact item_listR pl.isList Z (by omega) (by rw[U]; simpa using ew) F Y
 ·have U:(i+(O.toArray.size:Int)).toNat=j:=by
   rw[seqIndex_neg (by omega) h4]at h1;rw[Qqd,<- hl];exact Option.some.inj h1
  exact subscriptTail_builtinR pl.isList.typeIs slot_list_getitem.lookup
   (wpAny_getItem_list_neg pl.isList (by omega) (by rw[Qqd]<;>omega) (by omega) (by rw[U]; simpa using ew) ⟨rfl,F⟩) Y
def ix_tup:IxR X (rIxT X.K):=by
 intro value F pins s σ H x y v u Q I U O h Z;obtain⟨p,xs,i,z,rfl,rfl,hq,he,q⟩:=h;cases U;obtain⟨t,rfl⟩:=O;obtain⟨Y,r,pl,hz⟩:=I.tuple hq;obtain⟨j,h1,h2,h3,h4,h5⟩:=qfm he;obtain⟨w,ew,J⟩:=r.get h2;have hl:=r.length;have hn:=qal;have L:EP X pins σ Q w s:=⟨z,H,I,J,q⟩
 exact subscriptTail_builtinR pl.typeIs slot_tuple_getitem.lookup
  (getItem_tuple pl (by omega) (by omega) (by rw[Qqd,<- hl]; exact h1) (by simpa using ew) ⟨rfl,L⟩) Z
def qv3(lo q)(n):(Zb lo q Y3 n).1=((HT.sIx n 0 lo:Nat):Int)/\(Zb lo q Y3 n).2.1=((HT.sIx n n q:Nat):Int)/\(Zb lo q Y3 n).2.2=1:=by
 refine⟨?_,?_,rfl⟩
 ·cases lo with
  |none=>simp[Zb,HT.sIx]
  |some i=>
   simp only[Zb,HT.sIx,Option.getD_none,show(1:Int) > 0 by decide,if_true]
   by_cases h:i<0
   ·simp only[h,if_true]<;>omega
   ·simp only[h,if_false]<;>omega
 ·cases q with
  |none=>simp[Zb,HT.sIx]
  |some i=>
   simp only[Zb,HT.sIx,Option.getD_none,show(1:Int) > 0 by decide,if_true]
   by_cases h:i<0
   ·simp only[h,if_true]<;>omega
   ·simp only[h,if_false]<;>omega
def qk8(q:List Yv)(lo z):slicePick q.toArray lo z Y3=((q.drop (HT.sIx q.length 0 lo)).take (HT.sIx q.length q.length z - HT.sIx q.length 0 lo)).toArray:=by
 obtain⟨h1,h2,F⟩:=qv3 lo z q.toArray.size;unfold slicePick;rw[h1,h2,F];simp only[sliceRange_one,pick_run,Qqd]<;>rfl
def rSlL(K:Qqq):V->Option Int->Option Int->Hp->VK->Prop:=λx lo hi H Q=>∃a xs,x=.ref a/\SqL K H a xs/\∀p,H p=Y3->Q (.ref p) (upd H p (.lst (cutV xs lo hi)))
def qlr:SlR X (rSlL X.K):=by
 intro pins s σ H x v vl vu lo hi sl Q I J Z pl L h;obtain⟨a,xs,rfl,Y,q⟩:=h;cases J;obtain⟨O,r,F,U⟩:=I.list Y;have z:=r.length;refine⟨"list",_,slot_list_getitem.lookup,F.isList.typeIs,?_⟩;refine wpAny_getItem_list_slice F.isList Z pl L .none (by simp) ?_ (by rw[Qqd]<;>omega);rw[qk8,<- z];refine⟨.ref s.heap.objs.size,_,I.laid (λb ob q=>Qqx _ q) (Qqj _) ?_,rfl,q _ (I.hok.fresh (Qqj _))⟩;exact⟨Qzl (qj9 xs lo hi) U,_,0,(r.drop (HT.sIx xs.length 0 lo)).take (HT.sIx xs.length xs.length hi - HT.sIx xs.length 0 lo),Qqc _ rfl⟩
def qjz:qqh X (.builtin "len") (λxs H Q=>∃p ys,xs=[.ref p]/\(SqL X.K H p ys\/SqT X.K H p ys)/\Q (.int ys.length) H):=by
 intro pins s σ H xs U Q I r h;obtain⟨p,ys,rfl,F,q⟩:=h;obtain⟨u,rfl,L⟩:=vals1 r;cases L;have hn:=qal;rcases F with F|F
 ·obtain⟨J,r',pl,O⟩:=I.list F;have z:=r'.length;exact Calls.call_len_list pl.isList (by simp only[Qqd]<;>omega) ⟨.int ys.length,H,I.tok _,⟨s.toks+1,by rw[Qqd,z]⟩,q⟩
 ·obtain⟨J,r',pl,O⟩:=I.tuple F;have z:=r'.length;exact len_tuple pl (by simp only[Qqd]<;>omega) ⟨.int ys.length,H,I.tok _,⟨s.toks+1,by rw[Qqd,z]⟩,q⟩
def qx9:qqh X (.type "list") (λxs H Q=>∃p ys,xs=[.ref p]/\(SqL X.K H p ys\/SqT X.K H p ys)/\∀l,H l=Y3->Q (.ref l) (upd H l (.lst ys))):=by
 intro pins s σ H xs us Q I r h;obtain⟨p,ys,rfl,L,q⟩:=h;obtain⟨u,rfl,rx⟩:=vals1 r;cases rx;have U:∀(z:List Yv),Vals ys z->ys.length<=sizeLine->∀(h':Heap) (F:Nat),(∀b o',s.heap.get? b=Y2 o'->h'.get? b=Y2 o')->
   h'.get? s.heap.objs.size=Y2 { cls:=.type "list",dict:=Y3,data:=.seq z.toArray F,slots:=#[] }->EP X pins σ Q (.ref s.heap.objs.size) { s with heap:=h' }:=λz r' J h' F kp e=>
  ⟨.ref s.heap.objs.size,_,I.laid kp (Qqj _) (show ObjOk X.prog X.w _ h' _ (.lst ys) from⟨J,z,F,r',e⟩),rfl,q _ (I.hok.fresh (Qqj _))⟩
 rcases L with L|L
 ·obtain⟨z,r',pl,J⟩:=I.list L;have O:=r'.length;obtain⟨o,Y,Z,n,hd⟩:=pl.isList;exact call_list_seq p (.inl rfl) Y Z hd (λh' F kp e=>U z r' J h' F kp e) (by simp only[Qqd]<;>omega)
 ·obtain⟨z,r',pl,J⟩:=I.tuple L;have O:=r'.length;obtain⟨o,Y,Z,n,hd⟩:=pl;exact call_list_seq p (.inr rfl) Y Z hd (λh' F kp e=>U z r' J h' F kp e) (by simp only[Qqd]<;>omega)
def qxo:qqh X (.type "tuple") (λxs H Q=>∃p ys,xs=[.ref p]/\((SqL X.K H p ys/\∀l,H l=Y3->Q (.ref l) (upd H l (.tup ys)))\/(SqT X.K H p ys/\Q (.ref p) H))):=by
 intro pins s σ H xs Z Q I r h;obtain⟨p,ys,rfl,h⟩:=h;obtain⟨u,rfl,U⟩:=vals1 r;cases U;rcases h with⟨F,q⟩|⟨F,q⟩
 ·obtain⟨z,r',pl,J⟩:=I.list F;have L:=r'.length;refine call_tuple_list pl.isList (λh' kp=>?_) (by simp only[Qqd]<;>omega);have O:=I.kept (t':=s.toks) kp;have Y:=
   O.laid (t':=s.toks) (λb o e=>Qqx _ e) (Qqj _) (show ObjOk X.prog X.w _ _ _ (.tup ys) from⟨J,z,r',IsTup.new _ _⟩)
  exact⟨.ref h'.objs.size,_,Y,rfl,q _ (O.hok.fresh (Qqj _))⟩
 ·obtain⟨z,r',pl,J⟩:=I.tuple F;exact call_tuple_same pl ⟨.ref p,H,I,rfl,q⟩
def tyV(K:Qqq)(T:String)(x:V)(H:Hp):Prop:=match x with
 |.str _=>T = "str"
 |.int _=>T = "int"
 |.ref p=>(T = "list"/\∃xs,SqL K H p xs)\/(T = "tuple"/\∃o,K.lookup p=Y2 o/\o.cls=.type "tuple"/\o.dict=Y3)\/
   (T = "dict"/\((∃kvs,H p=Y2 (.dK kvs))\/∃kvs,H p=Y2 (.dT kvs)))\/(T = "set"/\∃S n,H p=Y2 (.set S n))
 |_=>False
def tyV_is(I:Inv X F L H s)(r:RelV x v)(ty:tyV X.K T x H):
  s.TypeIs v T/\∀a,v=.ref a->∃ob,s.heap.get? a=Y2 ob/\ob.dict=none:=by
 cases x with
 |str z=>
  obtain⟨t,rfl⟩:=r;cases (ty);exact⟨typeIs_str s z t,λ_ e=>nomatch e⟩
 |int i=>
  obtain⟨t,rfl⟩:=r;cases (ty);exact⟨typeIs_int s i t,λ_ e=>nomatch e⟩
 |ref p=>
  cases r;rcases ty with⟨rfl,xs,U⟩|⟨rfl,o,q,Y,hd⟩|⟨rfl,q⟩|⟨rfl,S,n,q⟩
  ·obtain⟨O,_,pl,_⟩:=I.list U;refine⟨pl.isList.typeIs,λa e=>?_⟩;cases e;obtain⟨o,n,e,c,hd,_⟩:=pl;exact⟨o,e,hd⟩
  ·refine⟨⟨o,I.kIn p o q,Y⟩,λa e=>?_⟩;cases e;exact⟨o,I.kIn _ o q,hd⟩
  ·have z:∃o,s.heap.get? p=Y2 o/\o.ExactDict:=by
    rcases q with⟨kvs,q⟩|⟨kvs,q⟩
    ·obtain⟨_,_,_,_,o,_,_,e,ex,_⟩:=I.hok p _ q;exact⟨o,e,ex⟩
    ·obtain⟨_,_,_,_,o,_,_,e,ex,_⟩:=I.hok p _ q;exact⟨o,e,ex⟩
   obtain⟨o,e,ex⟩:=z;refine⟨⟨o,e,ex.1⟩,λa J=>?_⟩;cases J;exact⟨o,e,ex.2.1⟩
  ·obtain⟨o,_,_,_,e,ex,_⟩:=I.hok p _ q;refine⟨⟨o,e,ex.1⟩,λa J=>?_⟩;cases J;exact⟨o,e,ex.2.1⟩
 |_=>exact False.elim ty
noncomputable def tBM(K:Qqq)(T:String)(r:V->List V->Hp->VK->Prop)(to:TE)(t:TA):TE:=λσ H Q=>to σ H λx H1=>tyV K T x H1/\t σ H1 λxs H2=>r x xs H2 Q
variable {o e:Qj}{es:List Qj}{to:TE}{t:TA}{name:Yb}{apos cpos:Pos}{T id:String}{r:V->List V->Hp->VK->Prop}
def qg8(pa:PlainAttrs T)(slot:Slot T name id)(L:typeOf (.builtin id)=pure (.type "method_descriptor"))(hm:MtR X id r)(ho:PE X o to)(ha:PA X (e::es) t)
  (F:Q8 o name X.env (Qa o X.env)=Qa o X.env:=by rfl)
  (J:((backTo cpos (starEach (e::es) X.env)).all (λx=>!x.1)&&(backToKw cpos (keywordEach [] X.env)).all (λx=>x.1.isSome)
   && decide ((e::es).length+([]:List Zi).length+(if ([]:List Zi).isEmpty then 0 else 1)<30))=true:=by rfl)
  (z:(apos.endLine==cpos.line)=true:=by rfl) (hs:starEach (e::es) X.env=(Y1,Qa e X.env)::starEach es X.env:=by rfl) (q:(backTo cpos (starEach es X.env)).any (·.1)=false:=by rfl) :
  PE X (.Call (.Attribute o name apos) (e::es) [] cpos) (tBM X.K T r to t):=by
 intro pins s σ H Q I h;refine wpAny_Call_method_late F J z rfl (thn (ho pins s σ H _ I h) λv s1 ⟨x,H1,Y,O,ty,q1⟩=>?_);obtain⟨h1,h2⟩:=tyV_is Y O ty;refine⟨T,id,pa,slot,L,h1,h2,?_⟩;have U:=ha cpos pins s1 σ H1 _ Y q1;rw[hs]at U ⊢;refine Calls.callWith_builtin (by show(Y1||(backTo cpos (starEach es X.env)).any (·.1))=Y1; rw[q]<;>rfl) (Calls.evalArgs_plain ?_);exact thn U λZ s2 ⟨vs,H2,I2,r2,q2⟩=>hm pins s2 σ H2 x vs v Z Q I2 O r2 q2
end
def MtM(X:Cx)(id:String)(r:V->List V->Hp->VK->Prop):Prop:=
 ∀(pins:List (Ya×Obj)) (s:Qz) (σ:St) (H:Hp) (x:V) (xs:List V) (v:Yv) (us:List Yv) (Q:VK),Inv X pins σ H s->RelV x v->Vals xs us->r x xs H Q->
  wpAny (model X.prog X.w) X.A (call (.builtin id) (v::us)) (EP X pins σ Q) X.xe s
def Vals.one:∀{x}{us},Vals [x] us->∃u,us=[u]/\RelV x u
 |_,_,.cons r .nil=>⟨_,rfl,r⟩
def Vals.two:∀{x y}{us},Vals [x,y] us->∃u v,us=[u,v]/\RelV x u/\RelV y v
 |_,_,_,.cons r (.cons q .nil)=>⟨_,_,rfl,r,q⟩
theorem Vals.rep(h:Vals xs us):∀k:Nat,Vals (List.replicate k xs).flatten (List.replicate k us).flatten
 |0=>.nil
 |k+1=>by
  rw[Qzr,Qzr,Qxj,Qxj];exact Vals.append h (Vals.rep h k)
theorem foldl_rep(its):∀(k:Nat) (q:List Yv),
  List.foldl (λz x2=>z++x2) q.toArray (List.replicate k its.toArray)=(q++(List.replicate k its).flatten).toArray
 |0,q=>by simp
 |k+1,q=>by
  have e:q.toArray++its.toArray=(q++its).toArray:=by simp
  have F:(q++its)++(List.replicate k its).flatten=q++(List.replicate (k+1) its).flatten:=by
   rw[Qzr,Qxj,Qzj]
  rw[<- F,<- foldl_rep its k (q++its),<- e,Qzr,Qxy]
section
def Inv.lset{z:List Yv}(I:Inv X pins σ H s)(Y:H l=Y2 (.lst xs))(e:s.heap.get? l=Y2 { cls:=.type "list",data:=.seq z.toArray n })(O:f z.toArray=its'.toArray)(J:Vals ys its')(F:ys.length<=sizeLine):
  Inv X pins σ (upd H l (.lst ys)) { s with heap:=s.heap.update l (Obj.mapSeq f),toks:=t' }:=by
 have q:=PySem.IsL.update e f;rw[O]at q;refine I.write (by rw[Y]; exact trivial) (.inl rfl) (λZ u U L=>(Qx8 s.heap (Obj.mapSeq f) (Ne.symm U)).trans L) ⟨_,q⟩ ?_;exact⟨F,its',_,J,q⟩
def Inv.lnew(I:Inv X pins σ H s)(J:Vals ys z)(F:ys.length<=sizeLine):
  Inv X pins σ (upd H s.heap.objs.size (.lst ys)) { s with heap:=s.heap.push { cls:=.type "list",data:=.seq z.toArray },toks:=t' }:=
 I.laid (λ_ _ q=>Qqx _ q) (Qqj _) ⟨F,z,0,J,Qqc _ rfl⟩
theorem Inv.fresh(I:Inv X pins σ H s):H s.heap.objs.size=none:=I.hok.fresh (Qqj _)
def Inv.lstM(I:Inv X pins σ H s)(F:H l=Y2 (.lst xs)):xs.length<=sizeLine/\∃(q:List Yv) (n:Nat),Vals xs q/\xs.length=q.length/\s.heap.get? l=Y2 { cls:=.type "list",data:=.seq q.toArray n }:=by
 obtain⟨z,q,n,r,e⟩:=I.hok l _ F;exact⟨z,q,n,r,r.length,e⟩
def qac(h:n<=sizeLine):Builtin.List.listTooLong n=false:=by
 unfold Builtin.List.listTooLong;exact Z8 (by omega)
end
section
def ql5:V->List V->Hp->VK->Prop:=λx vs H Q=>∃l xs y,x=.ref l/\vs=[y]/\H l=Y2 (.lst xs)/\xs.length<sizeLine/\Q .non (upd H l (.lst (xs++[y])))
def qds:MtM X "list.append" ql5:=by
 intro pins s σ H x vs v Z Q I O U h;obtain⟨l,xs,y,rfl,rfl,L,hz,q⟩:=h;cases O;obtain⟨u,rfl,Y⟩:=U.one;obtain⟨z,J,n,r,hl,e⟩:=I.lstM L;refine Q3 F.slot_list_append ⟨_,e,rfl⟩ F.entry_list_append (F.args_list_append_2 _ _) (PySem.list_append l J.toArray n u (by rw[Qqd]; omega)) ⟨e,?_⟩;refine⟨.non,_,I.lset L e (by simp) (r.append (.cons Y .nil)) ?_,rfl,q⟩;rw[Qqi,Qz8];omega
def len_rep{α:Type}(xs:List α)(k):(List.replicate k xs).flatten.length=k*xs.length:=by
 induction k with
 |zero=>simp
 |succ k q=>rw[Qzr,Qxj,Qqi,q,Nat.succ_mul,Nat.add_comm]
end
section
end
section
end
end L2
namespace Att
open PySem PySem.W PySem.Calls PyProof.Rows
def qj5:∀(ns:List Int) (vs:List Yv),WellAll P h vs (ns.map WData.int)->Z0 vs ns:=by
 intro ns
 induction ns with
 |nil=>
  intro vs w;rw[Qxx]at w;cases w;exact .nil
 |cons n ns q=>
  intro vs w;rw[Qqb]at w
  cases w with
  |cons a b=>
   cases a;exact .cons _ _ (q _ b)
def qc0{l:OpenLaw}(hn:l.most=Y2 n)(F:l.row.toRowW.claim.pre args=Y0)(Y:WellAll P h z args):
  ∃a vs ns,z=[Value.ref a]/\args=[WData.list (ns.map WData.int)]/\h.get? a=Y2 { cls:=.type "list",data:=.seq vs.toArray }/\Z0 vs ns/\ns.length<=n:=by
 have Z:=(pre_splitW F).1;have hc:l.pre.holds [] { args:=args }=true:=(pre_splitW F).2;obtain⟨d,r,rfl,h1,h2⟩:=hasAllW_cons Z;obtain rfl:=hasAllW_nil h2;obtain⟨xs,rfl,h3⟩:=hasW_list h1;obtain⟨ns,rfl⟩:=items_int h3;have J:ns.length<=n:=by
  unfold OpenLaw.pre at hc;have U:(WTm.not (.lt (.lit (.int (n:Int))) (.len (.arg 0)))).holds [] { args:=[.list (ns.map .int)] }=true:=by
   have U:=(holds_andW hc).1;rw[hn]at U;exact U
  have O:=condW_of U (w_not (w_lt w_lit (w_len_list (w_arg rfl))));rw[Qqz]at O;refine Nat.le_of_not_lt λq=>?_;have q':(n:Int)<((ns.length:Nat):Int):=by omega
  first
   |(rw[Z7 q']at O; exact absurd O (by decide))
   |(simp at O; omega)
 cases Y with
 |cons w1 w2=>
  cases w2
  cases w1 with
  |list ho L=>exact⟨_,_,ns,rfl,rfl,ho,qj5 ns _ L,J⟩
def qdx(l:OpenLaw)(args):l.row.toRowW.claim.post args (.bool Y0) args=true:=
 postW_of
  (by first|rfl|decide|simp[WShape.has,WShape.arms,WShape.armsAll])
  (show(WTm.eq .res (.lit (.bool Y0))).value [] { args:=args,res:=Y2 (.bool Y0),after:=args }=Y2 (.bool (Y0==Y0)) from w_eq_bool (w_res rfl) w_lit) rfl
def attach_call{l:OpenLaw}(hn:l.most=Y2 n)(a2:d.params.defaults=[])(call:∀(w:Qk) (s₀ z:Qz) (mg mb:Yb->Option Yv) (U:Ya) (o:Obj) (pm Z doc:Yv) (a:Ya) (vs:List Yv) (ns:List Int),
   Ground q loose [] XP w s₀ mg mb z.heap->YP w z.heap->
   z.heap.get? U=Y2 o->o.data=.func (docDef d.name d.params d.body d.scope pm Z doc)->z.heap.CodeRec Z d.name->mg d.name=Y2 (.ref U)->
   z.heap.get? a=Y2 { cls:=.type "list",data:=.seq vs.toArray }->Z0 vs ns->ns.length<=n->z.gens=#[]->
   Zh (model l.prog w) Z1 (.call (.ref U) ⟨[.ref a],[]⟩) (λr s'=>r=.ok (.ret (.bool Y0))/\OldK z.heap s'.heap/\s'.os=z.os/\Zr s'.gens) z):
  WalkO q loose XP YP l.row.toRowW d [] (λf vs=>PySem.call f vs):=by
 intro w s₀ z mg mb G Y U o pm Z doc dV kV ho hd a3 hD a1 hg a6 a4 as J a5 a7 a0 a8;obtain rfl:dV=.none:=Dflts.none hD a2;obtain rfl:kV=.none:=Dflts.noKw hD;obtain⟨a,vs,ns,rfl,rfl,L,F,O⟩:=qc0 hn J a0;refine enter_call (Zk (call w s₀ z mg mb U o pm Z doc a vs ns G Y ho (fd_plain hd) a3 a1 L F O hg) λr s' hq=>?_);obtain⟨rfl,h2,h3,h4⟩:=hq;exact⟨.inl ⟨.bool Y0,.bool Y0,[],rfl,λ_=>rfl,.bool Y0,qdx l _,λ_=>⟨List.Pairwise.nil,λ_ hm=>(nomatch hm)⟩⟩,h2,h3,h4⟩
section
end
end Att
namespace L2
open PySem PySem.Spec PyProof.Rows
theorem qxk:∀{vs}{ns},Z0 vs ns->Vals (ns.map V.int) vs
 |_,_,.nil=>.nil
 |_,_,.cons n t h=>.cons ⟨t,rfl⟩ (qxk h)
def Only(H:Hp):Prop:=∀b,H b=Y3\/∃o xs,H b=Y2 (.frz o (.lst xs))
def qhy{K:Qqq}(KX:K.In s₁.heap)(a2:s₁.heap.Ns mainGlobals mg)(L:s₁.heap.Ns builtinsNs mb)(a7:∀x:Yb,x ≠ "__name__"->mb x=Qe x)(a3:s₁.heap.NoLimit)(hg:s₁.gens=#[])(ha:s₁.heap.get? a=Y2 { cls:=.type "list",data:=.seq vs.toArray })(hi:Z0 vs ns)(hl:ns.length<=sizeLine)(hr:Room k Z1)(F:∀base:Heap,K.In base->base.Ns mainGlobals mg->FnOk P w K mg base CX k fa fd [x] sp)(Y:∀(s:Qz) (u:Yv),BindsTo s fd ⟨[u],[]⟩ [(x,u)])(a6:∀H:Hp,Only H->SqL K H a (ns.map V.int)->sp [.ref a] H (λv _=>v=.bl Y0) λ_ _ _=>False)(a8:∀H e s',CX [] H s₁ (λ_ _ _=>False) e s'->False):
  Zh (model P w) Z1 (.call (.ref fa) ⟨[.ref a],[]⟩) (λr s'=>r=.ok (.ret (.bool Y0))/\OldK s₁.heap s'.heap/\s'.os=s₁.os/\Zr s'.gens) s₁:=by
 have rv:=qxk hi;have a0:=hi.length;have U:∀H:Hp,Only H->SqL K H a (ns.map V.int)->HOk P w H s₁.heap->(∀b,H b≠Y3->b=a)->(H a≠Y3->K.lookup a=Y3)->
   Zh (model P w) Z1 (.call (.ref fa) ⟨[.ref a],[]⟩) (λr s'=>r=.ok (.ret (.bool Y0))/\OldK s₁.heap s'.heap/\s'.os=s₁.os/\Zr s'.gens) s₁:=by
  intro H hO hS hok hA hK;have J:∀{b:Ya}{o:Obj},s₁.heap.get? b=Y2 o->H b=Y3->(hidT s₁.heap H).get? b=Y2 o:=λe n=>qhd e n;have a5:∀{b:Ya}{o:Obj}{es:Array Qp}{ep:Nat},s₁.heap.get? b=Y2 o->o.data=.dict es ep->H b=none:=λ{b o es ep} e d=>by
   cases q:H b with
   |none=>rfl
   |some u=>
    have e':=hA b (by rw[q]; simp);subst e';rw[ha]at e; cases e;have d':=d;cases d'
  have O:∀{b:Ya}{m:Yb->Option Yv},s₁.heap.Ns b m->(hidT s₁.heap H).Ns b m:=λ{b m} ⟨o,es,ep,e,d,r⟩=>⟨o,es,ep,J e (a5 e d),d,r⟩
  have a4:=λb o e=>J (KX b o e) (by
   cases q:H b with
   |none=>rfl
   |some u=>
    have e':=hA b (by rw[q]; simp);subst e'
    rw[hK (by rw[q]; simp)]at e; cases e)
  have hM:Mod K mg (hidT s₁.heap H):=⟨a4,O a2,⟨mb,O L,a7⟩,let ⟨mc,h1,h2⟩:=a3; ⟨mc,O h1,h2⟩⟩
  have e0:Env0 P w K mg (hidT s₁.heap H) Z1 [] s₁ H:=⟨rfl,hM,λb o e=>qm4 e,Nat.le_of_eq (qeb _ _),trivial,λb L=>absurd (show b∈([]:List Ya) from L) (by simp),hok,.of_eq hg⟩
  refine Zk ((F _ a4 (O a2)).run Z1 [] s₁ H ⟨[.ref a],[]⟩ [.ref a] [.ref a] _ _ hr e0 (Y s₁ (.ref a)) (.cons rfl .nil) (a6 H hO hS)) λr s' h=>?_
  cases r with
  |error e=>exact(a8 H e s' h).elim
  |ok fl=>
   cases fl with
   |next=>exact False.elim h
   |brk=>exact False.elim h
   |cont=>exact False.elim h
   |ret u=>
    obtain⟨v,H',os,bare,un,a1,r',q⟩:=h;have q':=q;subst q';obtain rfl:u=Value.bool true:=r';refine⟨rfl,OldK.of_keep λb o e=>?_,os,bare⟩
    cases q:H b with
    |none=>exact un.keep b o e q (by intro z; exact absurd (show b∈([]:List Ya) from z) (by simp)) (by simp)
    |some u=>
     rcases hO b with z|⟨ob,xs,z⟩
     ·rw[q]at z; cases z
     ·have z2:=un.frzs b ob _ z;obtain⟨e1,_⟩:=hok b _ z;obtain⟨e2,_⟩:=a1 b _ z2;rw[e]at e1; cases e1;exact e2
 cases hk:K.lookup a with
 |some o=>
  have e:=KX a o hk;rw[ha]at e;cases e;refine U (λ_=>Y3) (λ_=>.inl rfl) (.inr ⟨_,vs.toArray,_,hk,rfl,rfl,rfl,by rw[Qqd,a0]; exact hl,by simpa using rv⟩) (λb u z=>by have Z:=z; cases Z) (λb z=>absurd rfl z) λz=>absurd rfl z
 |none=>
  refine U (λb=>if b=a then Y2 (.frz { cls:=.type "list",data:=.seq vs.toArray } (.lst (ns.map V.int))) else Y3) (λb=>?_) (.inl (.inr ⟨{ cls:=.type "list",data:=.seq vs.toArray },Xq rfl⟩)) (λb u z=>?_) (λb z=>?_) λ_=>hk
  ·by_cases L:b=a
   ·exact .inr ⟨_,_,Xq L⟩
   ·exact .inl (Z9 L)
  ·by_cases L:b=a
   ·have Z:=(Xq L).symm.trans z;cases Z;subst L;exact⟨ha,by rw[Qqz]; exact hl,vs,_,rv,ha⟩
   ·have Z:=(Z9 L).symm.trans z;cases Z
  ·by_cases L:b=a
   ·exact L
   ·exact absurd (Z9 L) z
def walk_of{l:PySem.W.OpenLaw}{K:Qs->Qqq}{CX:Qk->CXT}{sp:Qk->Sp}(hn:l.most=Y2 n)(a1:n<=sizeLine)(a3:d.params.defaults=[])(hr:Room k Z1)(hY:∀(w:Qk) (h:Heap),YP w h->(K w.params).In h)(F:∀(w:Qk) (mg:Yb->Option Yv) (U:Ya) (h:Heap),(K w.params).In h->h.Ns mainGlobals mg->mg d.name=Y2 (.ref U)->
   ∃fd:Qr,(∀(s:Qz) (u:Yv),BindsTo s fd ⟨[u],[]⟩ [(x,u)])/\
    ∀base:Heap,(K w.params).In base->base.Ns mainGlobals mg->FnOk l.prog w (K w.params) mg base (CX w) k U fd [x] (sp w))(a0:∀(w:Qk) (H:Hp) (a:Ya) (ns:List Int),ns.length<=n->Only H->SqL (K w.params) H a (ns.map V.int)->sp w [.ref a] H (λv _=>v=.bl Y0) λ_ _ _=>False)(a4:∀(w:Qk) (H:Hp) (s:Qz) (e:Yv) (Z:Qz),CX w [] H s (λ_ _ _=>False) e Z->False):
  PySem.W.WalkO q loose XP YP l.row.toRowW d [] (λf vs=>PySem.call f vs):=by
 refine Att.attach_call hn a3 λw s₀ L mg mb U o pm cd doc a vs ns G Y ho hd a5 a2 O J z hg=>?_;have KX:=hY w _ Y;obtain⟨fd,hb,hF⟩:=F w mg U _ KX G.T.g a2;exact qhy KX G.T.g G.T.b G.T.builtins G.T.nolimit hg O J (Qzl z a1) hr hF hb (λH hO hS=>a0 w H a ns z hO hS) λH e Z=>a4 w H L e Z
noncomputable abbrev CX0:CXT:=λ_ _ _ _ _ _=>False
noncomputable abbrev E0:XK:=λ_ _ _=>False
def qg9:qkx CX0 X E0:=λ_ _ _ _ _ _ _ h=>h.elim
structure Fun (K:Qqq) (x qual:Yb) (st:Stmt) (f:Ya) (fd:Qr):Prop where
 ex:∃(oc:Yv) (od:Option Ya) (kV doc pm:Yv) (an:Option Ya) (cdv ct:Yv) (osl:Array (Option Yv)),
  fd=PySem.W.fnOf x qual (qqf st) (qz1 st) (qzy st) .none kV doc pm an cdv ct/\K.lookup f=Y2 ⟨oc,od,.func fd,osl⟩/\PySem.W.codeIn K cdv qual=Y0
 kp:Qzp K (.ref f)=Y0
section
variable {P:Program}{w:Qk}{K:Qqq}{mg:Yb->Option Yv}{base:Heap}
def Fun.ok{st:Stmt}(F:Fun K x z st f Y)(S:FnScope N ps (qzy st))(len:∀vs H Q E,sp vs H Q E->vs.length=ps.length)(L:∀(J:Yv) (A:Qv) (outer:List Env) (s:Qz) (H:Hp) (vs:List V) (Q:VK) (E:XK),Room k (A.deeper (envOfC z (qzy st) s.heap.objs.size f J))->sp vs H Q E->
   ∃t,PSs (cxOf CX0 P w K mg base N z (qzy st) f J A outer s H E).nox (qz1 st) t/\t { nx:=λ_ H'=>Q .non H',rt:=Q } (start N vs) H):FnOk P w K mg base CX0 (k+1) f Y ps sp:=by
 obtain⟨oc,od,kV,doc,pm,an,J,ct,Z,rfl,lk,U⟩:=F.ex;refine fn_of lk U S len λA outer s H vs Q E hr O=>?_;obtain⟨t,h,q⟩:=L J A outer s H vs Q E hr O;exact⟨t,h.nox,q⟩
def Fun.binds{st:Stmt}(F:Fun K x q st f L)(h:∀(kV doc J:Yv) (an:Option Ya) (z ct:Yv) (us:List Yv),us.length=ps.length->bindArgs (PySem.W.fnOf x q (qqf st) (qz1 st) (qzy st) .none kV doc J an z ct) ⟨us,[]⟩=pure (ps.zip us)):Binds K L ps []:=by
 obtain⟨Z,Y,kV,doc,J,an,z,ct,O,rfl,lk,U⟩:=F.ex;exact .all (h kV doc J an z ct)
def qwg{st:Stmt}{kV:Yv}(l:K.lookup f=Y2 ⟨O,L,.func (PySem.W.fnOf x q (qqf st) (qz1 st) (qzy st) .none kV doc J an z ct),F⟩)(c:PySem.W.codeIn K z q=Y0)(k:Qzp K (.ref f)=Y0):Fun K x q st f (PySem.W.fnOf x q (qqf st) (qz1 st) (qzy st) .none kV doc J an z ct):=⟨⟨O,L,kV,doc,J,an,z,ct,F,rfl,l,c⟩,k⟩
end
def qcs(h:n<=1000):n<sizeLine:=Nat.lt_of_le_of_lt h (by decide)
section
end
def Same(H H':Hp):Prop:=∀b o,H b=Y2 o->H' b=Y2 o
end L2
end
section
namespace L2
open PySem PySem.Spec PyProof.Rows
section
variable [DecidableEq κ]
noncomputable def valV(kvs:List (κ×V))(k:κ):Option V:=(kvs.find? λkv=>decide (kv.1=k)).map (·.2)
noncomputable def putK(kvs:List (κ×V))(k:κ)(v:V):List (κ×V):=
 if (kvs.any λkv=>decide (kv.1=k))=Y0 then kvs.map (λkv=>if kv.1=k then(kv.1,v) else kv) else kvs++[(k,v)]
def qxv{r:List (κ×V)}(e:p.1=k):valV (p::r) k=Y2 p.2:=by simp[valV,Qqu,e]
def qxw{r:List (κ×V)}(e:¬ p.1=k):valV (p::r) k=valV r k:=by simp[valV,Qqu,e]
theorem qy0(k):∀kvs:List (κ×V),(kvs.any λq=>decide (q.1=k))=(valV kvs k).isSome
 |[]=>rfl
 |p::r=>by
  rw[Qzd]
  by_cases e:p.1=k
  ·simp only[qxv e,Z7 e,Bool.true_or,Option.isSome_some]
  ·rw[qxw e,Z8 e,Qkk]; exact qy0 k r
def qxq(kvs:List (κ×V))(k)(v):(putK kvs k v).length<=kvs.length+1:=by
 unfold putK
 split
 ·rw[Qqz]; omega
 ·rw[Qqi,Qqg,Qxs]; omega
def RelO.isSome_eq(r:RelO o u):o.isSome=u.isSome:=by
 cases o with
 |none=>cases u with
  |none=>rfl
  |some _=>exact(r).elim
 |some _=>cases u with
  |none=>exact(r).elim
  |some _=>rfl
theorem RelO.getD(r:RelO o u)(rd:RelV d d'):RelV (o.getD d) (u.getD d'):=by
 cases o with
 |none=>cases u with
  |none=>exact rd
  |some _=>exact(r).elim
 |some _=>cases u with
  |none=>exact(r).elim
  |some _=>exact r
def KV.val{vs:List (κ×Yv)}(r:KV kvs vs)(k):RelO (valV kvs k) (valueAt vs k):=by
 unfold KV at r
 induction r with
 |nil=>exact True.intro
 |@cons p q ps F h t L=>
  obtain⟨h1,h2⟩:=h
  by_cases e:p.1=k
  ·have J:=h1.symm.trans e;have b:valueAt (q::F) k=Y2 q.2:=by simp[valueAt,Qqu,J]
   rw[qxv e,b]; exact h2
  ·have J:¬ q.1=k:=λz=>e (h1.trans z);have b:valueAt (q::F) k=valueAt F k:=by simp[valueAt,Qqu,J]
   rw[qxw e,b]; exact L
theorem KV.any{vs:List (κ×Yv)}(r:KV kvs vs)(k):(kvs.any λq=>decide (q.1=k))=vs.any λq=>decide (q.1=k):=by
 unfold KV at r
 induction r with
 |nil=>rfl
 |cons h t z=>rw[Qzd,Qzd,z,h.1]
def KV.repl{vs:List (κ×Yv)}(r:KV kvs vs)(k)(J:RelV y u):
  KV (kvs.map λF=>if F.1=k then(F.1,y) else F) (vs.map λF=>if F.1=k then(F.1,u) else F):=by
 unfold KV at r ⊢
 induction r with
 |nil=>exact .nil
 |@cons p q ps O h t L=>
  rw[Qqb,Qqb];refine .cons ?_ L;obtain⟨h1,h2⟩:=h
  by_cases e:p.1=k
  ·rw[Xq e,Xq (h1.symm.trans e)]; exact⟨h1,J⟩
  ·rw[Z9 e,Z9 (λz=>e (h1.trans z))]; exact⟨h1,h2⟩
def KV.put{vs:List (κ×Yv)}(r:KV kvs vs)(k)(q:RelV y u):KV (putK kvs k y) (stored vs k u):=by
 unfold putK stored;rw[r.any k]
 by_cases e:(vs.any λz=>decide (z.1=k))=Y0
 ·rw[Xq e,Xq e]; exact r.repl k q
 ·rw[Z9 e,Z9 e]; exact Paired.snoc r ⟨rfl,q⟩
def KV.keys{vs:List (κ×Yv)}(r:KV kvs vs):kvs.map (·.1)=vs.map (·.1):=by
 unfold KV at r
 induction r with
 |nil=>rfl
 |cons h t q=>rw[Qqb,Qqb,q,h.1]
theorem KV.length{vs:List (κ×Yv)}(r:KV kvs vs):kvs.length=vs.length:=Paired.length r
end
def qj0(r:RelV (kV k) u):(mixKind P w).is k u=true:=by
 cases k with
 |inl i=>obtain⟨t,e⟩:=(r); subst e; exact qyv P w i t
 |inr x=>obtain⟨t,e⟩:=(r); subst e; exact qxz P w x t
theorem qwb:∀{q}{us},Vals (q.map kV) us->ItemsAre (mixKind P w) q us
 |[],_,r=>by rw[Qxx]at r; cases r; exact .nil
 |k::q,_,r=>by
  rw[Qqb]at r
  cases r with
  |cons h t=>exact .cons (qj0 h) (qwb t)
abbrev KT(H:Hp):List (List Key×V)->List (List Key×Ya×Yv)->Prop:=Paired λp q=>p.1=q.1/\H q.2.1=Y2 (.tup (p.1.map kV))/\RelV p.2 q.2.2
def KT.val(r:KT H kvs xs)(k):RelO (valV kvs k) ((atKey xs k).map (·.2)):=by
 induction r with
 |nil=>exact True.intro
 |@cons p q ps F h t L=>
  obtain⟨h1,_,h2⟩:=h
  by_cases e:p.1=k
  ·have J:=h1.symm.trans e;have b:atKey (q::F) k=Y2 q.2:=by simp[atKey,Qqu,J]
   rw[qxv e,b]; exact h2
  ·have J:¬ q.1=k:=λz=>e (h1.trans z);have b:atKey (q::F) k=atKey F k:=by simp[atKey,Qqu,J]
   rw[qxw e,b]; exact L
def KT.repl(r:KT H kvs xs)(k)(J:RelV y u):
  KT H (kvs.map λF=>if F.1=k then(F.1,y) else F) (xs.map (putAt k u)):=by
 induction r with
 |nil=>exact .nil
 |@cons p q ps U h t L=>
  rw[Qqb,Qqb];refine .cons ?_ L;obtain⟨h1,h2,O⟩:=h;unfold putAt
  by_cases e:p.1=k
  ·rw[Xq e,Xq (h1.symm.trans e)]; exact⟨h1,h2,J⟩
  ·rw[Z9 e,Z9 (λz=>e (h1.trans z))]; exact⟨h1,h2,O⟩
def KT.put(r:KT H kvs xs)(k)(J:H b=Y2 (.tup (k.map kV)))(z:RelV y u):
  KT H (putK kvs k y) (storedH xs k b u):=by
 have e:(kvs.any λF=>decide (F.1=k))=(atKey xs k).isSome:=by
  rw[qy0,(r.val k).isSome_eq,Qjr]
 unfold putK storedH;rw[e]
 by_cases q:(atKey xs k).isSome=Y0
 ·rw[Xq q,Xq q]; exact r.repl k z
 ·rw[Z9 q,Z9 q]; exact Paired.snoc r ⟨rfl,J,z⟩
def KT.keeps(r:KT H kvs xs)(q:∀b ys,H b=Y2 (.tup ys)->H' b=Y2 (.tup ys)):KT H' kvs xs:=
 Paired.mapP r λ_ _ z=>⟨z.1,q _ _ z.2.1,z.2.2⟩
section
def rd_of(ok:HOk P w H h)(e:Rd H a u):ObjOk P w H h a u:=e.ok ok
def qvf(ok:HOk P w H h)(e:Rd H a (.dK kvs)):kvs.length<=sizeLine/\(a==Qm)=Y1/\∃vs,KV kvs vs/\h.DictOf (mixKind P w) a vs:=
 show ObjOk P w H h a (.dK kvs) from rd_of ok e
def dk_of(ok:HOk P w H h)(e:H a=Y2 (.dK kvs)):kvs.length<=sizeLine/\(a==Qm)=Y1/\∃vs,KV kvs vs/\h.DictOf (mixKind P w) a vs:=qvf ok (.inl e)
def qqr(ok:HOk P w H h)(e:H a=Y2 (.tup (q.map kV))):(tupleKind (mixKind P w)).is h q a:=by
 obtain⟨_,z,r,o,h1,h2,n,F⟩:=(ok a _ e)
 exact⟨o,z.toArray,n,h1,h2,F,by simpa using qwb r⟩
def qwm(ok:HOk P w H h)(e:Rd H a (.dT kvs)):kvs.length<=sizeLine/\(a==Qm)=Y1/\
  ∃xs,KT H kvs xs/\h.DictOfH (tupleKind (mixKind P w)) a xs:=by
 obtain⟨z,y,xs,r,o,es,ep,h1,h2,Y,U,O⟩:=(rd_of ok e)
 refine⟨z,y,xs,r,o,es,ep,h1,h2,Y,U,λx F=>?_,O⟩;have all:∀{l:List (List Key×V)}{m:List (List Key×Ya×Yv)},KT H l m->∀x∈m,(tupleKind (mixKind P w)).is h x.1 x.2.1:=by
  intro l m q
  induction q with
  |nil=>intro x F; exact nomatch F
  |@cons p q ps Z J t L=>
   intro x F;rcases Qqa.mp F with e|F
   ·subst e;exact qqr ok (by rw[<- J.1]; exact J.2.1)
   ·exact L x F
 exact all r x F
def dt_of(ok:HOk P w H h)(e:H a=Y2 (.dT kvs)):kvs.length<=sizeLine/\(a==Qm)=Y1/\
  ∃xs,KT H kvs xs/\h.DictOfH (tupleKind (mixKind P w)) a xs:=qwm ok (.inl e)
end
def DGet(H:Hp)(a:Ya)(y:V)(r:Option V):Prop:=
 (∃kvs k,Rd H a (.dK kvs)/\y=kV k/\r=valV kvs k)\/∃kvs k b,Rd H a (.dT kvs)/\y=.ref b/\H b=Y2 (.tup (k.map kV))/\r=valV kvs k
def DPut(H:Hp)(a:Ya)(y v:V)(H':Hp):Prop:=
 (∃kvs k,H a=Y2 (.dK kvs)/\y=kV k/\kvs.length<sizeLine/\H'=upd H a (.dK (putK kvs k v)))\/
 ∃kvs k b,H a=Y2 (.dT kvs)/\y=.ref b/\H b=Y2 (.tup (k.map kV))/\kvs.length<sizeLine/\H'=upd H a (.dT (putK kvs k v))
theorem DPut.k{H:Hp}{a:Ya}{kvs:List (Key×V)}{k:Key}{v:V}(e:H a=Y2 (.dK kvs))(q:kvs.length<sizeLine):DPut H a (kV k) v (upd H a (.dK (putK kvs k v))):=.inl ⟨kvs,k,e,rfl,q,rfl⟩
def DPut.t{H:Hp}{a b:Ya}{kvs:List (List Key×V)}{k:List Key}{v:V}(e:H a=Y2 (.dT kvs))(z:H b=Y2 (.tup (k.map kV)))(q:kvs.length<sizeLine):
  DPut H a (.ref b) v (upd H a (.dT (putK kvs k v))):=.inr ⟨kvs,k,b,e,rfl,z,q,rfl⟩
section
def Inv.big(I:Inv X pins σ H s):Qm<s.heap.objs.size:=by
 have h:=(I.mod.glob.keeps I.bk).lt;exact Nat.lt_trans (by decide) h
def qe1(hu:A.units+1<cLine)(I:Inv X pins σ H s)(g:DGet H a y (Y2 v))(Z:RelV y u)(h:∀J s',Inv X pins σ H s'->RelV v J->Q J s'):
  wpAny (model X.prog X.w) A (Za (.ref a) u) Q E s:=by
 rcases g with⟨kvs,k,e,U,l⟩|⟨kvs,k,b,e,U,eb,l⟩
 ·subst U;obtain⟨z,hd,vs,F,Y⟩:=qvf I.hok e;obtain⟨J,L,q⟩:=RelO.some_of (by rw[l]; exact F.val k);exact wpAny_getItem_of (qj0 Z) Y.mapOf L (h J _ (I.tok _) q)
 ·subst U;cases (Z);obtain⟨z,hd,xs,F,Y⟩:=qwm I.hok e;obtain⟨J,L,q⟩:=RelO.some_of (by rw[l]; exact F.val k);obtain⟨p,hp,O⟩:=Qqf.mp L;refine wpAny_getItem_heap (Q1 hu) (qqr I.hok eb) Y hp ?_;rw[O];exact h J _ (I.tok _) q
def d_in(U:A.units+1<cLine)(I:Inv X pins σ H s)(g:DGet H a y o)(O:RelV y u)(h:∀s',Inv X pins σ H s'->Q (.bool o.isSome) s'):
  wpAny (model X.prog X.w) A (Qi .In u (.ref a)) Q E s:=by
 rcases g with⟨kvs,k,e,J,l⟩|⟨kvs,k,b,e,J,Y,l⟩
 ·subst J;obtain⟨z,hd,vs,F,L⟩:=qvf I.hok e;refine wpAny_in_of (qj0 O) hd L.mapOf ?_;rw[<- (F.val k).isSome_eq,<- l];exact h _ (I.tok _)
 ·subst J;cases (O);obtain⟨z,hd,xs,F,L⟩:=qwm I.hok e;refine wpAny_in_heap (Q1 U) (qqr I.hok Y) hd L ?_;have q:=(F.val k).isSome_eq;rw[Qjr]at q;rw[<- q,<- l];exact h _ (I.tok _)
def qoz(U:A.units+1<cLine)(I:Inv X pins σ H s)(g:DGet H a y o)(O:RelV y u)(h:∀s',Inv X pins σ H s'->Q (.bool (!o.isSome)) s'):
  wpAny (model X.prog X.w) A (Qi .NotIn u (.ref a)) Q E s:=by
 rcases g with⟨kvs,k,e,J,l⟩|⟨kvs,k,b,e,J,Y,l⟩
 ·subst J;obtain⟨z,hd,vs,F,L⟩:=qvf I.hok e;refine wpAny_notIn_of (qj0 O) hd L.mapOf ?_;rw[<- (F.val k).isSome_eq,<- l];exact h _ (I.tok _)
 ·subst J;cases (O);obtain⟨z,hd,xs,F,L⟩:=qwm I.hok e;refine wpAny_notIn_heap (Q1 U) (qqr I.hok Y) hd L ?_;have q:=(F.val k).isSome_eq;rw[Qjr]at q;rw[<- q,<- l];exact h _ (I.tok _)
def qym(I:Inv X pins σ H s)(F:Mut (H a))(J:Heap.SameBut a s.heap h')(L:∃q,h'.get? a=Y2 q)(new:ObjOk X.prog X.w (upd H a ob) h' a ob):
  Inv X pins σ (upd H a ob) { s with heap:=h',toks:=t' }:=
 I.write F (.inl rfl) (λb q O z=>(J.2 b O).trans z) L new
def dk_new(z:kvs.length<=sizeLine)(hd:(a==Qm)=Y1)(q:KV kvs vs)(F:h'.DictOf (mixKind P w) a vs):
  ObjOk P w H' h' a (.dK kvs):=⟨z,hd,vs,q,F⟩
def qe0(hu:A.units+1<cLine)(I:Inv X pins σ H s)(g:DPut H a y v H')(ry:RelV y u)(rv:RelV v r)(h:∀s',Inv X pins σ H' s'->Q () s'):
  wpAny (model X.prog X.w) A (setItem (.ref a) u r) Q E s:=by
 rcases g with⟨kvs,k,e,Z,l,eH⟩|⟨kvs,k,b,e,Z,eb,l,eH⟩
 ·subst Z eH;obtain⟨z,hd,vs,F,dd⟩:=dk_of I.hok e;have O:vs.length<=sizeLine:=by rw[<- F.length]; exact z
  have Y:(putK kvs k v).length<=sizeLine:=by have:=qxq kvs k v; omega
  refine wpAny_setItem_pairs (qj0 ry) dd λh' J U=>h _ ?_;have he:∃q,h'.get? a=Y2 q:=let ⟨q,_,_,L,_⟩:=J; ⟨q,L⟩;exact qym I (by rw[e]; exact True.intro) U he (dk_new Y hd (F.put k rv) J)
 ·subst Z eH;cases (ry);obtain⟨z,hd,xs,F,dd⟩:=dt_of I.hok e;have O:xs.length<=sizeLine:=by rw[<- Paired.length F]; exact z
  have Y:(putK kvs k v).length<=sizeLine:=by have:=qxq kvs k v; omega
  refine wpAny_setItem_heap (Q1 hu) (qqr I.hok eb) dd λh' J U=>h _ ?_;obtain⟨q,es,ep,L,h2,h3,h4,_,h5⟩:=J;refine qym I (by rw[e]; exact True.intro) U ⟨q,L⟩ ⟨Y,hd,_,(F.put k eb rv).keeps λc ys ec=>?_,q,es,ep,L,h2,h3,h4,h5⟩;rw[qzq (qzo ec e (λz=>nomatch z))];exact ec
end
section
end
def NoSl(i:Qj):Prop:=∀ov iv,subscripted i Y1 ov iv=operate [ov,iv] (Za ov iv)
def qcl{id:String}(hl:typeLookup (.type T) "__getitem__" = pure (Y2 (.builtin id)))(hs:NoSl q)(h:wpAny (model prog w) A (Qa z env) (λo L=>wpAny (model prog w) A (Qa q env) (λi s₂=>s₂.TypeIs o T/\wpAny (model prog w) A (Za o i) Q E s₂) E L) E s):
  wpAny (model prog w) A (Qa (.Subscript z q pos) env) Q E s:=by
 refine Subscript_ (Ql h (λo L Y=>Ql Y (λi s₂ F=>?_) λ_ _ x=>x) λ_ _ x=>x);obtain⟨Z,F⟩:=F;unfold subscriptTail;refine Qq ?_;rw[getitemInPython_of_ne Z.not_modules];refine Qq (Ze Z hl ?_);have O:wpAny (model prog w) A (subscripted q Y1 o i) (λr J=>wpAny (model prog w) A (letTemporaryGo z o r >>= λ_=>pure r) Q E J) E s₂:=by
  rw[hs o i];exact wpAny_operating (Ql F (λr J U=>Qq (wpAny_letTemporaryGo (Qx U))) λ_ _ x=>x)
 first
  |exact Qx (Qq O)
  |exact Qq (Qx (Qq O))
  |exact Qq O
def qyi(I:Inv X q F H s)(g:DGet H a y o):s.TypeIs (.ref a) "dict":=by
 rcases g with⟨kvs,k,e,_,_⟩|⟨kvs,k,b,e,_,_,_⟩
 ·obtain⟨_,_,vs,_,z⟩:=qvf I.hok e;exact z.typeIs
 ·obtain⟨_,_,xs,_,z⟩:=qwm I.hok e;exact z.typeIs
noncomputable def tDGet(td ty:TE):TE:=λσ H Q=>td σ H λx H1=>ty σ H1 λy H2=>∃a v,x=.ref a/\DGet H2 a y (Y2 v)/\Q v H2
noncomputable def tDIn(ty td:TE):TE:=λσ H Q=>ty σ H λy H1=>td σ H1 λx H2=>∃a o,x=.ref a/\DGet H2 a y o/\Q (.bl o.isSome) H2
noncomputable def qw8(ty td:TE):TE:=λσ H Q=>ty σ H λy H1=>td σ H1 λx H2=>∃a o,x=.ref a/\DGet H2 a y o/\Q (.bl (!o.isSome)) H2
noncomputable def sDPut(td ty tv:TE):TS:=λD σ H=>tv σ H λv H1=>td σ H1 λx H2=>ty σ H2 λy H3=>∃a H4,x=.ref a/\DPut H3 a y v H4/\D.nx σ H4
section
def qdy(Y:X.A.units+1<cLine)(ho:PE X o td)(hi:PE X i ty)(Z:NoSl i):PE X (.Subscript o i pos) (tDGet td ty):=by
 intro pins s σ H Q I h;refine qcl PySem.F.slot_dict_getitem.lookup Z (thn (ho pins s σ H _ I h) λu F ⟨x,H1,I1,L,U⟩=>thn (hi pins F σ H1 _ I1 U) λiv s2 ⟨y,H2,z,J,a,v,ex,g,O⟩=>?_);subst ex;obtain rfl:u=Value.ref a:=L;exact⟨qyi z g,qe1 Y z g J λw' s3 I3 q=>⟨v,H2,I3,q,O⟩⟩
def qie(U:X.A.units+1<cLine)(Z:PE X i ty)(Y:PE X o td):PC X .In i o (tDIn ty td):=by
 intro pins s σ H Q I h;refine thn (Z pins s σ H _ I h) λiv q ⟨y,H1,I1,z,L⟩=>thn (Y pins q σ H1 _ I1 L) λu s2 ⟨x,H2,I2,F,a,O,ex,g,J⟩=>?_;subst ex;obtain rfl:u=Value.ref a:=F;exact d_in U I2 g z λs3 I3=>⟨.bl O.isSome,H2,I3,rfl,J⟩
def qwz(U:X.A.units+1<cLine)(Z:PE X i ty)(Y:PE X o td):PC X .NotIn i o (qw8 ty td):=by
 intro pins s σ H Q I h;refine thn (Z pins s σ H _ I h) λiv q ⟨y,H1,I1,z,L⟩=>thn (Y pins q σ H1 _ I1 L) λu s2 ⟨x,H2,I2,F,a,O,ex,g,J⟩=>?_;subst ex;obtain rfl:u=Value.ref a:=F;exact qoz U I2 g z λs3 I3=>⟨.bl (!O.isSome),H2,I3,rfl,J⟩
def qdz(hu:X.A.units+1<cLine)(ho:PE X o td)(hi:PE X i ty)(Z:PE X value tv)(hs:swapsWith value (Y2 (.Subscript o i pos')) pos.line X.env=pure Y1):
  PS X (.Assign [.Subscript o i pos'] value pos) (sDPut td ty tv):=by
 intro pins s σ H D I h;refine wpAny_Assign_Subscript (thn (Z pins s σ H _ I h) λr z ⟨v,H1,I1,L,Y⟩=>thn (ho pins z σ H1 _ I1 Y) λu q ⟨x,H2,I2,J,U⟩=>thn (hi pins q σ H2 _ I2 U) λiv s3 ⟨y,H3,I3,F,a,H4,ex,g,O⟩=>?_) hs;subst ex;obtain rfl:u=Value.ref a:=J;exact qe0 hu I3 g F L λs4 I4=>⟨σ,H4,I4,O⟩
end
def qa4(h:Heap)(q:Qm<h.objs.size):ObjOk P w H (h.push { cls:=.type "dict",data:=.dict #[] }) h.objs.size (.dK []):=
 ⟨Qzq _,beq_eq_false_iff_ne.mpr (Ne.symm (Qq1 q)),[],.nil,Heap.DictOf.new h⟩
def qhp(h:Heap)(q:Qm<h.objs.size):ObjOk P w H (h.push { cls:=.type "dict",data:=.dict #[] }) h.objs.size (.dT []):=
 ⟨Qzq _,beq_eq_false_iff_ne.mpr (Ne.symm (Qq1 q)),[],.nil,_,#[],0,Qqc _ rfl,⟨rfl,rfl,rfl⟩,rfl,rfl,List.nodup_nil⟩
noncomputable def tDNewK:TE:=λ_ H Q=>∀p,H p=Y3->Q (.ref p) (upd H p (.dK []))
noncomputable def tDNewT:TE:=λ_ H Q=>∀p,H p=Y3->Q (.ref p) (upd H p (.dT []))
section
def pe_dnewK:PE X (.Dict [] [] pos) tDNewK:=λpins s σ H Q I h=>
 wpAny_Dict_empty ⟨.ref s.heap.objs.size,_,I.laid (λ_ _ q=>Qqx _ q) (Qqj _) (qa4 s.heap I.big),rfl,h _ (I.hok.fresh (Qqj _))⟩
def pe_dnewT:PE X (.Dict [] [] pos) tDNewT:=λpins s σ H Q I h=>
 wpAny_Dict_empty ⟨.ref s.heap.objs.size,_,I.laid (λ_ _ q=>Qqx _ q) (Qqj _) (qhp s.heap I.big),rfl,h _ (I.hok.fresh (Qqj _))⟩
end
noncomputable def qy6:List (TE×TE)->St->Hp->(List (V×V)->Hp->Prop)->Prop
 |[],_,H,Q=>Q [] H
 |(tk,tv)::r,σ,H,Q=>tk σ H λx H1=>tv σ H1 λy H2=>qy6 r σ H2 λps H3=>Q ((x,y)::ps) H3
abbrev VV:List (V×V)->List (Yv×Yv)->Prop:=Paired λp q=>RelV p.1 q.1/\RelV p.2 q.2
def PPs(X:Cx)(pos:Pos)(keys:List (Option Qj))(values:List Qj)(trs:List (TE×TE)):Prop:=
 ∀(pins:List (Ya×Obj)) (s:Qz) (σ:St) (H:Hp) (Q:List (V×V)->Hp->Prop),Inv X pins σ H s->qy6 trs σ H Q->
  wpAny (model X.prog X.w) X.A (evalPairs (pairTrees keys values X.env pos)) (λvs s'=>∃ps H',Inv X pins σ H' s'/\VV ps vs/\Q ps H') X.xe s
def qmx:PPs X pos [] [] []:=λpins s σ H Q I h=>pairTrees_nil_walk ⟨[],H,I,.nil,h⟩
def qgp(hk:PE X k J)(hv:PE X v F)(hr:PPs X pos L vs q):
  PPs X pos (Y2 k::L) (v::vs) ((J,F)::q):=λpins s σ H Q I h=>
 pairTrees_cons_walk (thn (hk pins s σ H _ I h) λu U ⟨x,H1,I1,Z,q1⟩=>thn (hv pins U σ H1 _ I1 q1) λw2 O ⟨y,H2,I2,Y,q2⟩=>
  thn (hr pins O σ H2 _ I2 q2) λws s3 ⟨ps,H3,I3,z,q3⟩=>⟨(x,y)::ps,H3,I3,.cons ⟨Z,Y⟩ z,q3⟩)
noncomputable def qkm(kvs more:List (Key×V)):List (Key×V):=more.foldl (λacc kv=>putK acc kv.1 kv.2) kvs
def KV.merge:∀{more}{z}{kvs}{vs},KV more z->KV kvs vs->KV (qkm kvs more) (merged vs z):=by
 intro more z kvs vs r;unfold KV at r
 induction r generalizing kvs vs with
 |nil=>intro q; exact q
 |@cons p q ps L h t J=>
  intro F;have e:KV (putK kvs p.1 p.2) (stored vs q.1 q.2):=by
   have:=F.put p.1 h.2;rw[<- h.1]; exact this
  exact J e
theorem qxf:∀(more kvs:List (Key×V)),(qkm kvs more).length<=kvs.length+more.length
 |[],kvs=>by show kvs.length<=kvs.length+0; omega
 |p::r,kvs=>by
  have h1:=qxf r (putK kvs p.1 p.2);have h2:=qxq kvs p.1 p.2;show(qkm (putK kvs p.1 p.2) r).length<=_;rw[Qqg]; omega
theorem qk0:∀{kvs}{F},VV (kvs.map λJ=>(kV J.1,J.2)) F->∃z,Carries (mixKind P w) F z/\KV kvs z
 |[],_,r=>by rw[Qxx]at r; cases r; exact⟨[],True.intro,.nil⟩
 |p::kvs,_,r=>by
  rw[Qqb]at r
  cases r with
  |@cons a b L bs h t=>
   obtain⟨z,c,q⟩:=qk0 t;obtain⟨b1,b2⟩:=b;exact⟨(p.1,b2)::z,⟨qj0 h.1,rfl,c⟩,.cons ⟨rfl,h.2⟩ q⟩
noncomputable def tDisp(trs:List (TE×TE)):TE:=λσ H Q=>∀p,H p=Y3->qy6 trs σ (upd H p (.dK [])) λps H2=>H2 p=Y2 (.dK [])/\∃kvs:List (Key×V),ps=kvs.map (λkv=>(kV kv.1,kv.2))/\kvs.length<=15/\Q (.ref p) (upd H2 p (.dK (qkm [] kvs)))
def qmi(h:PPs X pos keys F J)(L:keys.all (·.isSome)=Y0)(hl:keys.length=F.length)(h0:keys≠[])(Y:keys.length<=15):PE X (.Dict keys F pos) (tDisp J):=by
 intro pins s σ H Q I q;have hn:=I.hok.fresh (Qqj s.heap.objs.size);have I1:=I.laid (t':=s.toks) (λ_ _ q=>Qqx _ q) (Qqj _) (qa4 s.heap I.big);refine wpAny_Dict_walk (knd:=mixKind X.prog X.w) L hl h0 Y (thn (h pins _ σ _ _ I1 (q _ hn)) λws s2 ⟨ps,H2,Z,U,e,kvs,ep,lk,q2⟩=>?_);subst ep;obtain⟨rs,c,rk⟩:=qk0 U;obtain⟨z,hd,a0,r0,dd⟩:=dk_of Z.hok e;cases r0;refine⟨rs,c,dd,λh' O hs=>⟨.ref s.heap.objs.size,_,?_,rfl,q2⟩⟩;have hz:(qkm [] kvs).length<=sizeLine:=by
  have h1:=qxf kvs [];rw[Qxs]at h1;rw[Q5]; omega
 have he:∃q,h'.get? s.heap.objs.size=Y2 q:=let ⟨q,_,_,hq,_⟩:=O; ⟨q,hq⟩;exact qym Z (by rw[e]; exact True.intro) hs he (dk_new hz hd (rk.merge .nil) O)
structure M1 (X:Cx) (o:Qj) (m:Yb) (apos:Pos) (e:Qj) (cpos:Pos):Prop where
 base:Q8 o m X.env (Qa o X.env)=Qa o X.env
 few:((backTo cpos (starEach [e] X.env)).all (λx=>!x.1)&&(backToKw cpos (keywordEach [] X.env)).all (λx=>x.1.isSome)
  && decide (([e]:List Qj).length+([]:List Zi).length+(if ([]:List Zi).isEmpty then 0 else 1)<30))=Y0
 line:(apos.endLine==cpos.line)=Y0
 trees:backTo cpos (starEach [e] X.env)=[(Y1,Qa e X.env)]
structure M2 (X:Cx) (o:Qj) (m:Yb) (apos:Pos) (e f:Qj) (cpos:Pos):Prop where
 base:Q8 o m X.env (Qa o X.env)=Qa o X.env
 few:((backTo cpos (starEach [e,f] X.env)).all (λx=>!x.1)&&(backToKw cpos (keywordEach [] X.env)).all (λx=>x.1.isSome)
  && decide (([e,f]:List Qj).length+([]:List Zi).length+(if ([]:List Zi).isEmpty then 0 else 1)<30))=Y0
 line:(apos.endLine==cpos.line)=Y0
 trees:backTo cpos (starEach [e,f] X.env)=[(Y1,Qa e X.env),(Y1,Qa f X.env)]
def IsD(H:Hp)(a:Ya):Prop:=(∃kvs,Rd H a (.dK kvs))\/∃kvs,Rd H a (.dT kvs)
def qio(I:Inv X z J H s)(d:IsD H a):
  s.TypeIs (.ref a) "dict"/\(∀b,Value.ref a=.ref b->∃ob,s.heap.get? b=Y2 ob/\ob.dict=Y3)/\(a==Qm)=false:=by
 rcases d with⟨kvs,e⟩|⟨kvs,e⟩
 ·obtain⟨_,hd,vs,_,F⟩:=qvf I.hok e;refine⟨F.typeIs,λb q=>?_,hd⟩;cases q;obtain⟨ob,_,_,h1,h2,_⟩:=F;exact⟨ob,h1,h2.2.1⟩
 ·obtain⟨_,hd,xs,_,F⟩:=qwm I.hok e;refine⟨F.typeIs,λb q=>?_,hd⟩;cases q;obtain⟨ob,_,_,h1,h2,_⟩:=F;exact⟨ob,h1,h2.2.1⟩
section
def d_get1(U:A.units+1<cLine)(I:Inv X pins σ H s)(g:DGet H a y o)(O:RelV y u)(h:∀L s',Inv X pins σ H s'->RelV (o.getD .non) L->Q L s'):
  wpAny (model X.prog X.w) A (call (.builtin "dict.get") [.ref a,u]) Q E s:=by
 rcases g with⟨kvs,k,e,J,l⟩|⟨kvs,k,b,e,J,Y,l⟩
 ·subst J;obtain⟨z,hd,vs,q,F⟩:=qvf I.hok e;refine call_meetsIn PySem.F.slot_dict_get F.typeIs PySem.F.entry_dict_get (PySem.F.args_dict_get_2 _ _) (meets_dict_get (mixKind X.prog X.w) a (qj0 O) hd) ⟨_,F.mapOf,h _ _ (I.tok _) ?_⟩;rw[l];exact(q.val k).getD rfl
 ·subst J;cases (O);obtain⟨z,hd,xs,q,F⟩:=qwm I.hok e;refine call_meetsIn PySem.F.slot_dict_get F.typeIs PySem.F.entry_dict_get (PySem.F.args_dict_get_2 _ _) (meetsH_dict_get (tupleKind (mixKind X.prog X.w)) a b hd) ⟨Q1 U,k,xs,qqr I.hok Y,F,h _ _ (I.tok _) ?_⟩;rw[l];exact(q.val k).getD rfl
def d_get2(U:A.units+1<cLine)(I:Inv X pins σ H s)(g:DGet H a y o)(O:RelV y u)(rd:RelV d r)(h:∀L s',Inv X pins σ H s'->RelV (o.getD d) L->Q L s'):
  wpAny (model X.prog X.w) A (call (.builtin "dict.get") [.ref a,u,r]) Q E s:=by
 rcases g with⟨kvs,k,e,J,l⟩|⟨kvs,k,b,e,J,Y,l⟩
 ·subst J;obtain⟨z,hd,vs,q,F⟩:=qvf I.hok e;refine call_meetsIn PySem.F.slot_dict_get F.typeIs PySem.F.entry_dict_get (PySem.F.args_dict_get_3 _ _ _) (meets_dict_get_default (mixKind X.prog X.w) a (qj0 O) hd r) ⟨_,F.mapOf,h _ _ (I.tok _) ?_⟩;rw[l];exact(q.val k).getD rd
 ·subst J;cases (O);obtain⟨z,hd,xs,q,F⟩:=qwm I.hok e;refine call_meetsIn PySem.F.slot_dict_get F.typeIs PySem.F.entry_dict_get (PySem.F.args_dict_get_3 _ _ _) (meetsH_dict_get_default (tupleKind (mixKind X.prog X.w)) a b hd r) ⟨Q1 U,k,xs,qqr I.hok Y,F,h _ _ (I.tok _) ?_⟩;rw[l];exact(q.val k).getD rd
end
noncomputable def tDGet1(td ty:TE):TE:=λσ H Q=>td σ H λx H1=>∃a,x=.ref a/\IsD H1 a/\ty σ H1 λy H2=>∃o,DGet H2 a y o/\Q (o.getD .non) H2
noncomputable def tDGet2(td ty tx:TE):TE:=λσ H Q=>td σ H λx H1=>∃a,x=.ref a/\IsD H1 a/\ty σ H1 λy H2=>tx σ H2 λz H3=>∃o,DGet H3 a y o/\Q (o.getD z) H3
section
def qg6(Y:X.A.units+1<cLine)(Z:PE X o td)(he:PE X e ty)(m:M1 X o "get" apos e cpos):PE X (.Call (.Attribute o "get" apos) [e] [] cpos) (tDGet1 td ty):=by
 intro pins s σ H Q I h;refine wpAny_Call_method m.base m.few m.line PySem.F.plainAttrs_dict PySem.F.slot_dict_get PySem.F.type_dict_get (thn (Z pins s σ H _ I h) λu F ⟨x,H1,z,L,a,ex,d,U⟩=>?_);subst ex;obtain rfl:u=Value.ref a:=L;obtain⟨t1,t2,_⟩:=qio z d;refine⟨t1,t2,?_⟩;rw[m.trees];refine Calls.callWith_builtin rfl (Calls.evalArgs_plain (Calls.spliced_cons (thn (he pins F σ H1 _ z U) λiv s2 ⟨y,H2,I2,J,ov,g,O⟩=>Calls.spliced_nil ?_)));exact d_get1 Y I2 g J λw' s3 I3 q=>⟨_,H2,I3,q,O⟩
def qg5(hu:X.A.units+1<cLine)(ho:PE X o td)(he:PE X e ty)(hf:PE X f tx)(m:M2 X o "get" apos e f cpos):PE X (.Call (.Attribute o "get" apos) [e,f] [] cpos) (tDGet2 td ty tx):=by
 intro pins s σ H Q I h;refine wpAny_Call_method m.base m.few m.line PySem.F.plainAttrs_dict PySem.F.slot_dict_get PySem.F.type_dict_get (thn (ho pins s σ H _ I h) λu L ⟨x,H1,F,Y,a,ex,d,q1⟩=>?_);subst ex;obtain rfl:u=Value.ref a:=Y;obtain⟨t1,t2,_⟩:=qio F d;refine⟨t1,t2,?_⟩;rw[m.trees]
 refine Calls.callWith_builtin rfl (Calls.evalArgs_plain (Calls.spliced_cons (thn (he pins L σ H1 _ F q1) λiv J ⟨y,H2,I2,U,q2⟩=>
  Calls.spliced_cons (thn (hf pins J σ H2 _ I2 q2) λfv s3 ⟨z,H3,I3,O,ov,g,Z⟩=>Calls.spliced_nil ?_))))
 exact d_get2 hu I3 g U O λw' s4 I4 q=>⟨_,H3,I4,q,Z⟩
end
section
end
section
end
end L2
end
section
namespace M
open PySem (Str Operator CmpOp)
inductive D where
 |non|bl (b:Bool)|int (i:Int)|str (s:Yb)|tup (ds:List D)|lst (ds:List D)|loc (l:Nat)|fup (ks:List Int)
 deriving Inhabited
inductive Yc where
 |lst (w:Bool) (ds:List D)
 |dic (w:Bool) (kvs:List (D×D))
 |obj (C:Nat) (fs:List (Yb×D))
 |tdc (w:Bool) (kvs:List (List Int×D))
 deriving Inhabited
abbrev Yo:=List Yc
abbrev Sl:=List (Option D)
noncomputable def lim:Nat:=16777216
inductive Ty where
 |non|bl|int|str|tup|lst
 deriving DecidableEq
noncomputable def Ty.name:Ty->String
 |.non=>"NoneType"
 |.bl=>"bool"
 |.int=>"int"
 |.str=>"str"
 |.tup=>"tuple"
 |.lst=>"list"
inductive B where
 |len|min|tuple|list|all|sorted|any|sum
inductive Mt where
 |append|extend|index|insert
inductive T where
 |var (i:Nat)
 |tup (is:List Nat)
noncomputable def T.slots:T->List Nat
 |.var i=>[i]
 |.tup is=>is
inductive E where
 |var (i:Nat)
 |lit (d:D)
 |glo (x:Yb) (d:D)
 |bin (op:Zp) (a b:E)
 |neg (a:E)
 |not (a:E)
 |cmp (op:CmpOp) (a b:E)
 |cmp2 (op op':CmpOp) (a b c:E)
 |and (a b:E)
 |or (a b:E)
 |ite (c a b:E)
 |tup (es:List E)
 |lst (es:List E)
 |idx (a b:E)
 |sli (a:E) (lo hi:Option E)
 |call (f:Nat) (es:List E)
 |bcall (f:B) (es:List E)
 |isi (a:E) (ts:List Ty) (many:Bool)
 |meth (a:E) (m:Mt) (es:List E)
 |gc (a:E)
 |rng1 (a:E)
 |rng2 (a b:E)
 |zip (a b:E)
 |enu (a:E)
 |rev (a:E)
 |dic (es:List E)
 |didx (a b:E)
 |din (neg:Bool) (a b:E)
 |dgt (a b:E)
 |gidx (x:Yb) (ks:List Yb) (ds:List D) (b:E)
 |gin (neg:Bool) (x:Yb) (ks:List Yb) (b:E)
 |lenset (a:E)
 |comp (t:T) (it:E) (test:Option E) (elt:E) (src:List (Option Nat))
 |ttup (es:List E)
 |tsli (a:E) (lo hi:Option E)
 |unt (a:E)
 |tdn
 |tdx (a b:E)
 |tdi (neg:Bool) (a b:E)
 |tdg (a b c:E)
 |cmpd (t:T) (a:E) (test:Option E) (elt:E) (src:List (Option Nat))
 |attr (C:Nat) (a:E) (f:Yb)
 |mcall (C f:Nat) (m:Yb) (a:E) (es:List E)
 |new (C f:Nat) (es:List E)
inductive S where
 |set (t:T) (e:E)
 |dset (a i e:E)
 |tds (a i e:E)
 |setA (C:Nat) (a:E) (f:Yb) (e:E)
 |ford (t:T) (a:E) (body:List S)
 |bad
 |expr (e:E)
 |ret (e:E)
 |ite (c:E) (a b:List S)
 |forr (t:T) (it:E) (body:List S)
structure Fn where
 np:Nat
 nl:Nat
 body:List S
mutual
noncomputable def eqT:D->D->Bool
 |.non,.non=>Y0
 |.bl a,.bl b=>a==b
 |.bl a,.int j=>(if a then 1 else 0)==j
 |.int i,.bl b=>i==(if b then 1 else 0)
 |.int i,.int j=>i==j
 |.str a,.str b=>a==b
 |.tup a,.tup b=>eqTs a b
 |_,_=>Y1
noncomputable def eqTs:List D->List D->Bool
 |[],[]=>Y0
 |a::as,b::bs=>eqT a b&&eqTs as bs
 |_,_=>Y1
end
noncomputable def isI:D->Bool
 |.int _=>Y0
 |_=>Y1
noncomputable def flat(_:Nat):D->Bool
 |.int _=>Y0
 |.str _=>Y0
 |.tup ds=>ds.all isI
 |_=>Y1
noncomputable abbrev flats(n:Nat)(ds:List D):Bool:=ds.all (flat n)
noncomputable def mulOk(i j:Int):Bool:=(decide (-(2 ^ 64)<i)&&decide (i<2 ^ 64))||(decide (-(2 ^ 64)<j)&&decide (j<2 ^ 64))
noncomputable def listAt(st:Yo)(l:Nat):Option (List D):=match st[l]? with|some (.lst _ ds)=>Y2 ds|_=>Y3
noncomputable def wlistAt(st:Yo)(l:Nat):Option (List D):=match st[l]? with|some (.lst Y0 ds)=>Y2 ds|_=>Y3
noncomputable def seqAt(st:Yo):D->Option (List D)
 |.loc l=>listAt st l
 |.lst ds=>Y2 ds
 |_=>Y3
mutual
/-- no place of the store within -/
noncomputable def noLoc:D->Bool
 |.loc _=>Y1
 |.tup ds=>noLocs ds
 |.lst ds=>noLocs ds
 |_=>Y0
noncomputable def noLocs:List D->Bool
 |[]=>Y0
 |d::ds=>noLoc d&&noLocs ds
end
mutual
/-- every place of the store within is one of the first n -/
noncomputable def lt(n:Nat):D->Bool
 |.loc l=>Nat.blt l n
 |.tup ds=>lts n ds
 |.lst ds=>lts n ds
 |_=>Y0
noncomputable def lts(n:Nat):List D->Bool
 |[]=>Y0
 |d::ds=>lt n d&&lts n ds
end
noncomputable def ltC(n:Nat):Yc->Bool
 |.lst _ ds=>lts n ds
 |.dic _ kvs=>kvs.all λp=>lt n p.2
 |.obj _ fs=>fs.all λp=>lt n p.2
 |.tdc _ kvs=>kvs.all λp=>lt n p.2
noncomputable def gcX(n:Nat)(p:D×Yo):D×Yo:=
 if noLoc p.1 then(p.1,p.2.take n) else match p.1 with
  |.loc l=>if n<=l then(match p.2[l]? with
   |some (.lst Y0 ds)=>if noLocs ds then(.lst ds,p.2.take n) else p
   |_=>p) else p
  |_=>p
open Classical in
noncomputable def gcD(st:Yo)(p:D×Yo):D×Yo:=
 if (p.2.take st.length).all (ltC st.length)=Y0 then gcX st.length p else if p.2.take st.length=st then gcX st.length p else p
noncomputable def dicAt(st:Yo)(l:Nat):Option (List (D×D)):=match st[l]? with|some (.dic _ kvs)=>Y2 kvs|_=>Y3
noncomputable def wdicAt(st:Yo)(l:Nat):Option (List (D×D)):=match st[l]? with|some (.dic Y0 kvs)=>Y2 kvs|_=>Y3
noncomputable def tdcAt(st:Yo)(l:Nat):Option (List (List Int×D)):=match st[l]? with|some (.tdc _ kvs)=>Y2 kvs|_=>Y3
noncomputable def wtdcAt(st:Yo)(l:Nat):Option (List (List Int×D)):=match st[l]? with|some (.tdc Y0 kvs)=>Y2 kvs|_=>Y3
noncomputable def tget(kvs:List (List Int×D))(k:List Int):Option D:=(kvs.find? λp=>decide (p.1=k)).map (·.2)
noncomputable def tput(kvs:List (List Int×D))(k:List Int)(v:D):List (List Int×D):=if kvs.any λp=>decide (p.1=k) then kvs.map λp=>if p.1=k then(p.1,v) else p else kvs++[(k,v)]
noncomputable def objAt(st:Yo)(C:Nat):D->Option (List (Yb×D))
 |.loc l=>match st[l]? with|some (.obj C' fs)=>if C'=C then Y2 fs else Y3|_=>Y3
 |_=>Y3
noncomputable def putA(f:Yb)(v:D):List (Yb×D)->List (Yb×D)
 |[]=>[(f,v)]
 |(g,x)::r=>if g=f then(g,v)::r else(g,x)::putA f v r
noncomputable def keysOf(kvs:List (D×D)):List D:=kvs.map (·.1)
noncomputable def dkeys(st:Yo):D->Option (List D)
 |.loc l=>(dicAt st l).map keysOf
 |_=>Y3
noncomputable def isKey:D->Bool
 |.int _=>Y0
 |.str _=>Y0
 |_=>Y1
noncomputable def dget(kvs:List (D×D))(k:D):Option D:=(kvs.find? λp=>eqT p.1 k).map (·.2)
noncomputable def dput(kvs:List (D×D))(k v:D):List (D×D):=if kvs.any λp=>eqT p.1 k then kvs.map (λp=>if eqT p.1 k then(p.1,v) else p) else kvs++[(k,v)]
noncomputable def pairUp:List D->Option (List (D×D))
 |[]=>Y2 []
 |k::v::r=>if isKey k then(pairUp r).map ((k,v)::·) else Y3
 |_=>Y3
noncomputable def dall(kvs:List (D×D)):List (D×D):=kvs.foldl (λacc p=>dput acc p.1 p.2) []
noncomputable def alloc(st:Yo)(c:Yc):D×Yo:=(.loc st.length,st++[c])
noncomputable def binop(st:Yo):Zp->D->D->Option (D×Yo)
 |.Add,.int i,.int j=>Y2 (.int (i+j),st)
 |.Add,.tup a,.tup b=>if a.isEmpty||decide (lim<a.length+b.length) then Y3 else Y2 (.tup (a++b),st)
 |.Add,a,b=>(seqAt st a).bind λx=>(seqAt st b).bind λy=>if lim<x.length+y.length then Y3 else Y2 (alloc st (.lst Y0 (x++y)))
 |.Sub,.int i,.int j=>Y2 (.int (i - j),st)
 |.Mult,.int i,.int j=>if mulOk i j then Y2 (.int (i*j),st) else Y3
 |.Mult,.tup a,.int k=>if decide (k < -(2 ^ 62))||decide (2 ^ 62<=k)||decide (lim<a.length*k.toNat) then Y3 else Y2 (.tup (List.replicate k.toNat a).flatten,st)
 |.FloorDiv,.int i,.int j=>if 0<j/\j<2 ^ 64 then Y2 (.int (i / j),st) else Y3
 |.Mod,.int i,.int j=>if 0<j then Y2 (.int (i % j),st) else Y3
 |.Pow,.int i,.int j=>if 0<=j/\j<=1000/\i.natAbs<2 ^ 64 then Y2 (.int (i ^ j.toNat),st) else Y3
 |_,_,_=>Y3
noncomputable def addK(S:List (List Int))(k:List Int):List (List Int):=if k∈S then S else S++[k]
noncomputable def distinct(ks:List (List Int)):List (List Int):=ks.foldl addK []
noncomputable def keyD:D->Option (List Int)
 |.tup ds=>ds.mapM λd=>match d with|.int i=>Y2 i|_=>Y3
 |_=>Y3
noncomputable def qvw:D->Option D
 |.tup ds=>(ds.mapM keyD).bind λks=>if ds.length<=16 then Y2 (.int (distinct ks).length) else Y3
 |_=>Y3
noncomputable def ixN(n:Nat)(i:Int):Option Nat:=if 0<=i then(if i<n then Y2 i.toNat else Y3) else if -(n:Int)<=i then Y2 (i+n).toNat else Y3
noncomputable def atI{α:Type}(xs:List α)(i:Int):Option α:=(ixN xs.length i).bind λj=>xs[j]?
noncomputable def idxD(st:Yo):D->D->Option D
 |.tup ds,.int i=>atI ds i
 |d,.int i=>(seqAt st d).bind λds=>atI ds i
 |_,_=>Y3
noncomputable def cutIx(n d:Nat):Option Int->Nat
 |none=>d
 |some v=>if v<0 then(v+(n:Int)).toNat else min v.toNat n
noncomputable def cut{α:Type}(xs:List α)(lo hi:Option Int):List α:=(xs.drop (cutIx xs.length 0 lo)).take (cutIx xs.length xs.length hi - cutIx xs.length 0 lo)
noncomputable def sliD(st:Yo):D->Option Int->Option Int->Option (D×Yo)
 |.tup ds,lo,hi=>Y2 (.tup (cut ds lo hi),st)
 |d,lo,hi=>(seqAt st d).map λds=>alloc st (.lst Y0 (cut ds lo hi))
noncomputable def inD(st:Yo)(x:D):D->Option Bool
 |.tup ds=>if flat 9 x&&flats 9 ds then Y2 (ds.any λy=>eqT y x) else Y3
 |d=>(seqAt st d).bind λds=>if flat 9 x&&flats 9 ds then Y2 (ds.any λy=>eqT y x) else Y3
noncomputable def isNon:D->Bool
 |.non=>Y0
 |_=>Y1
noncomputable def eqD(_:Yo)(x y:D):Option Bool:=if flat 9 x&&(flat 9 y||isNon y) then Y2 (eqT x y) else Y3
noncomputable def neD(_:Yo):D->D->Option Bool
 |.int i,.int j=>Y2 (!(i==j))
 |.str i,.str j=>Y2 (!(i==j))
 |_,_=>Y3
noncomputable def cmpD(st:Yo):CmpOp->D->D->Option Bool
 |.Lt,.int i,.int j=>Y2 (decide (i<j))
 |.LtE,.int i,.int j=>Y2 (decide (i<=j))
 |.Gt,.int i,.int j=>Y2 (decide (j<i))
 |.GtE,.int i,.int j=>Y2 (decide (j<=i))
 |.Eq,x,y=>eqD st x y
 |.NotEq,x,y=>neD st x y
 |.Is,x,.non=>Y2 (isNon x)
 |.IsNot,x,.non=>Y2 (!isNon x)
 |.In,x,y=>inD st x y
 |.NotIn,x,y=>(inD st x y).map (!·)
 |_,_,_=>Y3
noncomputable def tyName(st:Yo):D->Option Ty
 |.non=>Y2 .non
 |.bl _=>Y2 .bl
 |.int _=>Y2 .int
 |.str _=>Y2 .str
 |.tup _=>Y2 .tup
 |d=>(seqAt st d).map λ_=>.lst
noncomputable def tyIs(t n:Ty):Bool:=t==n||(t==.int&&n==.bl)
noncomputable def truth(st:Yo):D->Option Bool
 |.non=>Y2 Y1
 |.bl b=>Y2 b
 |.int i=>Y2 (i != 0)
 |.tup ds=>Y2 (!ds.isEmpty)
 |d=>(seqAt st d).map λds=>!ds.isEmpty
noncomputable def insInt(x:Int):List Int->List Int
 |[]=>[x]
 |y::r=>if x<=y then x::y::r else y::insInt x r
noncomputable def sortInt:List Int->List Int
 |[]=>[]
 |x::r=>insInt x (sortInt r)
noncomputable def asInts:List D->Option (List Int)
 |[]=>Y2 []
 |.int i::r=>(asInts r).map (i::·)
 |_=>Y3
noncomputable def asBools:List D->Option (List Bool)
 |[]=>Y2 []
 |.bl i::r=>(asBools r).map (i::·)
 |_=>Y3
noncomputable def bLen(st:Yo):List D->Option (D×Yo)
 |[.tup ds]=>Y2 (.int ds.length,st)
 |[d]=>(seqAt st d).map λds=>(.int ds.length,st)
 |_=>Y3
noncomputable def bMin(st:Yo):List D->Option (D×Yo)
 |[.int i,.int j]=>Y2 (.int (if j<i then j else i),st)
 |_=>Y3
noncomputable def bTuple(st:Yo):List D->Option (D×Yo)
 |[.tup ds]=>Y2 (.tup ds,st)
 |[d]=>(seqAt st d).map λds=>(.tup ds,st)
 |_=>Y3
noncomputable def bList(st:Yo):List D->Option (D×Yo)
 |[.tup ds]=>Y2 (alloc st (.lst Y0 ds))
 |[d]=>((seqAt st d).or (dkeys st d)).map λds=>alloc st (.lst Y0 ds)
 |_=>Y3
noncomputable def bAll(st:Yo):List D->Option (D×Yo)
 |[d]=>(seqAt st d).bind λds=>(asBools ds).map λbs=>(.bl (bs.all id),st)
 |_=>Y3
noncomputable def bAny(st:Yo):List D->Option (D×Yo)
 |[d]=>(seqAt st d).bind λds=>(asBools ds).map λbs=>(.bl (bs.any id),st)
 |_=>Y3
noncomputable def sumOk(ns:List Int):Bool:=decide (ns.length<=1000000)&&ns.all λn=>decide (-(2 ^ 40)<=n)&&decide (n<=2 ^ 40)
noncomputable def bSum(st:Yo):List D->Option (D×Yo)
 |[d]=>(seqAt st d).bind λds=>(asInts ds).bind λns=>if sumOk ns then Y2 (.int ns.sum,st) else Y3
 |_=>Y3
noncomputable def bSorted(st:Yo):List D->Option (D×Yo)
 |[d]=>((seqAt st d).or (dkeys st d)).bind λds=>(if 64<=ds.length then Y3 else asInts ds).map λns=>alloc st (.lst Y0 ((sortInt ns).map .int))
 |_=>Y3
noncomputable def bfun(st:Yo):B->List D->Option (D×Yo)
 |.len=>bLen st
 |.min=>bMin st
 |.tuple=>bTuple st
 |.list=>bList st
 |.all=>bAll st
 |.sorted=>bSorted st
 |.any=>bAny st
 |.sum=>bSum st
noncomputable def mAppend(st:Yo):D->List D->Option (D×Yo)
 |.loc l,[d]=>(wlistAt st l).bind λds=>if ds.length<lim then Y2 (.non,st.set l (.lst Y0 (ds++[d]))) else Y3
 |_,_=>Y3
noncomputable def mExtend(st:Yo):D->List D->Option (D×Yo)
 |.loc l,[d]=>(wlistAt st l).bind λds=>(match d with|.tup es=>Y2 es|d=>seqAt st d).bind λes=>if ds.length+es.length<=lim then Y2 (.non,st.set l (.lst Y0 (ds++es))) else Y3
 |_,_=>Y3
noncomputable def mIndex(st:Yo):D->List D->Option (D×Yo)
 |d,[x]=>(seqAt st d).bind λds=>if flat 9 x&&flats 9 ds then(ds.findIdx? λy=>eqT y x).map λ(j:Nat)=>(.int (j:Int),st) else Y3
 |_,_=>Y3
noncomputable def mInsert(st:Yo):D->List D->Option (D×Yo)
 |.loc l,[.int i,d]=>(wlistAt st l).bind λds=>if 0<=i/\i<=ds.length/\ds.length<lim then Y2 (.non,st.set l (.lst Y0 (ds.take i.toNat++d::ds.drop i.toNat))) else Y3
 |_,_=>Y3
noncomputable def mfun(st:Yo):Mt->D->List D->Option (D×Yo)
 |.append=>mAppend st
 |.extend=>mExtend st
 |.index=>mIndex st
 |.insert=>mInsert st
noncomputable def Mt.ofList(_:Mt):Bool:=Y0
noncomputable def mty(st:Yo)(m:Mt):D->Bool
 |.str _=>!m.ofList
 |d=>m.ofList&&(seqAt st d).isSome
inductive Out where
 |nx (τ:Sl)
 |rt (d:D)
 |bk (τ:Sl)
 |ct (τ:Sl)
structure R where
 ev:Sl->Yo->E->Option (D×Yo)
 tst:Sl->Yo->E->Option (Bool×Yo)
 ex:Sl->Yo->List S->Option (Out×Yo)
 call:Nat->List D->Yo->Option (D×Yo)
noncomputable def evs(f:Yo->E->Option (D×Yo)):List E->Yo->Option (List D×Yo)
 |[],st=>Y2 ([],st)
 |e::es,st=>(f st e).bind λp=>(evs f es p.2).bind λq=>Y2 (p.1::q.1,q.2)
noncomputable def setIs:List Nat->List D->Sl->Option Sl
 |[],[],τ=>Y2 τ
 |i::is,d::ds,τ=>if i<τ.length then setIs is ds (τ.set i (Y2 d)) else Y3
 |_,_,_=>Y3
noncomputable def setT:T->D->Sl->Option Sl
 |.var i,d,τ=>if i<τ.length then Y2 (τ.set i (Y2 d)) else Y3
 |.tup is,.tup ds,τ=>setIs is ds τ
 |_,_,_=>Y3
inductive Src where
 |tup (ds:List D)
 |lst (d:D)
 |rng (lo:Int) (n:Nat)
 |zip (a b:D)
 |enu (a:D)
 |rev (ds:List D)
 |tks (l:Nat)
noncomputable def rowAt(st:Yo):D->Option (List D)
 |.tup ds=>Y2 ds
 |d=>seqAt st d
noncomputable def pairAt(xs ys:List D)(i:Nat):Option D:=match xs[i]?,ys[i]? with
 |some x,Y2 y=>Y2 (.tup [x,y])
 |_,_=>Y3
noncomputable def Src.at(st:Yo)(i:Nat):Src->Option (Option D)
 |.tup ds=>Y2 ds[i]?
 |.lst d=>(seqAt st d).map λds=>ds[i]?
 |.rng lo n=>Y2 (if i<n then Y2 (.int (lo+i)) else Y3)
 |.zip a b=>(rowAt st a).bind λxs=>(rowAt st b).map λys=>pairAt xs ys i
 |.enu a=>(rowAt st a).map λxs=>xs[i]?.map λx=>.tup [.int i,x]
 |.rev ds=>Y2 (if i<ds.length then ds[ds.length - 1 - i]? else Y3)
 |.tks l=>match st[l]? with
  |some (.tdc Y1 kvs)=>Y2 (kvs[i]?.map λp=>.fup p.1)
  |_=>Y3
noncomputable def Src.size(st:Yo):Src->Nat
 |.tup ds=>ds.length
 |.lst d=>((seqAt st d).getD []).length
 |.rng _ n=>n
 |.zip a b=>min ((rowAt st a).getD []).length ((rowAt st b).getD []).length
 |.enu a=>((rowAt st a).getD []).length
 |.rev ds=>ds.length
 |.tks l=>((tdcAt st l).getD []).length
noncomputable def big(i:Int):Bool:=decide (i < -(2 ^ 62))||decide (2 ^ 62<=i)
noncomputable def src(r:R)(τ:Sl)(st:Yo):E->Option (Src×Yo)
 |.rng1 a=>(r.ev τ st a).bind λp=>match p.1 with
  |.int n=>if big n then Y3 else Y2 (.rng 0 n.toNat,p.2)
  |_=>Y3
 |.rng2 a b=>(r.ev τ st a).bind λp=>(r.ev τ p.2 b).bind λq=>match p.1,q.1 with
  |.int i,.int j=>if big i||big j then Y3 else Y2 (.rng i (j - i).toNat,q.2)
  |_,_=>Y3
 |.zip a b=>(r.ev τ st a).bind λp=>(r.ev τ p.2 b).bind λq=>(rowAt q.2 p.1).bind λ_=>(rowAt q.2 q.1).map λ_=>(.zip p.1 q.1,q.2)
 |.enu a=>(r.ev τ st a).bind λp=>(rowAt p.2 p.1).map λ_=>(.enu p.1,p.2)
 |.rev a=>(r.ev τ st a).bind λp=>match p.1 with
  |.tup ds=>Y2 (.rev ds,p.2)
  |_=>Y3
 |e=>(r.ev τ st e).bind λp=>match p.1 with
  |.tup ds=>Y2 (.tup ds,p.2)
  |d=>(seqAt p.2 d).map λ_=>(.lst d,p.2)
noncomputable def loop(it:Src)(f:Sl->Yo->D->Option (Out×Yo)):Nat->Nat->Sl->Yo->Option (Out×Yo)
 |0,_,_,_=>Y3
 |k+1,i,τ,st=>(it.at st i).bind λo=>match o with
  |none=>Y2 (.nx τ,st)
  |some d=>(f τ st d).bind λp=>match p.1 with
   |.nx τ'=>loop it f k (i+1) τ' p.2
   |.ct τ'=>loop it f k (i+1) τ' p.2
   |.bk τ'=>Y2 (.nx τ',p.2)
   |.rt v=>Y2 (.rt v,p.2)
noncomputable def turnC(r:R)(t:T)(test:Option E)(elt:E)(τ:Sl)(st:Yo)(d:D):Option (Option D×Sl×Yo):=
 (setT t d τ).bind λτ'=>match test with
  |none=>(r.ev τ' st elt).map λp=>(Y2 p.1,τ',p.2)
  |some c=>(r.tst τ' st c).bind λb=>if b.1 then(r.ev τ' b.2 elt).map λp=>(Y2 p.1,τ',p.2) else Y2 (Y3,τ',b.2)
noncomputable def loopC(it:Src)(f:Sl->Yo->D->Option (Option D×Sl×Yo)):Nat->Nat->List D->Sl->Yo->Option (List D×Yo)
 |0,_,_,_,_=>Y3
 |k+1,i,acc,τ,st=>(it.at st i).bind λo=>match o with
  |none=>if lim<acc.length then Y3 else Y2 (acc,st)
  |some d=>if lim<=acc.length then Y3 else(f τ st d).bind λp=>loopC it f k (i+1) (match p.1 with|some x=>acc++[x]|none=>acc) p.2.1 p.2.2
noncomputable def inner(src:List (Option Nat))(τ:Sl):Sl:=src.map λo=>o.bind λi=>(τ[i]?).bind id
noncomputable def part(r:R)(τ:Sl)(st:Yo):Option E->Option (Option Int×Yo)
 |none=>Y2 (Y3,st)
 |some e=>(r.ev τ st e).bind λp=>match p.1 with
  |.int i=>Y2 (Y2 i,p.2)
  |_=>Y3
noncomputable def dinR(r:R)(τ:Sl)(st:Yo)(neg:Bool)(a b:E):Option (D×Yo):=
 (r.ev τ st a).bind λp=>(r.ev τ p.2 b).bind λq=>match q.1 with
  |.loc l=>(dicAt q.2 l).bind λkvs=>if isKey p.1 then Y2 (.bl ((dget kvs p.1).isSome != neg),q.2) else Y3
  |_=>Y3
noncomputable def tdiR(r:R)(τ:Sl)(st:Yo)(neg:Bool)(a b:E):Option (D×Yo):=
 (r.ev τ st a).bind λp=>(r.ev τ p.2 b).bind λq=>match p.1,q.1 with
  |.fup k,.loc l=>(tdcAt q.2 l).map λkvs=>(.bl ((tget kvs k).isSome != neg),q.2)
  |_,_=>Y3
noncomputable def ginR(r:R)(τ:Sl)(st:Yo)(neg:Bool)(ks:List Yb)(b:E):Option (D×Yo):=
 (r.ev τ st b).bind λp=>match p.1 with
  |.str z=>Y2 (.bl (ks.contains z != neg),p.2)
  |_=>Y3
noncomputable def stepEv(r:R)(τ:Sl)(st:Yo):E->Option (D×Yo)
 |.var i=>match τ[i]? with
  |some (Y2 d)=>Y2 (d,st)
  |_=>Y3
 |.lit d=>Y2 (d,st)
 |.glo _ d=>Y2 (d,st)
 |.bin op a b=>(r.ev τ st a).bind λp=>(r.ev τ p.2 b).bind λq=>binop q.2 op p.1 q.1
 |.neg a=>(r.ev τ st a).bind λp=>match p.1 with
  |.int i=>Y2 (.int (-i),p.2)
  |_=>Y3
 |.not a=>(r.ev τ st a).bind λp=>match p.1 with
  |.bl b=>Y2 (.bl (!b),p.2)
  |_=>Y3
 |.cmp op a b=>(r.ev τ st a).bind λp=>(r.ev τ p.2 b).bind λq=>(cmpD q.2 op p.1 q.1).map λk=>(.bl k,q.2)
 |.cmp2 op op' a b c=>(r.ev τ st a).bind λp=>(r.ev τ p.2 b).bind λq=>(cmpD q.2 op p.1 q.1).bind λk=>
   if k then(r.ev τ q.2 c).bind λu=>(cmpD u.2 op' q.1 u.1).map λk'=>(.bl k',u.2) else Y2 (.bl Y1,q.2)
 |.and a b=>(r.ev τ st a).bind λp=>match p.1 with
  |.bl Y0=>r.ev τ p.2 b
  |.bl Y1=>Y2 (.bl Y1,p.2)
  |_=>Y3
 |.or a b=>(r.ev τ st a).bind λp=>match p.1 with
  |.bl Y1=>r.ev τ p.2 b
  |.bl Y0=>Y2 (.bl Y0,p.2)
  |_=>Y3
 |.ite c a b=>(r.tst τ st c).bind λp=>if p.1 then r.ev τ p.2 a else r.ev τ p.2 b
 |.tup es=>(evs (r.ev τ) es st).bind λp=>if lim<p.1.length then Y3 else Y2 (.tup p.1,p.2)
 |.lst es=>(evs (r.ev τ) es st).bind λp=>if lim<p.1.length then Y3 else Y2 (alloc p.2 (.lst Y0 p.1))
 |.idx a b=>(r.ev τ st a).bind λp=>(r.ev τ p.2 b).bind λq=>(idxD q.2 p.1 q.1).map λd=>(d,q.2)
 |.sli a lo hi=>(r.ev τ st a).bind λp=>(part r τ p.2 lo).bind λl=>(part r τ l.2 hi).bind λh=>sliD h.2 p.1 l.1 h.1
 |.call f es=>(evs (r.ev τ) es st).bind λp=>r.call f p.1 p.2
 |.bcall f es=>(evs (r.ev τ) es st).bind λp=>bfun p.2 f p.1
 |.isi a ts _=>(r.ev τ st a).bind λp=>(tyName p.2 p.1).map λn=>(.bl (ts.any λt=>tyIs t n),p.2)
 |.meth a m es=>(r.ev τ st a).bind λp=>if mty p.2 m p.1 then(evs (r.ev τ) es p.2).bind λq=>mfun q.2 m p.1 q.1 else Y3
 |.gc a=>(r.ev τ st a).map λp=>gcD st p
 |.rng1 _=>Y3
 |.rng2 _ _=>Y3
 |.zip _ _=>Y3
 |.enu _=>Y3
 |.rev _=>Y3
 |.dic es=>(evs (r.ev τ) es (st++[.dic Y0 []])).bind λp=>match wdicAt p.2 st.length with
  |some []=>(pairUp p.1).bind λkvs=>if kvs.length<=15 then Y2 (.loc st.length,p.2.set st.length (.dic Y0 (dall kvs))) else Y3
  |_=>Y3
 |.didx a b=>(r.ev τ st a).bind λp=>(r.ev τ p.2 b).bind λq=>match p.1 with
  |.loc l=>(dicAt q.2 l).bind λkvs=>if isKey q.1 then(dget kvs q.1).map λd=>(d,q.2) else Y3
  |_=>Y3
 |.din neg a b=>dinR r τ st neg a b
 |.dgt a b=>(r.ev τ st a).bind λp=>match p.1 with
  |.loc l=>(dicAt p.2 l).bind λ_=>(r.ev τ p.2 b).bind λq=>(dicAt q.2 l).bind λkvs=>if isKey q.1 then Y2 ((dget kvs q.1).getD .non,q.2) else Y3
  |_=>Y3
 |.gidx _ ks ds b=>(r.ev τ st b).bind λp=>match p.1 with
  |.str z=>((ks.zip ds).find? λq=>q.1==z).map λq=>(q.2,p.2)
  |_=>Y3
 |.gin neg _ ks b=>ginR r τ st neg ks b
 |.lenset a=>(r.ev τ st a).bind λp=>(qvw p.1).map λd=>(d,p.2)
 |.comp t it test elt sr=>(src r τ st it).bind λp=>
   (loopC p.1 (turnC r t test elt) (p.1.size p.2+1) 0 [] (inner sr τ) p.2).map λq=>alloc q.2 (.lst Y0 q.1)
 |.ttup es=>(evs (r.ev τ) es st).bind λp=>(asInts p.1).bind λks=>if lim<ks.length then Y3 else Y2 (.fup ks,p.2)
 |.tsli a lo hi=>(r.ev τ st a).bind λp=>(part r τ p.2 lo).bind λl=>(part r τ l.2 hi).bind λh=>match p.1 with
  |.tup ds=>(asInts (cut ds l.1 h.1)).bind λks=>if ks.length<ds.length then Y2 (.fup ks,h.2) else Y3
  |_=>Y3
 |.unt a=>(r.ev τ st a).bind λp=>match p.1 with
  |.fup ks=>Y2 (.tup (ks.map .int),p.2)
  |_=>Y3
 |.tdn=>Y2 (alloc st (.tdc Y0 []))
 |.tdx a b=>(r.ev τ st a).bind λp=>(r.ev τ p.2 b).bind λq=>match p.1,q.1 with
  |.loc l,.fup k=>(tdcAt q.2 l).bind λkvs=>(tget kvs k).map λd=>(d,q.2)
  |_,_=>Y3
 |.tdi neg a b=>tdiR r τ st neg a b
 |.tdg a b c=>(r.ev τ st a).bind λp=>match p.1 with
  |.loc l=>(tdcAt p.2 l).bind λ_=>(r.ev τ p.2 b).bind λq=>(r.ev τ q.2 c).bind λu=>match q.1 with
   |.fup k=>(tdcAt u.2 l).map λkvs=>((tget kvs k).getD u.1,u.2)
   |_=>Y3
  |_=>Y3
 |.cmpd t a test elt sr=>(r.ev τ st a).bind λp=>match p.1 with
  |.loc l=>(wtdcAt p.2 l).bind λkvs=>(loopC (.tks l) (turnC r t test elt) (kvs.length+1) 0 [] (inner sr τ) (p.2.set l (.tdc Y1 kvs))).bind λq=>match q.2[l]? with
   |some (.tdc Y1 kvs')=>Y2 (alloc (q.2.set l (.tdc Y0 kvs')) (.lst Y0 q.1))
   |_=>Y3
  |_=>Y3
 |.attr C a f=>(r.ev τ st a).bind λp=>(objAt p.2 C p.1).bind λfs=>(fs.lookup f).map λd=>(d,p.2)
 |.mcall C f m a es=>(r.ev τ st a).bind λp=>(objAt p.2 C p.1).bind λfs=>if (fs.lookup m).isSome then Y3 else(evs (r.ev τ) es p.2).bind λq=>r.call f (p.1::q.1) q.2
 |.new C f es=>(evs (r.ev τ) es st).bind λp=>(r.call f (.loc p.2.length::p.1) (p.2++[.obj C []])).bind λq=>if isNon q.1 then Y2 (.loc p.2.length,q.2) else Y3
noncomputable def stepTst(r:R)(τ:Sl)(st:Yo):E->Option (Bool×Yo)
 |.not a=>(r.tst τ st a).map λp=>(!p.1,p.2)
 |.and a b=>(r.tst τ st a).bind λp=>if p.1 then r.tst τ p.2 b else Y2 (Y1,p.2)
 |.or a b=>(r.tst τ st a).bind λp=>if p.1 then Y2 (Y0,p.2) else r.tst τ p.2 b
 |.ite _ _ _=>Y3
 |.din neg a b=>(dinR r τ st neg a b).bind λp=>(truth p.2 p.1).map λk=>(k,p.2)
 |.tdi neg a b=>(tdiR r τ st neg a b).bind λp=>(truth p.2 p.1).map λk=>(k,p.2)
 |.gin neg _ ks b=>(ginR r τ st neg ks b).bind λp=>(truth p.2 p.1).map λk=>(k,p.2)
 |.cmp op a b=>(r.ev τ st a).bind λp=>(r.ev τ p.2 b).bind λq=>(cmpD q.2 op p.1 q.1).map λk=>(k,q.2)
 |.cmp2 op op' a b c=>(r.ev τ st a).bind λp=>(r.ev τ p.2 b).bind λq=>(cmpD q.2 op p.1 q.1).bind λk=>
   if k then(r.ev τ q.2 c).bind λu=>(cmpD u.2 op' q.1 u.1).map λk'=>(k',u.2) else Y2 (Y1,q.2)
 |e=>(r.ev τ st e).bind λp=>(truth p.2 p.1).map λk=>(k,p.2)
noncomputable def stepEx(r:R)(τ:Sl)(st:Yo):S->Option (Out×Yo)
 |.set t e=>(r.ev τ st e).bind λp=>(setT t p.1 τ).map λτ'=>(.nx τ',p.2)
 |.dset a i e=>(r.ev τ st e).bind λp=>(r.ev τ p.2 a).bind λq=>(r.ev τ q.2 i).bind λu=>match q.1 with
  |.loc l=>(wdicAt u.2 l).bind λkvs=>if isKey u.1&&decide (kvs.length<lim) then Y2 (.nx τ,u.2.set l (.dic Y0 (dput kvs u.1 p.1))) else Y3
  |_=>Y3
 |.tds a i e=>(r.ev τ st e).bind λp=>(r.ev τ p.2 a).bind λq=>(r.ev τ q.2 i).bind λu=>match q.1,u.1 with
  |.loc l,.fup k=>(wtdcAt u.2 l).bind λkvs=>if kvs.length<lim then Y2 (.nx τ,u.2.set l (.tdc Y0 (tput kvs k p.1))) else Y3
  |_,_=>Y3
 |.setA C a f e=>(r.ev τ st e).bind λp=>(r.ev τ p.2 a).bind λq=>(objAt q.2 C q.1).bind λfs=>match q.1 with
  |.loc l=>if fs.length<900 then Y2 (.nx τ,q.2.set l (.obj C (putA f p.1 fs))) else Y3
  |_=>Y3
 |.ford t a body=>(r.ev τ st a).bind λp=>match p.1 with
  |.loc l=>(wdicAt p.2 l).bind λkvs=>(loop (.tup (keysOf kvs)) (λτ st d=>(setT t d τ).bind λτ'=>r.ex τ' st body) (kvs.length+1) 0 τ (p.2.set l (.dic Y1 kvs))).bind λq=>
   match q.2[l]? with
   |some (.dic Y1 kvs')=>Y2 (q.1,q.2.set l (.dic Y0 kvs'))
   |_=>Y3
  |_=>Y3
 |.bad=>Y3
 |.expr e=>(r.ev τ st e).map λp=>(.nx τ,p.2)
 |.ret e=>(r.ev τ st e).map λp=>(.rt p.1,p.2)
 |.ite c a b=>(r.tst τ st c).bind λp=>if p.1 then r.ex τ p.2 a else r.ex τ p.2 b
 |.forr t it body=>(src r τ st it).bind λp=>
   loop p.1 (λτ st d=>(setT t d τ).bind λτ'=>r.ex τ' st body) (p.1.size p.2+1) 0 τ p.2
noncomputable def exs(f:Sl->Yo->S->Option (Out×Yo)):List S->Sl->Yo->Option (Out×Yo)
 |[],τ,st=>Y2 (.nx τ,st)
 |s::ss,τ,st=>(f τ st s).bind λp=>match p.1 with
  |.nx τ'=>exs f ss τ' p.2
  |o=>Y2 (o,p.2)
noncomputable def stepCall(fns:List Fn)(r:R)(f:Nat)(ds:List D)(st:Yo):Option (D×Yo):=
 match fns[f]? with
 |some F=>if ds.length=F.np then(r.ex (ds.map Y2++List.replicate (F.nl - ds.length) Y3) st F.body).bind λp=>match p.1 with
   |.rt d=>Y2 (d,p.2)
   |.nx _=>Y2 (.non,p.2)
   |_=>Y3
  else Y3
 |none=>Y3
noncomputable def step(c:Nat->List D->Yo->Option (D×Yo))(r:R):R:=⟨stepEv r,stepTst r,λτ st ss=>exs (stepEx r) ss τ st,c⟩
noncomputable def runK(c:Nat->List D->Yo->Option (D×Yo)):Nat->R
 |0=>⟨λ_ _ _=>Y3,λ_ _ _=>Y3,λ_ _ _=>Y3,c⟩
 |k+1=>step c (runK c k)
open Classical in
noncomputable def lim1{α:Type}(f:Nat->Option α):Option α:=if h:∃x,∃n,f n=Y2 x then Y2 h.choose else Y3
noncomputable def RL(c:Nat->List D->Yo->Option (D×Yo)):R:=⟨λτ st e=>lim1 λn=>(runK c n).ev τ st e,λτ st e=>lim1 λn=>(runK c n).tst τ st e,λτ st e=>lim1 λn=>(runK c n).ex τ st e,c⟩
noncomputable def callD(fns:List Fn):Nat->Nat->List D->Yo->Option (D×Yo)
 |0=>λ_ _ _=>Y3
 |d+1=>stepCall fns (RL (callD fns d))
noncomputable abbrev rn(fns:List Fn)(d n:Nat):R:=runK (callD fns d) n
noncomputable abbrev Lv(fns:List Fn)(d:Nat):R:=RL (callD fns d)
def lim1_is(h:lim1 f=Y2 x):∃n,f n=Y2 x:=by
 unfold lim1 at h
 split at h
 ·rename_i q;obtain⟨n,hn⟩:=q.choose_spec;exact⟨n,by rw[hn]; exact h⟩
 ·cases h
def runK_call(c:Nat->List D->Yo->Option (D×Yo)):∀n,(runK c n).call=c
 |0=>rfl
 |_+1=>rfl
end M
end
section
namespace M
open PySem (Str)
def Co{α:Type}(a:Option α)(b:Nat->Option α):Prop:=∀x,a=Y2 x->∃n,∀m,n<=m->b m=Y2 x
def Co.refl(a:Option α):Co a λ_=>a:=λ_ h=>⟨0,λ_ _=>h⟩
theorem Co.none(b:Nat->Option α):Co Option.none b:=λ_ h=>by cases h
theorem Co.bind{f:Option α}{z:Nat->Option α}{g:α->Option q}{g':Nat->α->Option q}(L:Co f z)(J:∀a,Co (g a) λm=>g' m a):Co (f.bind g) λm=>(z m).bind (g' m):=λx h=>by
 cases e:f with
 |none=>rw[e]at h; cases h
 |some a=>
  rw[e]at h;obtain⟨n,hn⟩:=L a e;obtain⟨k,F⟩:=J a x h;refine⟨max n k,λm O=>?_⟩;simp only;rw[hn m (by lia)];exact F m (by lia)
theorem Co.map{f:Option α}{q:Nat->Option α}(g:α->z)(J:Co f q):Co (f.map g) λm=>(q m).map g:=λx h=>by
 cases e:f with
 |none=>rw[e]at h; cases h
 |some a=>
  rw[e]at h;obtain⟨n,hn⟩:=J a e;refine⟨n,λm F=>?_⟩;simp only;rw[hn m F];exact h
def Co.ite[Decidable c]{a b:Option α}{z q:Nat->Option α}(J:Co a z)(F:Co b q):Co (if c then a else b) λm=>if c then z m else q m:=by
 by_cases h:c
 ·simp only[Xq h]; exact J
 ·simp only[Z9 h]; exact F
structure Le (r:R) (r':Nat->R):Prop where
 ev:∀τ st e,Co (r.ev τ st e) λm=>(r' m).ev τ st e
 tst:∀τ st e,Co (r.tst τ st e) λm=>(r' m).tst τ st e
 ex:∀τ st e,Co (r.ex τ st e) λm=>(r' m).ex τ st e
 call:∀f ds st,Co (r.call f ds st) λm=>(r' m).call f ds st
theorem qz2{z:Nat->Yo->E->Option (D×Yo)}(h:∀st e,Co (f st e) λm=>z m st e):∀(es:List E) (st:Yo),Co (evs f es st) λm=>evs (z m) es st
 |[],st=>.refl _
 |e::es,st=>(h st e).bind λp=>(qz2 h es p.2).bind λq=>.refl _
theorem qxe{z:Nat->Sl->Yo->D->Option (Out×Yo)}(h:∀τ st d,Co (f τ st d) λm=>z m τ st d):∀(k i:Nat) (τ:Sl) (st:Yo),Co (loop it f k i τ st) λm=>loop it (z m) k i τ st
 |0,_,_,_=>.refl _
 |k+1,i,τ,st=>by
  unfold loop;refine(Co.refl _).bind λo=>?_
  cases o with
  |none=>exact .refl _
  |some d=>
   refine(h τ st d).bind λp=>?_
   cases F:p.1 with
   |nx q=>exact qxe h k _ _ _
   |ct q=>exact qxe h k _ _ _
   |bk q=>exact .refl _
   |rt v=>exact .refl _
theorem qxt{z:Nat->Sl->Yo->D->Option (Option D×Sl×Yo)}(h:∀τ st d,Co (f τ st d) λm=>z m τ st d):∀(k i:Nat) (q:List D) (τ:Sl) (st:Yo),Co (loopC it f k i q τ st) λm=>loopC it (z m) k i q τ st
 |0,_,_,_,_=>.refl _
 |k+1,i,q,τ,st=>by
  unfold loopC;refine(Co.refl _).bind λo=>?_
  cases o with
  |none=>exact .refl _
  |some d=>exact Co.ite (.refl _) ((h τ st d).bind λp=>qxt h k _ _ _ _)
theorem qve{z:Nat->Sl->Yo->S->Option (Out×Yo)}(h:∀τ st s,Co (f τ st s) λm=>z m τ st s):∀(q:List S) (τ:Sl) (st:Yo),Co (exs f q τ st) λm=>exs (z m) q τ st
 |[],_,_=>.refl _
 |s::q,τ,st=>by
  unfold exs;refine(h τ st s).bind λp=>?_
  cases J:p.1 with
  |nx F=>exact qve h q _ _
  |_=>exact .refl _
section
variable (h:Le r r')
include h
theorem qaz(τ)(st)(e):Co (src r τ st e) λm=>src (r' m) τ st e:=by
 cases e with
 |rng1 a=>exact(h.ev τ st a).bind λp=>.refl _
 |rng2 a b=>exact(h.ev τ st a).bind λp=>(h.ev τ _ b).bind λq=>.refl _
 |zip a b=>exact(h.ev τ st a).bind λp=>(h.ev τ _ b).bind λq=>.refl _
 |enu a=>exact(h.ev τ st a).bind λp=>.refl _
 |rev a=>exact(h.ev τ st a).bind λp=>.refl _
 |_=>exact(h.ev τ st _).bind λp=>.refl _
theorem qxc(τ)(st)(e):Co (part r τ st e) λm=>part (r' m) τ st e:=by
 cases e with
 |none=>exact .refl _
 |some e=>exact(h.ev τ st e).bind λp=>.refl _
theorem qkc(t)(test)(elt)(τ)(st)(d):Co (turnC r t test elt τ st d) λm=>turnC (r' m) t test elt τ st d:=by
 unfold turnC;refine(Co.refl _).bind λq=>?_
 cases test with
 |none=>exact(h.ev _ _ _).map _
 |some c=>exact(h.tst _ _ _).bind λb=>Co.ite ((h.ev _ _ _).map _) (.refl _)
theorem qwn(τ)(st)(neg)(a b):Co (dinR r τ st neg a b) λm=>dinR (r' m) τ st neg a b:=(h.ev τ st a).bind λp=>(h.ev τ _ b).bind λq=>.refl _
theorem qvu(τ)(st)(neg)(a b):Co (tdiR r τ st neg a b) λm=>tdiR (r' m) τ st neg a b:=(h.ev τ st a).bind λp=>(h.ev τ _ b).bind λq=>.refl _
theorem qwf(τ)(st)(neg)(q)(b):Co (ginR r τ st neg q b) λm=>ginR (r' m) τ st neg q b:=(h.ev τ st b).bind λp=>.refl _
theorem qjf(τ)(st)(e):Co (stepEv r τ st e) λm=>stepEv (r' m) τ st e:=by
 cases e with
 |var i=>exact .refl _
 |lit d=>exact .refl _
 |glo x d=>exact .refl _
 |bin F a b=>exact(h.ev τ st a).bind λp=>(h.ev τ _ b).bind λq=>.refl _
 |neg a=>exact(h.ev τ st a).bind λp=>.refl _
 |not a=>exact(h.ev τ st a).bind λp=>.refl _
 |cmp F a b=>exact(h.ev τ st a).bind λp=>(h.ev τ _ b).bind λq=>.refl _
 |cmp2 F J a b c=>exact(h.ev τ st a).bind λp=>(h.ev τ _ b).bind λq=>(Co.refl _).bind λk=>Co.ite ((h.ev τ _ c).bind λu=>.refl _) (.refl _)
 |and a b=>
  refine(h.ev τ st a).bind λp=>?_;obtain⟨d,s⟩:=p
  cases d with
  |bl k=>cases k with
   |true=>exact h.ev τ _ b
   |false=>exact .refl _
  |_=>exact .refl _
 |or a b=>
  refine(h.ev τ st a).bind λp=>?_;obtain⟨d,s⟩:=p
  cases d with
  |bl k=>cases k with
   |false=>exact h.ev τ _ b
   |true=>exact .refl _
  |_=>exact .refl _
 |ite c a b=>exact(h.tst τ st c).bind λp=>Co.ite (h.ev τ _ a) (h.ev τ _ b)
 |tup es=>exact(qz2 (h.ev τ) es st).bind λp=>.refl _
 |lst es=>exact(qz2 (h.ev τ) es st).bind λp=>.refl _
 |idx a b=>exact(h.ev τ st a).bind λp=>(h.ev τ _ b).bind λq=>.refl _
 |sli a lo hi=>exact(h.ev τ st a).bind λp=>(qxc h τ _ lo).bind λl=>(qxc h τ _ hi).bind λu=>.refl _
 |call f es=>exact(qz2 (h.ev τ) es st).bind λp=>h.call f _ _
 |bcall f es=>exact(qz2 (h.ev τ) es st).bind λp=>.refl _
 |isi a L m=>exact(h.ev τ st a).bind λp=>.refl _
 |lenset a=>exact(h.ev τ st a).bind λp=>.refl _
 |gc a=>exact(h.ev τ st a).map _
 |meth a m es=>exact(h.ev τ st a).bind λp=>Co.ite ((qz2 (h.ev τ) es _).bind λq=>.refl _) (.refl _)
 |rng1 a=>exact .refl _
 |rng2 a b=>exact .refl _
 |zip a b=>exact .refl _
 |enu a=>exact .refl _
 |rev a=>exact .refl _
 |dic es=>exact(qz2 (h.ev τ) es _).bind λp=>.refl _
 |didx a b=>exact(h.ev τ st a).bind λp=>(h.ev τ _ b).bind λq=>.refl _
 |din neg a b=>exact qwn h τ st neg a b
 |dgt a b=>
  refine(h.ev τ st a).bind λp=>?_;obtain⟨d,s⟩:=p
  cases d with
  |loc l=>exact(Co.refl _).bind λ_=>(h.ev τ _ b).bind λq=>.refl _
  |_=>exact .refl _
 |gidx x ks ds b=>exact(h.ev τ st b).bind λp=>.refl _
 |gin neg x ks b=>exact qwf h τ st neg ks b
 |comp t it z elt sr=>exact(qaz h τ st it).bind λp=>(qxt (qkc h t z elt) _ _ _ _ _).map _
 |attr C a f=>exact(h.ev τ st a).bind λp=>.refl _
 |ttup es=>exact(qz2 (h.ev τ) es st).bind λp=>.refl _
 |tsli a lo hi=>exact(h.ev τ st a).bind λp=>(qxc h τ _ lo).bind λl=>(qxc h τ _ hi).bind λu=>.refl _
 |unt a=>exact(h.ev τ st a).bind λp=>.refl _
 |tdn=>exact .refl _
 |tdx a b=>exact(h.ev τ st a).bind λp=>(h.ev τ _ b).bind λq=>.refl _
 |tdi neg a b=>exact qvu h τ st neg a b
 |tdg a b c=>
  refine(h.ev τ st a).bind λp=>?_;obtain⟨d,s⟩:=p
  cases d with
  |loc l=>exact(Co.refl _).bind λ_=>(h.ev τ _ b).bind λq=>(h.ev τ _ c).bind λu=>.refl _
  |_=>exact .refl _
 |cmpd t a z elt sr=>
  refine(h.ev τ st a).bind λp=>?_;obtain⟨d,s⟩:=p
  cases d with
  |loc l=>exact(Co.refl _).bind λkvs=>(qxt (qkc h t z elt) _ _ _ _ _).bind λq=>.refl _
  |_=>exact .refl _
 |mcall C f m a es=>exact(h.ev τ st a).bind λp=>(Co.refl _).bind λfs=>Co.ite (.refl _) ((qz2 (h.ev τ) es _).bind λq=>h.call f _ _)
 |new C f es=>exact(qz2 (h.ev τ) es st).bind λp=>(h.call f _ _).bind λq=>.refl _
theorem qx5(τ)(st)(e):Co (stepTst r τ st e) λm=>stepTst (r' m) τ st e:=by
 cases e with
 |not a=>exact(h.tst τ st a).map _
 |and a b=>exact(h.tst τ st a).bind λp=>Co.ite (h.tst τ _ b) (.refl _)
 |or a b=>exact(h.tst τ st a).bind λp=>Co.ite (.refl _) (h.tst τ _ b)
 |ite _ _ _=>exact .refl _
 |din neg a b=>exact(qwn h τ st neg a b).bind λp=>.refl _
 |gin neg x ks b=>exact(qwf h τ st neg ks b).bind λp=>.refl _
 |tdi neg a b=>exact(qvu h τ st neg a b).bind λp=>.refl _
 |cmp F a b=>exact(h.ev τ st a).bind λp=>(h.ev τ _ b).bind λq=>.refl _
 |cmp2 F z a b c=>exact(h.ev τ st a).bind λp=>(h.ev τ _ b).bind λq=>(Co.refl _).bind λk=>Co.ite ((h.ev τ _ c).bind λu=>.refl _) (.refl _)
 |_=>exact(h.ev τ st _).bind λp=>.refl _
theorem qje(τ)(st)(s):Co (stepEx r τ st s) λm=>stepEx (r' m) τ st s:=by
 cases s with
 |set t e=>exact(h.ev τ st e).bind λp=>.refl _
 |dset a i e=>exact(h.ev τ st e).bind λp=>(h.ev τ _ a).bind λq=>(h.ev τ _ i).bind λu=>.refl _
 |tds a i e=>exact(h.ev τ st e).bind λp=>(h.ev τ _ a).bind λq=>(h.ev τ _ i).bind λu=>.refl _
 |bad=>exact .refl _
 |setA C a f e=>exact(h.ev τ st e).bind λp=>(h.ev τ _ a).bind λq=>.refl _
 |ford t a body=>
  refine(h.ev τ st a).bind λp=>?_;obtain⟨d,s⟩:=p
  cases d with
  |loc l=>exact(Co.refl _).bind λkvs=>(qxe (λτ st d=>(Co.refl _).bind λz=>h.ex z st body) _ _ _ _).bind λq=>.refl _
  |_=>exact .refl _
 |expr e=>exact(h.ev τ st e).map _
 |ret e=>exact(h.ev τ st e).map _
 |ite c a b=>exact(h.tst τ st c).bind λp=>Co.ite (h.ex τ _ a) (h.ex τ _ b)
 |forr t it body=>exact(qaz h τ st it).bind λp=>qxe (λτ st d=>(Co.refl _).bind λz=>h.ex z st body) _ _ _ _
theorem qcm(c:Nat->List D->Yo->Option (D×Yo)):Le (step c r) λm=>step c (r' m):=
 ⟨qjf h,qx5 h,λτ st q=>qve (qje h) q τ st,λf ds st=>.refl _⟩
end
theorem qjj(c:Nat->List D->Yo->Option (D×Yo)):∀n,Le (runK c n) λ_=>runK c (n+1)
 |0=>⟨λ_ _ _=>.none _,λ_ _ _=>.none _,λ_ _ _=>.none _,λ_ _ _=>.refl _⟩
 |n+1=>qcm (qjj c n) c
section
def ev_up(h:(runK c n).ev τ st e=Y2 x)(F:n<=N):(runK c N).ev τ st e=Y2 x:=by
 induction F with
 |refl=>exact h
 |step _ q=>obtain⟨k,z⟩:=(qjj c _).ev τ st e x q; exact z k (Qqj _)
def qiz(h:(runK c n).tst τ st e=Y2 x)(F:n<=N):(runK c N).tst τ st e=Y2 x:=by
 induction F with
 |refl=>exact h
 |step _ q=>obtain⟨k,z⟩:=(qjj c _).tst τ st e x q; exact z k (Qqj _)
def ex_up(h:(runK c n).ex τ st e=Y2 x)(F:n<=N):(runK c N).ex τ st e=Y2 x:=by
 induction F with
 |refl=>exact h
 |step _ q=>obtain⟨k,z⟩:=(qjj c _).ex τ st e x q; exact z k (Qqj _)
end
def qya(up:∀n N x,f n=Y2 x->n<=N->f N=Y2 x)(h:f n=Y2 x):lim1 f=Y2 x:=by
 have q:∃x,∃n,f n=Y2 x:=⟨x,n,h⟩
 unfold lim1;rw[dif_pos q];obtain⟨k,F⟩:=q.choose_spec;have J:=up _ (max n k) _ h (by lia);have z:=up _ (max n k) _ F (by lia);rw[J]at z;exact z.symm
section
end
section
variable {r:R}{s:Src}{S:Yo}{rest:Sl}{elt:E}{ds:List D}
theorem qwv(q:∀i,s.at S i=Y2 ds[i]?)(F:es.length=ds.length)(z:ds.length<lim)(J:∀(i:Nat) (d e:D),ds[i]?=Y2 d->es[i]?=Y2 e->r.ev (Y2 d::rest) S elt=Y2 (e,S)):
  ∀(k i:Nat) (o:Option D),i+k=ds.length->loopC s (turnC r (.var 0) Y3 elt) (k+1) i (es.take i) (o::rest) S=Y2 (es,S)
 |0,i,o,h=>by
  have e:i=ds.length:=by lia
  subst e;have h1:es.take ds.length=es:=Qxv (by lia);rw[loopC,q,h1];simp only[oBs,Qzg (Qqj _)];rw[Z9 (by lia)]
 |k+1,i,o,h=>by
  have hi:i<ds.length:=by lia
  have h1:ds[i]?=Y2 ds[i]:=by simp
  have h2:es[i]?=Y2 (es[i]'(by lia)):=by simp
  have L:=J i _ _ h1 h2;rw[loopC,q,h1];simp only[oBs];rw[Z9 (by rw[Qzz]; lia)];have O:turnC r (.var 0) Y3 elt (o::rest) S ds[i]=Y2 (Y2 (es[i]'(by lia)),Y2 ds[i]::rest,S):=by
   unfold turnC;simp only[setT,Qqg,Qj3,if_true,Qjm,oBs,L,oMs]
  rw[O];simp only[oBs];rw[show es.take i++[es[i]'(by lia)]=es.take (i+1) by rw[Qzi (by lia)]];exact qwv q F z J k (i+1) _ (by lia)
theorem qx7(q:∀i,s.at S i=Y2 ds[i]?)(F:ds.length<lim)(L:∀(i:Nat) (d:D),ds[i]?=Y2 d->r.tst (Y2 d::rest) S c=Y2 (p d,S))(f:D->D)(U:∀(i:Nat) (d:D),ds[i]?=Y2 d->p d=Y0->r.ev (Y2 d::rest) S elt=Y2 (f d,S)):
  ∀(k i:Nat) (o:Option D),i+k=ds.length->loopC s (turnC r (.var 0) (Y2 c) elt) (k+1) i (((ds.take i).filter p).map f) (o::rest) S=Y2 ((ds.filter p).map f,S)
 |0,i,o,h=>by
  have e:i=ds.length:=by lia
  subst e;rw[loopC,q,Qxv (Qqj _)];simp only[oBs,Qzg (Qqj _)];have:=Qz9 p ds;rw[Z9 (by rw[Qqz]; lia)]
 |k+1,i,o,h=>by
  have hi:i<ds.length:=by lia
  have h1:ds[i]?=Y2 ds[i]:=by simp
  rw[loopC,q,h1];simp only[oBs];have h5:=Qz9 p (ds.take i);have Z:(ds.take i).length<=ds.length:=by rw[Qzz]; lia
  rw[Z9 (by rw[Qqz]; lia)];have Y:=Qzi (by omega);have J:=qx7 q F L f U k (i+1) (Y2 ds[i]) (by lia)
  cases z:p ds[i] with
  |true=>
   have O:turnC r (.var 0) (Y2 c) elt (o::rest) S ds[i]=Y2 (Y2 (f ds[i]),Y2 ds[i]::rest,S):=by
    unfold turnC;simp only[setT,Qqg,Qj3,if_true,Qjm,oBs,L i _ h1,z,U i _ h1 z,oMs]
   rw[O];simp only[oBs];rw[Y,Qx1,Qqn]at J;simpa[z] using J
  |false=>
   have O:turnC r (.var 0) (Y2 c) elt (o::rest) S ds[i]=Y2 (Y3,Y2 ds[i]::rest,S):=by
    unfold turnC;simp only[setT,Qqg,Qj3,if_true,Qjm,oBs,L i _ h1,z,Qzk,if_false]
   rw[O];simp only[oBs];rw[Y,Qx1,Qqn]at J;simpa[z] using J
end
def qa6{S:Yo}{ds:List D}(F:src r τ S it=Y2 (s,z))(U:∀i,s.at z i=Y2 ds[i]?)(hsz:s.size z=ds.length)(O:inner sr τ=Y3::rest)(L:es.length=ds.length)(J:ds.length<lim)(Y:∀(i:Nat) (d e:D),ds[i]?=Y2 d->es[i]?=Y2 e->r.ev (Y2 d::rest) z elt=Y2 (e,z)):stepEv r τ S (.comp (.var 0) it Y3 elt sr)=Y2 (.loc z.length,z++[.lst Y0 es]):=by
 have h:=qwv U L J Y ds.length 0 Y3 (by lia);show((src r τ S it).bind λp=>(loopC p.1 (turnC r (.var 0) Y3 elt) (p.1.size p.2+1) 0 [] (inner sr τ) p.2).map λq=>alloc q.2 (.lst Y0 q.1))=_;rw[F];simp only[oBs,hsz,O];rw[show([]:List D)=es.take 0 by simp,h]
 rfl
def qyo{S:Yo}{ds:List D}(f:D->D)(F:src r τ S it=Y2 (s,z))(O:∀i,s.at z i=Y2 ds[i]?)(hsz:s.size z=ds.length)(L:inner sr τ=Y3::rest)(J:ds.length<lim)(Y:∀(i:Nat) (d:D),ds[i]?=Y2 d->r.tst (Y2 d::rest) z c=Y2 (p d,z))(U:∀(i:Nat) (d:D),ds[i]?=Y2 d->p d=Y0->r.ev (Y2 d::rest) z elt=Y2 (f d,z)):stepEv r τ S (.comp (.var 0) it (Y2 c) elt sr)=Y2 (.loc z.length,z++[.lst Y0 ((ds.filter p).map f)]):=by
 have h:=qx7 O J Y f U ds.length 0 Y3 (by lia);show((src r τ S it).bind λp=>(loopC p.1 (turnC r (.var 0) (Y2 c) elt) (p.1.size p.2+1) 0 [] (inner sr τ) p.2).map λq=>alloc q.2 (.lst Y0 q.1))=_;rw[F];simp only[oBs,hsz,L];simp only[Qxl,List.filter_nil,Qxx]at h;rw[h]
 rfl
def qqu{S:Yo}(h:seqAt S q=Y2 ds)(i):(Src.lst q).at S i=Y2 ds[i]?:=by simp[Src.at,h]
def qzt{S:Yo}(h:seqAt S q=Y2 ds):(Src.lst q).size S=ds.length:=by simp[Src.size,h]
def qk2{S:Yo}(lo)(n)(i):(Src.rng lo n).at S i=Y2 ((List.range n).map λ(j:Nat)=>D.int (lo+j))[i]?:=by
 simp only[Src.at,Qqv]
 by_cases h:i<n
 ·rw[Xq h,Qxk h]; rfl
 ·rw[Z9 h,Qzg (by simpa using h)]; rfl
theorem qjo{ds:List D}(P:Nat->Sl->Yo->Prop)(Q:Sl->Yo->Prop)(F:∀i τ st,P i τ st->s.at st i=Y2 ds[i]?)(J:∀i τ st d,ds[i]?=Y2 d->P i τ st->(∃z st',(f τ st d=Y2 (.nx z,st')\/f τ st d=Y2 (.ct z,st'))/\P (i+1) z st')\/∃z st',f τ st d=Y2 (.bk z,st')/\Q z st'):
  ∀(k i:Nat) (τ:Sl) (st:Yo),i+k=ds.length->P i τ st->∃z st',loop s f (k+1) i τ st=Y2 (.nx z,st')/\(P ds.length z st'\/Q z st')
 |0,i,τ,st,h,p=>by
  have e:i=ds.length:=by lia
  subst e;refine⟨τ,st,?_,.inl p⟩;rw[loop,F _ _ _ p];simp[Qzg (Qqj _)]
 |k+1,i,τ,st,h,p=>by
  have hi:i<ds.length:=by lia
  have h1:ds[i]?=Y2 ds[i]:=by simp
  rw[loop,F _ _ _ p,h1];simp only[oBs];rcases J i τ st _ h1 p with⟨z,st',e|e,q⟩|⟨z,st',e,q⟩
  ·rw[e];exact qjo P Q F J k (i+1) z st' (by lia) q
  ·rw[e];exact qjo P Q F J k (i+1) z st' (by lia) q
  ·rw[e];exact⟨z,st',rfl,.inr q⟩
def qvk{ds:List D}(P:Nat->Sl->Yo->Prop)(Q:Sl->Yo->Prop)(J:P 0 τ st)(hsz:s.size st=ds.length)(z:∀i τ st,P i τ st->s.at st i=Y2 ds[i]?)(F:∀i τ st d,ds[i]?=Y2 d->P i τ st->(∃q st',(f τ st d=Y2 (.nx q,st')\/f τ st d=Y2 (.ct q,st'))/\P (i+1) q st')\/∃q st',f τ st d=Y2 (.bk q,st')/\Q q st'):
  ∃q st',loop s f (s.size st+1) 0 τ st=Y2 (.nx q,st')/\(P ds.length q st'\/Q q st'):=by
 rw[hsz];exact qjo P Q z F ds.length 0 τ st (by lia) J
section
def gc_x(h:p.2.take st.length=st):gcD st p=gcX st.length p:=by
 unfold gcD;rw[Xq h,ite_self]
def qwj:noLoc (.tup ds)=noLocs ds:=by rw[noLoc]
def qyk:noLocs (d::ds)=(noLoc d&&noLocs ds):=rfl
theorem qkl:∀{ds},noLocs ds=ds.all noLoc
 |[]=>rfl
 |d::ds=>by rw[qyk,Qzn,qkl]
def qdm(h:∀d∈ds,noLoc d=Y0):noLocs ds=true:=by rw[qkl,Qq8]; exact h
def qzl{α:Type}{xs:List α}{g:α->D}(h:∀x∈xs,noLoc (g x)=Y0):noLocs (xs.map g)=true:=qdm λd hd=>by
 obtain⟨x,q,rfl⟩:=Qqw.mp hd;exact h x q
def qza(h:noLocs ds=Y0):gcD st (.loc st.length,st++[.lst Y0 ds])=(.lst ds,st):=by
 rw[gc_x (by simp)];unfold gcX;rw[Z9 (by simp[noLoc])];simp[h]
end
def qqe(z:-(2 ^ 64)<b)(q:b<2 ^ 64):mulOk a b=true:=by unfold mulOk; simp; lia
section
end
def bMo(S)(a)(h:0<b):binop S .Mod (.int a) (.int b)=Y2 (.int (a % b),S):=by
 simp only[binop];rw[Xq h]
def bDi(S)(a)(h:0<b)(q:b<2 ^ 64):binop S .FloorDiv (.int a) (.int b)=Y2 (.int (a / b),S):=by
 simp only[binop];rw[Xq ⟨h,q⟩]
abbrev CF:=Nat->List D->Yo->Option (D×Yo)
section
end
section
end
section
end
end M
end
section
namespace M
open PySem (Str CmpOp Operator)
inductive It where
 /-- a test comes out so -/
 |b (k:Bool)
 /-- a call answers so -/
 |c (a:D×Yo)
 /-- seen by the kernel -/
 |k
 /-- what lies in a cell -/
 |r (c:Yc)
 /-- what a dict has at a key -/
 |q (o:Option D)
 /-- what lies at an index -/
 |i (d:D)
 |n
 /-- a part leaves nothing behind -/
 |g
 /-- a part leaves a list -/
 |l (ds:List D)
 /-- a loop ends so -/
 |s (o:Out×Yo)
abbrev Tp:=List It
noncomputable def TM(α:Type):=Tp->(α->Tp->Prop)->Prop
noncomputable def TM.bind{α β:Type}(x:TM α)(f:α->TM β):TM β:=λt K=>x t λa t'=>f a t' K
noncomputable def TM.map{α β:Type}(x:TM α)(f:α->β):TM β:=λt K=>x t λa t'=>K (f a) t'
noncomputable def no{α:Type}:TM α:=λ_ _=>False
noncomputable def lf{α:Type}:Option α->TM α
 |some a=>λt K=>K a t
 |none=>no
noncomputable def ys{α:Type}(a:α):TM α:=λt K=>K a t
noncomputable def askB(p:Bool):TM Bool:=λt K=>match t with
 |.b k::t'=>p=k/\K k t'
 |.k::t'=>K p t'
 |_=>False
noncomputable def askC(o:Option (D×Yo)):TM (D×Yo):=λt K=>match t with
 |.c a::t'=>o=Y2 a/\K a t'
 |_=>False
noncomputable def askD(o:Option (D×Yo)):TM (D×Yo):=λt K=>match t with
 |.c a::t'=>o=Y2 a/\K a t'
 |t=>lf o t K
noncomputable def askE(o:Option (D×Yo))(x:TM (D×Yo)):TM (D×Yo):=λt K=>match t with
 |.c a::t'=>o=Y2 a/\K a t'
 |t=>x t K
noncomputable def askS(o:Option (Out×Yo))(x:TM (Out×Yo)):TM (Out×Yo):=λt K=>match t with
 |.s a::t'=>o=Y2 a/\K a t'
 |t=>x t K
noncomputable def askQ(o:Option D):TM (Option D):=λt K=>match t with
 |.q a::t'=>o=a/\K a t'
 |.k::t'=>K o t'
 |_=>False
noncomputable def askI(o:Option D):TM D:=λt K=>match t with
 |.i a::t'=>o=Y2 a/\K a t'
 |.n::t'=>lf o t' K
 |t=>lf o t K
noncomputable def askR(o:Option Yc):TM Yc:=λt K=>match t with
 |.r c::t'=>o=Y2 c/\K c t'
 |_=>False
noncomputable def rdT(n:Nat)(st:Yo)(l:Nat):TM Yc:=if Nat.blt l n then lf st[l]? else askR st[l]?
noncomputable def Yc.ls:Yc->Option (List D)
 |.lst _ ds=>Y2 ds
 |_=>Y3
noncomputable def Yc.wls:Yc->Option (List D)
 |.lst Y0 ds=>Y2 ds
 |_=>Y3
noncomputable def Yc.dc:Yc->Option (List (D×D))
 |.dic _ ds=>Y2 ds
 |_=>Y3
noncomputable def Yc.wdc:Yc->Option (List (D×D))
 |.dic Y0 ds=>Y2 ds
 |_=>Y3
noncomputable def Yc.tc:Yc->Option (List (List Int×D))
 |.tdc _ ds=>Y2 ds
 |_=>Y3
noncomputable def Yc.wtc:Yc->Option (List (List Int×D))
 |.tdc Y0 ds=>Y2 ds
 |_=>Y3
noncomputable def Yc.ob(C:Nat):Yc->Option (List (Yb×D))
 |.obj C' fs=>if C'=C then Y2 fs else Y3
 |_=>Y3
noncomputable def seqT(n:Nat)(st:Yo):D->TM (List D)
 |.loc l=>(rdT n st l).bind λc=>lf c.ls
 |.lst ds=>ys ds
 |_=>no
noncomputable def rowT(n:Nat)(st:Yo):D->TM (List D)
 |.tup ds=>ys ds
 |d=>seqT n st d
noncomputable def wlT(n:Nat)(st:Yo)(l:Nat):TM (List D):=(rdT n st l).bind λc=>lf c.wls
noncomputable def dcT(n:Nat)(st:Yo)(l:Nat):TM (List (D×D)):=(rdT n st l).bind λc=>lf c.dc
noncomputable def wdT(n:Nat)(st:Yo)(l:Nat):TM (List (D×D)):=(rdT n st l).bind λc=>lf c.wdc
noncomputable def tcT(n:Nat)(st:Yo)(l:Nat):TM (List (List Int×D)):=(rdT n st l).bind λc=>lf c.tc
noncomputable def wtT(n:Nat)(st:Yo)(l:Nat):TM (List (List Int×D)):=(rdT n st l).bind λc=>lf c.wtc
noncomputable def obT(n:Nat)(st:Yo)(C:Nat):D->TM (List (Yb×D))
 |.loc l=>(rdT n st l).bind λc=>lf (c.ob C)
 |_=>no
noncomputable def qnd:CmpOp->D->Bool
 |.Lt,_=>Y0
 |.LtE,_=>Y0
 |.Gt,_=>Y0
 |.GtE,_=>Y0
 |.Is,_=>Y0
 |.IsNot,_=>Y0
 |.Eq,.int _=>Y0
 |.NotEq,.int _=>Y0
 |_,_=>Y1
noncomputable def isLs:D->Bool
 |.loc _=>Y0
 |.lst _=>Y0
 |_=>Y1
noncomputable def isAsk:CmpOp->D->D->Bool
 |.In,_,y=>isLs y
 |.NotIn,_,y=>isLs y
 |.Eq,x,_=>isLs x
 |.NotEq,x,_=>isLs x
 |_,_,_=>Y1
noncomputable def askO(o:Option Bool):TM Bool:=λt K=>match t with
 |.b k::t'=>o=Y2 k/\K k t'
 |.k::t'=>lf o t' K
 |_=>False
noncomputable def cmpT(st:Yo)(op:CmpOp)(x y:D):TM Bool:=if isAsk op x y then askO (cmpD st op x y) else(lf (cmpD st op x y)).bind λp=>if qnd op x then askB p else ys p
noncomputable def qiq(n:Nat)(st:Yo)(d:D):TM Bool:=match d with
 |.loc l=>(seqT n st (.loc l)).bind λds=>askB (!ds.isEmpty)
 |.lst ds=>askB (!ds.isEmpty)
 |d=>lf (truth st d)
noncomputable def addT(n:Nat)(st:Yo)(a b:D):TM (D×Yo):=(seqT n st a).bind λx=>(seqT n st b).bind λy=>(askB (decide (lim<x.length+y.length))).bind λk=>if k then no else ys (alloc st (.lst Y0 (x++y)))
noncomputable def binT(n:Nat)(st:Yo)(op:Zp)(a b:D):TM (D×Yo):=match op,a with
 |.Add,.loc l=>addT n st (.loc l) b
 |.Add,.lst l=>addT n st (.lst l) b
 |.Mult,.int i=>match b with
  |.int j=>(askB (mulOk i j)).bind λk=>if k then ys (.int (i*j),st) else no
  |b=>lf (binop st .Mult (.int i) b)
 |.Mult,.tup l=>askD (binop st .Mult (.tup l) b)
 |.Mod,.int i=>askD (binop st .Mod (.int i) b)
 |.FloorDiv,.int i=>askD (binop st .FloorDiv (.int i) b)
 |op,a=>lf (binop st op a b)
noncomputable def qbm(n:Nat)(st:Yo)(m:Mt)(d:D)(es:List D):TM (D×Yo):=match m with
 |.append=>match d,es with
  |.loc l,[d]=>(wlT n st l).bind λds=>(askB (decide (ds.length<lim))).bind λb=>if b then ys (.non,st.set l (.lst Y0 (ds++[d]))) else no
  |_,_=>no
 |.extend=>match d,es with
  |.loc l,[d]=>(wlT n st l).bind λds=>(rowT n st d).bind λes=>(askB (decide (ds.length+es.length<=lim))).bind λb=>if b then ys (.non,st.set l (.lst Y0 (ds++es))) else no
  |_,_=>no
 |.insert=>match d,es with
  |.loc l,[.int i,d]=>(wlT n st l).bind λds=>(askB (decide (0<=i/\i<=ds.length/\ds.length<lim))).bind λb=>if b then ys (.non,st.set l (.lst Y0 (ds.take i.toNat++d::ds.drop i.toNat))) else no
  |_,_=>no
 |.index=>match es with
  |[x]=>(seqT n st d).bind λds=>askD (if flat 9 x&&flats 9 ds then(ds.findIdx? λy=>eqT y x).map λ(j:Nat)=>(.int (j:Int),st) else Y3)
  |_=>no
noncomputable def mtyT(n:Nat)(st:Yo)(m:Mt)(d:D):TM Bool:=match d with
 |.str _=>ys (!m.ofList)
 |.lst _=>ys m.ofList
 |.loc l=>(seqT n st (.loc l)).bind λ_=>ys m.ofList
 |_=>no
noncomputable def qok(n:Nat)(st:Yo)(f:B)(ds:List D):TM (D×Yo):=match f with
 |.len=>match ds with
  |[.loc l]=>(seqT n st (.loc l)).bind λxs=>ys (.int xs.length,st)
  |ds=>lf (bfun st .len ds)
 |.list=>match ds with
  |[.loc l]=>(rdT n st l).bind λc=>(lf (c.ls.or (c.dc.map keysOf))).bind λxs=>ys (alloc st (.lst Y0 xs))
  |ds=>lf (bfun st .list ds)
 |.tuple=>match ds with
  |[.loc l]=>(seqT n st (.loc l)).bind λxs=>ys (.tup xs,st)
  |ds=>lf (bfun st .tuple ds)
 |.min=>match ds with
  |[.int i,.int j]=>(askB (decide (j<i))).bind λk=>ys (.int (if k then j else i),st)
  |_=>no
 |f=>askD (bfun st f ds)
structure RT where
 rl:R
 ev:Sl->Yo->E->TM (D×Yo)
 tst:Sl->Yo->E->TM (Bool×Yo)
 ex:Sl->Yo->List S->TM (Out×Yo)
 call:Nat->List D->Yo->TM (D×Yo)
noncomputable def gcT(st:Yo)(p:D×Yo):TM (D×Yo):=λt K=>match t with
 |.g::t'=>(noLoc p.1=Y0/\p.2.take st.length=st)/\K (p.1,st) t'
 |.l ds::t'=>gcD st p=(.lst ds,st)/\K (.lst ds,st) t'
 |.k::t'=>K (gcD st p) t'
 |_=>False
noncomputable def evsT(f:Yo->E->TM (D×Yo)):List E->Yo->TM (List D×Yo)
 |[],st=>ys ([],st)
 |e::es,st=>(f st e).bind λp=>(evsT f es p.2).bind λq=>ys (p.1::q.1,q.2)
noncomputable def srcT(n:Nat)(r:RT)(τ:Sl)(st:Yo):E->TM (Src×Yo)
 |.rng1 a=>(r.ev τ st a).bind λp=>match p.1 with
  |.int n=>if big n then no else ys (.rng 0 n.toNat,p.2)
  |_=>no
 |.zip a b=>(r.ev τ st a).bind λp=>(r.ev τ p.2 b).bind λq=>lf ((rowAt q.2 p.1).bind λ_=>(rowAt q.2 q.1).map λ_=>(.zip p.1 q.1,q.2))
 |.enu a=>(r.ev τ st a).bind λp=>lf ((rowAt p.2 p.1).map λ_=>(.enu p.1,p.2))
 |.rev a=>(r.ev τ st a).bind λp=>lf (match p.1 with
  |.tup ds=>Y2 (.rev ds,p.2)
  |_=>Y3)
 |.rng2 _ _=>no
 |e=>(r.ev τ st e).bind λp=>match p.1 with
  |.tup ds=>ys (.tup ds,p.2)
  |.str z=>no
  |d=>(seqT n p.2 d).map λ_=>(.lst d,p.2)
noncomputable def qd2(it:Src)(f:Sl->Yo->D->TM (Out×Yo)):Nat->Nat->Sl->Yo->TM (Out×Yo)
 |0,_,_,_=>no
 |k+1,i,τ,st=>(lf (it.at st i)).bind λo=>match o with
  |none=>ys (.nx τ,st)
  |some d=>(f τ st d).bind λp=>match p.1 with
   |.nx τ'=>qd2 it f k (i+1) τ' p.2
   |.ct τ'=>qd2 it f k (i+1) τ' p.2
   |.bk τ'=>ys (.nx τ',p.2)
   |.rt v=>ys (.rt v,p.2)
noncomputable def turnT(r:RT)(t:T)(test:Option E)(elt:E)(τ:Sl)(st:Yo)(d:D):TM (Option D×Sl×Yo):=
 (lf (setT t d τ)).bind λτ'=>match test with
  |none=>(r.ev τ' st elt).map λp=>(Y2 p.1,τ',p.2)
  |some c=>(r.tst τ' st c).bind λb=>if b.1 then(r.ev τ' b.2 elt).map λp=>(Y2 p.1,τ',p.2) else ys (Y3,τ',b.2)
noncomputable def qah(it:Src)(f:Sl->Yo->D->TM (Option D×Sl×Yo)):Nat->Nat->List D->Sl->Yo->TM (List D×Yo)
 |0,_,_,_,_=>no
 |k+1,i,acc,τ,st=>(lf (it.at st i)).bind λo=>match o with
  |none=>if lim<acc.length then no else ys (acc,st)
  |some d=>if lim<=acc.length then no else(f τ st d).bind λp=>qah it f k (i+1) (match p.1 with|some x=>acc++[x]|none=>acc) p.2.1 p.2.2
noncomputable def qdg(r:RT)(τ:Sl)(st:Yo):Option E->TM (Option Int×Yo)
 |none=>ys (Y3,st)
 |some e=>(r.ev τ st e).bind λp=>match p.1 with
  |.int i=>ys (Y2 i,p.2)
  |_=>no
noncomputable def dgT(n:Nat)(p:D×Yo)(k:D)(st:Yo):TM (Option D):=match p.1 with
 |.loc l=>(dcT n st l).bind λkvs=>if isKey k then askQ (dget kvs k) else no
 |_=>no
noncomputable def tgT(n:Nat)(p k:D)(st:Yo):TM (Option D):=match p,k with
 |.loc l,.fup ks=>(tcT n st l).bind λkvs=>askQ (tget kvs ks)
 |_,_=>no
noncomputable def qco(n:Nat)(r:RT)(τ:Sl)(st:Yo):E->TM (D×Yo)
 |.var i=>lf (match τ[i]? with
  |some (Y2 d)=>Y2 (d,st)
  |_=>Y3)
 |.lit d=>ys (d,st)
 |.glo _ d=>ys (d,st)
 |.bin op a b=>(r.ev τ st a).bind λp=>(r.ev τ p.2 b).bind λq=>binT n q.2 op p.1 q.1
 |.neg a=>(r.ev τ st a).bind λp=>lf (match p.1 with
  |.int i=>Y2 (.int (-i),p.2)
  |_=>Y3)
 |.not a=>(r.ev τ st a).bind λp=>lf (match p.1 with
  |.bl b=>Y2 (.bl (!b),p.2)
  |_=>Y3)
 |.cmp op a b=>(r.ev τ st a).bind λp=>(r.ev τ p.2 b).bind λq=>(cmpT q.2 op p.1 q.1).map λk=>(.bl k,q.2)
 |.cmp2 op op' a b c=>(r.ev τ st a).bind λp=>(r.ev τ p.2 b).bind λq=>(cmpT q.2 op p.1 q.1).bind λk=>
   if k then(r.ev τ q.2 c).bind λu=>(cmpT u.2 op' q.1 u.1).map λk'=>(.bl k',u.2) else ys (.bl Y1,q.2)
 |.and a b=>(r.ev τ st a).bind λp=>match p.1 with
  |.bl Y0=>r.ev τ p.2 b
  |.bl Y1=>ys (.bl Y1,p.2)
  |_=>no
 |.or a b=>(r.ev τ st a).bind λp=>match p.1 with
  |.bl Y1=>r.ev τ p.2 b
  |.bl Y0=>ys (.bl Y0,p.2)
  |_=>no
 |.ite c a b=>(r.tst τ st c).bind λp=>if p.1 then r.ev τ p.2 a else r.ev τ p.2 b
 |.tup es=>(evsT (r.ev τ) es st).bind λp=>if lim<p.1.length then no else ys (.tup p.1,p.2)
 |.lst es=>(evsT (r.ev τ) es st).bind λp=>if lim<p.1.length then no else ys (alloc p.2 (.lst Y0 p.1))
 |.idx a b=>(r.ev τ st a).bind λp=>(r.ev τ p.2 b).bind λq=>(askI (idxD q.2 p.1 q.1)).map λd=>(d,q.2)
 |.sli a lo hi=>(r.ev τ st a).bind λp=>(qdg r τ p.2 lo).bind λl=>(qdg r τ l.2 hi).bind λh=>lf (sliD h.2 p.1 l.1 h.1)
 |.call f es=>(evsT (r.ev τ) es st).bind λp=>r.call f p.1 p.2
 |.bcall f es=>(evsT (r.ev τ) es st).bind λp=>qok n p.2 f p.1
 |.isi a ts _=>(r.ev τ st a).bind λp=>(lf (tyName p.2 p.1)).map λn=>(.bl (ts.any λt=>tyIs t n),p.2)
 |.meth a m es=>(r.ev τ st a).bind λp=>(mtyT n p.2 m p.1).bind λk=>if k then(evsT (r.ev τ) es p.2).bind λq=>qbm n q.2 m p.1 q.1 else no
 |.gc a=>(r.ev τ st a).bind λp=>gcT st p
 |.dic es=>(evsT (r.ev τ) es (st++[.dic Y0 []])).bind λp=>(wdT n p.2 st.length).bind λk0=>lf (match k0 with
  |[]=>(pairUp p.1).bind λkvs=>if kvs.length<=15 then Y2 (.loc st.length,p.2.set st.length (.dic Y0 (dall kvs))) else Y3
  |_=>Y3)
 |.didx a b=>(r.ev τ st a).bind λp=>(r.ev τ p.2 b).bind λq=>(dgT n p q.1 q.2).bind λo=>(lf o).map λd=>(d,q.2)
 |.din neg a b=>(r.ev τ st a).bind λp=>(r.ev τ p.2 b).bind λq=>(dgT n q p.1 q.2).map λo=>(.bl (o.isSome != neg),q.2)
 |.dgt a b=>(r.ev τ st a).bind λp=>match p.1 with
  |.loc l=>(dcT n p.2 l).bind λ_=>(r.ev τ p.2 b).bind λq=>(dgT n p q.1 q.2).bind λo=>ys (o.getD .non,q.2)
  |_=>no
 |.ttup es=>(evsT (r.ev τ) es st).bind λp=>(lf (asInts p.1)).bind λks=>if lim<ks.length then no else ys (.fup ks,p.2)
 |.tsli a lo hi=>(r.ev τ st a).bind λp=>(qdg r τ p.2 lo).bind λl=>(qdg r τ l.2 hi).bind λh=>lf (match p.1 with
  |.tup ds=>(asInts (cut ds l.1 h.1)).bind λks=>if ks.length<ds.length then Y2 (.fup ks,h.2) else Y3
  |_=>Y3)
 |.unt a=>(r.ev τ st a).bind λp=>lf (match p.1 with
  |.fup ks=>Y2 (.tup (ks.map .int),p.2)
  |_=>Y3)
 |.tdn=>ys (alloc st (.tdc Y0 []))
 |.tdx a b=>(r.ev τ st a).bind λp=>(r.ev τ p.2 b).bind λq=>(tgT n p.1 q.1 q.2).bind λo=>(lf o).map λd=>(d,q.2)
 |.tdi neg a b=>(r.ev τ st a).bind λp=>(r.ev τ p.2 b).bind λq=>(tgT n q.1 p.1 q.2).bind λo=>ys (.bl (o.isSome != neg),q.2)
 |.tdg a b c=>(r.ev τ st a).bind λp=>match p.1 with
  |.loc l=>(tcT n p.2 l).bind λ_=>(r.ev τ p.2 b).bind λq=>(r.ev τ q.2 c).bind λu=>(tgT n (.loc l) q.1 u.2).bind λo=>ys (o.getD u.1,u.2)
  |_=>no
 |.cmpd t a test elt sr=>askE (stepEv r.rl τ st (.cmpd t a test elt sr)) no
 |.gidx _ ks ds b=>(r.ev τ st b).bind λp=>lf (match p.1 with
  |.str z=>((ks.zip ds).find? λq=>q.1==z).map λq=>(q.2,p.2)
  |_=>Y3)
 |.gin neg _ ks b=>(r.ev τ st b).bind λp=>lf (match p.1 with
  |.str z=>Y2 (.bl (ks.contains z != neg),p.2)
  |_=>Y3)
 |.lenset a=>(r.ev τ st a).bind λp=>(askI (qvw p.1)).map λd=>(d,p.2)
 |.comp t it test elt sr=>askE (stepEv r.rl τ st (.comp t it test elt sr)) ((srcT n r τ st it).bind λp=>
   (qah p.1 (turnT r t test elt) (p.1.size p.2+1) 0 [] (inner sr τ) p.2).map λq=>alloc q.2 (.lst Y0 q.1))
 |.attr C a f=>(r.ev τ st a).bind λp=>(obT n p.2 C p.1).bind λfs=>lf ((fs.lookup f).map λd=>(d,p.2))
 |.mcall C f m a es=>(r.ev τ st a).bind λp=>(obT n p.2 C p.1).bind λfs=>if (fs.lookup m).isSome then no else(evsT (r.ev τ) es p.2).bind λq=>r.call f (p.1::q.1) q.2
 |.new C f es=>(evsT (r.ev τ) es st).bind λp=>(r.call f (.loc p.2.length::p.1) (p.2++[.obj C []])).bind λq=>if isNon q.1 then ys (.loc p.2.length,q.2) else no
 |_=>no
noncomputable def qy9(n:Nat)(r:RT)(τ:Sl)(st:Yo):E->TM (Bool×Yo)
 |.not a=>(r.tst τ st a).map λp=>(!p.1,p.2)
 |.and a b=>(r.tst τ st a).bind λp=>if p.1 then r.tst τ p.2 b else ys (Y1,p.2)
 |.or a b=>(r.tst τ st a).bind λp=>if p.1 then ys (Y0,p.2) else r.tst τ p.2 b
 |.ite _ _ _=>no
 |.din neg a b=>(r.ev τ st a).bind λp=>(r.ev τ p.2 b).bind λq=>(dgT n q p.1 q.2).map λo=>(o.isSome != neg,q.2)
 |.tdi neg a b=>(r.ev τ st a).bind λp=>(r.ev τ p.2 b).bind λq=>(tgT n q.1 p.1 q.2).bind λo=>ys (o.isSome != neg,q.2)
 |.gin neg _ ks b=>(r.ev τ st b).bind λp=>lf (match p.1 with
  |.str z=>Y2 (ks.contains z != neg,p.2)
  |_=>Y3)
 |.cmp op a b=>(r.ev τ st a).bind λp=>(r.ev τ p.2 b).bind λq=>(cmpT q.2 op p.1 q.1).map λk=>(k,q.2)
 |.cmp2 op op' a b c=>(r.ev τ st a).bind λp=>(r.ev τ p.2 b).bind λq=>(cmpT q.2 op p.1 q.1).bind λk=>
   if k then(r.ev τ q.2 c).bind λu=>(cmpT u.2 op' q.1 u.1).map λk'=>(k',u.2) else ys (Y1,q.2)
 |e=>(r.ev τ st e).bind λp=>(qiq n p.2 p.1).map λk=>(k,p.2)
noncomputable def qk7(n:Nat)(r:RT)(τ:Sl)(st:Yo):S->TM (Out×Yo)
 |.set t e=>(r.ev τ st e).bind λp=>(lf (setT t p.1 τ)).map λτ'=>(.nx τ',p.2)
 |.dset a i e=>(r.ev τ st e).bind λp=>(r.ev τ p.2 a).bind λq=>(r.ev τ q.2 i).bind λu=>match q.1 with
  |.loc l=>(wdT n u.2 l).bind λkvs=>if isKey u.1 then(askB (decide (kvs.length<lim))).bind λb=>if b then ys (.nx τ,u.2.set l (.dic Y0 (dput kvs u.1 p.1))) else no else no
  |_=>no
 |.tds a i e=>(r.ev τ st e).bind λp=>(r.ev τ p.2 a).bind λq=>(r.ev τ q.2 i).bind λu=>match q.1,u.1 with
  |.loc l,.fup k=>(wtT n u.2 l).bind λkvs=>(askB (decide (kvs.length<lim))).bind λb=>if b then ys (.nx τ,u.2.set l (.tdc Y0 (tput kvs k p.1))) else no
  |_,_=>no
 |.setA C a f e=>(r.ev τ st e).bind λp=>(r.ev τ p.2 a).bind λq=>(obT n q.2 C q.1).bind λfs=>match q.1 with
  |.loc l=>if fs.length<900 then ys (.nx τ,q.2.set l (.obj C (putA f p.1 fs))) else no
  |_=>no
 |.expr e=>(r.ev τ st e).map λp=>(.nx τ,p.2)
 |.ret e=>(r.ev τ st e).map λp=>(.rt p.1,p.2)
 |.ite c a b=>(r.tst τ st c).bind λp=>if p.1 then r.ex τ p.2 a else r.ex τ p.2 b
 |.forr t it body=>askS (stepEx r.rl τ st (.forr t it body)) ((srcT n r τ st it).bind λp=>
   qd2 p.1 (λτ st d=>(lf (setT t d τ)).bind λτ'=>r.ex τ' st body) (p.1.size p.2+1) 0 τ p.2)
 |.ford t a body=>askS (stepEx r.rl τ st (.ford t a body)) no
 |_=>no
noncomputable def exsT(f:Sl->Yo->S->TM (Out×Yo)):List S->Sl->Yo->TM (Out×Yo)
 |[],τ,st=>ys (.nx τ,st)
 |s::ss,τ,st=>(f τ st s).bind λp=>match p.1 with
  |.nx τ'=>exsT f ss τ' p.2
  |o=>ys (o,p.2)
abbrev CT:=Nat->List D->Yo->TM (D×Yo)
noncomputable def runT(n:Nat)(R0:R)(c:CT):Nat->RT
 |0=>⟨R0,λ_ _ _=>no,λ_ _ _=>no,λ_ _ _=>no,c⟩
 |k+1=>⟨R0,qco n (runT n R0 c k),qy9 n (runT n R0 c k),λτ st ss=>exsT (qk7 n (runT n R0 c k)) ss τ st,c⟩
noncomputable def qvl(fns:List Fn)(n:Nat)(O:List Nat)(k:Nat):Nat->CT
 |0=>λ_ _ _=>no
 |d+1=>λf ds st=>if O.contains f then askC (callD fns (k+(d+1)) f ds st) else match fns[f]? with
   |some F=>if ds.length=F.np then((runT n (RL (callD fns (k+d))) (qvl fns n O k d) 40).ex (ds.map Y2++List.replicate (F.nl - ds.length) Y3) st F.body).bind λp=>(match p.1 with
     |.rt d=>ys (d,p.2)
     |.nx _=>ys (.non,p.2)
     |_=>no)
    else no
   |none=>no
def Sn{α:Type}(x:TM α)(y:Option α):Prop:=∀t K,x t K->∃a t',y=Y2 a/\K a t'
theorem Sn.lf:∀(o:Option α),Sn (lf o) o
 |some a=>λt K h=>⟨a,t,rfl,h⟩
 |none=>λt K h=>h.elim
theorem Sn.ys(a:α):Sn (ys a) (Y2 a):=λt K h=>⟨a,t,rfl,h⟩
theorem Sn.no(o:Option α):Sn no o:=λt K h=>h.elim
theorem Sn.bind{x:TM α}{y:Option α}{f:α->TM q}{g:α->Option q}(h:Sn x y)(h':∀a,Sn (f a) (g a)):Sn (x.bind f) (y.bind g):=λt K e=>by
 obtain⟨a,F,rfl,z⟩:=h _ _ e;exact h' a _ _ z
theorem Sn.map{x:TM α}{y:Option α}(f:α->q)(h:Sn x y):Sn (x.map f) (y.map f):=λt K e=>by
 obtain⟨a,z,rfl,F⟩:=h _ _ e;exact⟨f a,z,rfl,F⟩
def Sn.ite[Decidable c]{a b:TM α}{z q:Option α}(J:Sn a z)(F:Sn b q):Sn (if c then a else b) (if c then z else q):=by
 by_cases h:c
 ·rw[Xq h,Xq h]; exact J
 ·rw[Z9 h,Z9 h]; exact F
def Sn.up{x:TM α}{y y':Option α}(h:∀a,y=Y2 a->y'=Y2 a)(e:Sn x y):Sn x y':=λt K h1=>by
 obtain⟨a,q,F,z⟩:=e t K h1;exact⟨a,q,h a F,z⟩
def Sn.eq{x:TM α}{y y':Option α}(h:y=y')(e:Sn x y):Sn x y':=h▸e
def bm{α q:Type}{o:Option α}{f:α->q}:(o.bind λx=>Y2 (f x))=o.map f:=by cases o<;>rfl
theorem Sn.askB(p):Sn (askB p) (Y2 p):=λt K h=>by
 cases t with
 |nil=>exact h.elim
 |cons i t=>
  cases i with
  |b k=>obtain⟨rfl,e⟩:=h; exact⟨_,_,rfl,e⟩
  |k=>exact⟨p,t,rfl,h⟩
  |_=>exact h.elim
theorem Sn.askC(o):Sn (askC o) o:=λt K h=>by
 cases t with
 |nil=>exact h.elim
 |cons i t=>
  cases i with
  |c a=>exact⟨a,t,h.1,h.2⟩
  |_=>exact h.elim
theorem Sn.askD(o):Sn (askD o) o:=λt K h=>by
 cases t with
 |nil=>exact Sn.lf o _ _ h
 |cons i t=>
  cases i with
  |c a=>exact⟨a,t,h.1,h.2⟩
  |_=>exact Sn.lf o _ _ h
theorem Sn.askE(h:Sn x o):Sn (askE o x) o:=λt K e=>by
 cases t with
 |nil=>exact h _ _ e
 |cons i t=>
  cases i with
  |c a=>exact⟨a,t,e.1,e.2⟩
  |_=>exact h _ _ e
theorem Sn.askS(h:Sn x o):Sn (askS o x) o:=λt K e=>by
 cases t with
 |nil=>exact h _ _ e
 |cons i t=>
  cases i with
  |s a=>exact⟨a,t,e.1,e.2⟩
  |_=>exact h _ _ e
theorem Sn.askQ(o):Sn (askQ o) (Y2 o):=λt K h=>by
 cases t with
 |nil=>exact h.elim
 |cons i t=>
  cases i with
  |q a=>exact⟨a,t,congrArg Y2 h.1,h.2⟩
  |k=>exact⟨o,t,rfl,h⟩
  |_=>exact h.elim
theorem Sn.askI(o):Sn (askI o) o:=λt K h=>by
 cases t with
 |nil=>exact Sn.lf o _ _ h
 |cons i t=>
  cases i with
  |i a=>exact⟨a,t,h.1,h.2⟩
  |n=>exact Sn.lf o _ _ h
  |_=>exact Sn.lf o _ _ h
theorem Sn.askR(o):Sn (askR o) o:=λt K h=>by
 cases t with
 |nil=>exact h.elim
 |cons i t=>
  cases i with
  |r c=>exact⟨c,t,h.1,h.2⟩
  |_=>exact h.elim
def Sn.rd(n)(st)(l):Sn (rdT n st l) st[l]?:=by
 unfold rdT
 by_cases q:Nat.blt l n=Y0
 ·rw[Xq q]; exact .lf _
 ·rw[Z9 q]; exact .askR _
def Sn.seq(n)(st)(d):Sn (seqT n st d) (seqAt st d):=by
 cases d with
 |loc l=>exact((Sn.rd n st l).bind λc=>.lf _).eq (by show _=listAt st l; unfold listAt; cases st[l]? with|none=>rfl|some c=>cases c<;>rfl)
 |lst ds=>exact .ys _
 |_=>exact .no _
def Sn.row(n)(st)(d):Sn (rowT n st d) (rowAt st d):=by
 cases d with
 |tup ds=>exact .ys _
 |non=>exact Sn.seq n st .non
 |bl b=>exact Sn.seq n st (.bl b)
 |int b=>exact Sn.seq n st (.int b)
 |str b=>exact Sn.seq n st (.str b)
 |lst b=>exact Sn.seq n st (.lst b)
 |loc b=>exact Sn.seq n st (.loc b)
 |fup b=>exact Sn.seq n st (.fup b)
def Sn.wl(n)(st)(l):Sn (wlT n st l) (wlistAt st l):=((Sn.rd n st l).bind λc=>.lf _).eq (by
 unfold wlistAt
 cases st[l]? with
 |none=>rfl
 |some c=>cases c with
  |lst w ds=>cases w<;>rfl
  |_=>rfl)
def Sn.dc(n)(st)(l):Sn (dcT n st l) (dicAt st l):=((Sn.rd n st l).bind λc=>.lf _).eq (by unfold dicAt; cases st[l]? with|none=>rfl|some c=>cases c<;>rfl)
def Sn.wd(n)(st)(l):Sn (wdT n st l) (wdicAt st l):=((Sn.rd n st l).bind λc=>.lf _).eq (by
 unfold wdicAt
 cases st[l]? with
 |none=>rfl
 |some c=>cases c with
  |dic w ds=>cases w<;>rfl
  |_=>rfl)
def Sn.tc(n)(st)(l):Sn (tcT n st l) (tdcAt st l):=((Sn.rd n st l).bind λc=>.lf _).eq (by unfold tdcAt; cases st[l]? with|none=>rfl|some c=>cases c<;>rfl)
def Sn.wt(n)(st)(l):Sn (wtT n st l) (wtdcAt st l):=((Sn.rd n st l).bind λc=>.lf _).eq (by
 unfold wtdcAt
 cases st[l]? with
 |none=>rfl
 |some c=>cases c with
  |tdc w ds=>cases w<;>rfl
  |_=>rfl)
def Sn.ob(n)(st)(C)(d):Sn (obT n st C d) (objAt st C d):=by
 cases d with
 |loc l=>exact((Sn.rd n st l).bind λc=>.lf _).eq (by unfold objAt; dsimp only; cases st[l]? with|none=>rfl|some c=>cases c<;>rfl)
 |_=>exact .no _
def Sn.gc(st)(p):Sn (gcT st p) (Y2 (gcD st p)):=λt K h=>by
 cases t with
 |nil=>exact h.elim
 |cons i t=>
  cases i with
  |g=>
   obtain⟨⟨h1,h2⟩,h⟩:=h;refine⟨_,t,?_,h⟩;unfold gcD gcX;rw[h2,Xq h1,Xq rfl,ite_self]
  |l ds=>exact⟨_,t,congrArg Y2 h.1,h.2⟩
  |k=>exact⟨_,t,rfl,h⟩
  |_=>exact h.elim
def Sn.cond(p)(a:α):Sn (TM.bind (M.askB p) λb=>if b=Y0 then M.ys a else M.no) (if p=Y0 then Y2 a else Y3):=
 (Sn.askB p).bind λb=>Sn.ite (Sn.ys a) (.no Y3)
def Sn.meth(n)(st)(m)(d)(es):Sn (qbm n st m d es) (mfun st m d es):=by
 cases m with
 |append=>
  unfold qbm;dsimp only
  split
  ·refine(Sn.wl n st _).bind λds=>(Sn.cond _ _).eq ?_;simp only[decide_eq_true_eq]
  ·exact .no _
 |extend=>
  unfold qbm;dsimp only
  split
  ·rename_i l d;refine(Sn.wl n st _).bind λds=>((Sn.row n st d).bind λes=>Sn.cond _ _).eq ?_;simp only[decide_eq_true_eq];cases d<;>rfl
  ·exact .no _
 |insert=>
  unfold qbm;dsimp only
  split
  ·refine(Sn.wl n st _).bind λds=>(Sn.cond _ _).eq ?_;simp only[decide_eq_true_eq]
  ·exact .no _
 |index=>
  unfold qbm;dsimp only
  split
  ·exact(Sn.seq n st _).bind λds=>.askD _
  ·exact .no _
def Sn.mt(n)(st)(m)(d){x:TM α}{y:Option α}(h:Sn x y):Sn (TM.bind (mtyT n st m d) λk=>if k=Y0 then x else M.no) (if mty st m d then y else Y3):=by
 cases d with
 |str z=>exact λt K e=>Sn.ite h (.no Y3) t K e
 |lst z=>
  refine((Sn.ys m.ofList).bind λk=>Sn.ite h (.no Y3)).eq ?_
  show(if m.ofList=Y0 then y else Y3)=if (m.ofList&&Y0)=Y0 then y else Y3
  rw[Qjz]
 |loc l=>
  have e:=((Sn.seq n st (.loc l)).bind λ_=>Sn.ys m.ofList).bind λk=>Sn.ite (c:=k=Y0) h (.no Y3);refine e.up λa e=>?_;show(if (m.ofList&&(seqAt st (.loc l)).isSome)=Y0 then y else Y3)=Y2 a
  cases q:seqAt st (.loc l) with
  |none=>rw[q]at e; cases e
  |some xs=>rw[q]at e; rw[Option.isSome_some,Qjz]; exact e
 |_=>exact λt K e=>e.elim
theorem Sn.askO(o):Sn (askO o) o:=λt K h=>by
 cases t with
 |nil=>exact h.elim
 |cons i t=>
  cases i with
  |b k=>exact⟨k,t,h.1,h.2⟩
  |k=>exact Sn.lf o _ _ h
  |_=>exact h.elim
def Sn.cmp(st)(q)(x y):Sn (cmpT st q x y) (cmpD st q x y):=by
 unfold cmpT
 by_cases z:isAsk q x y=Y0
 ·rw[Xq z]; exact .askO _
 ·rw[Z9 z];have h:Sn ((M.lf (cmpD st q x y)).bind λp=>if qnd q x=Y0 then M.askB p else M.ys p) ((cmpD st q x y).bind λp=>if qnd q x=Y0 then Y2 p else Y2 p):=(Sn.lf _).bind λp=>Sn.ite (Sn.askB p) (Sn.ys p);simpa using h
theorem Sn.truth(n)(st)(d):Sn (qiq n st d) (truth st d):=by
 cases d with
 |loc l=>exact((Sn.seq n st (.loc l)).bind λds=>Sn.askB _).eq (by show _=(seqAt st (.loc l)).map _; rw[Option.map_eq_bind]; rfl)
 |lst l=>exact .askB _
 |non=>exact .lf (M.truth st .non)
 |bl b=>exact .lf (M.truth st (.bl b))
 |int b=>exact .lf (M.truth st (.int b))
 |str b=>exact .lf (M.truth st (.str b))
 |tup b=>exact .lf (M.truth st (.tup b))
 |fup b=>exact .lf (M.truth st (.fup b))
def Sn.add(n)(st)(a b):Sn (addT n st a b) ((seqAt st a).bind λx=>(seqAt st b).bind λy=>if lim<x.length+y.length then Y3 else Y2 (alloc st (.lst Y0 (x++y)))):=
 (Sn.seq n st a).bind λx=>(Sn.seq n st b).bind λy=>by
  have h:=(Sn.askB (decide (lim<x.length+y.length))).bind λk=>Sn.ite (c:=k=Y0) (.no Y3) (Sn.ys (alloc st (.lst Y0 (x++y))));simpa only[oBs,decide_eq_true_eq] using h
def Sn.bin(n)(st)(q)(a b):Sn (binT n st q a b) (binop st q a b):=by
 unfold binT
 split
 ·exact(Sn.add n st _ b).eq (by cases b<;>rfl)
 ·exact(Sn.add n st _ b).eq (by cases b<;>rfl)
 ·split
  ·exact Sn.cond _ _
  ·exact .lf _
 ·exact .askD _
 ·exact .askD _
 ·exact .askD _
 ·exact .lf _
def Sn.bf(n)(st)(f)(ds):Sn (qok n st f ds) (bfun st f ds):=by
 unfold qok
 split
 ·split
  ·exact((Sn.seq n st _).bind λxs=>.ys _).eq (bm)
  ·exact .lf _
 ·split
  ·rename_i l;refine((Sn.rd n st l).bind λc=>(Sn.lf _).bind λxs=>.ys _).eq ?_;show _=bList st [.loc l];unfold bList seqAt listAt dkeys dicAt;dsimp only
   cases st[l]? with
   |none=>rfl
   |some c=>cases c<;>rfl
  ·exact .lf _
 ·split
  ·exact((Sn.seq n st _).bind λxs=>.ys _).eq (bm)
  ·exact .lf _
 ·split
  ·rename_i i j;refine((Sn.askB _).bind λk=>.ys _).eq ?_;show Y2 _=Y2 _
   by_cases h:j<i<;>simp[h]
  ·exact .no _
 ·exact .askD _
structure SnR (r:RT) (r':R):Prop where
 rl:r.rl=r'
 ev:∀τ st e,Sn (r.ev τ st e) (r'.ev τ st e)
 tst:∀τ st e,Sn (r.tst τ st e) (r'.tst τ st e)
 ex:∀τ st e,Sn (r.ex τ st e) (r'.ex τ st e)
 call:∀f ds st,Sn (r.call f ds st) (r'.call f ds st)
theorem qq8(h:∀st e,Sn (f st e) (z st e)):∀(es:List E) (st:Yo),Sn (evsT f es st) (evs z es st)
 |[],st=>.ys _
 |e::es,st=>(h st e).bind λp=>(qq8 h es p.2).bind λq=>.ys _
theorem qyy(h:∀τ st d,Sn (f τ st d) (z τ st d)):∀(k i:Nat) (τ:Sl) (st:Yo),Sn (qd2 it f k i τ st) (loop it z k i τ st)
 |0,_,_,_=>.no _
 |k+1,i,τ,st=>by
  unfold loop qd2;refine(Sn.lf _).bind λo=>?_
  cases o with
  |none=>exact .ys _
  |some d=>
   refine(h τ st d).bind λp=>?_;obtain⟨o,s⟩:=p
   cases o with
   |nx q=>exact qyy h k _ _ _
   |ct q=>exact qyy h k _ _ _
   |bk q=>exact .ys _
   |rt v=>exact .ys _
theorem qag(h:∀τ st d,Sn (f τ st d) (z τ st d)):∀(k i:Nat) (q:List D) (τ:Sl) (st:Yo),Sn (qah it f k i q τ st) (loopC it z k i q τ st)
 |0,_,_,_,_=>.no _
 |k+1,i,q,τ,st=>by
  unfold loopC qah;refine(Sn.lf _).bind λo=>?_
  cases o with
  |none=>exact Sn.ite (.no _) (.ys _)
  |some d=>exact Sn.ite (.no _) ((h τ st d).bind λp=>qag h k _ _ _ _)
theorem qen(h:∀τ st s,Sn (f τ st s) (F τ st s)):∀(z:List S) (τ:Sl) (st:Yo),Sn (exsT f z τ st) (exs F z τ st)
 |[],_,_=>.ys _
 |s::z,τ,st=>by
  unfold exs exsT;refine(h τ st s).bind λp=>?_;obtain⟨o,q⟩:=p
  cases o with
  |nx J=>exact qen h z _ _
  |rt _=>exact .ys _
  |bk _=>exact .ys _
  |ct _=>exact .ys _
section
variable (h:SnR r r')
include h
theorem qiw(τ)(st)(e):Sn (srcT n r τ st e) (src r' τ st e):=by
 cases e with
 |rng1 a=>
  refine(h.ev τ st a).bind λp=>?_;obtain⟨d,s⟩:=p
  cases d with
  |int n=>exact Sn.ite (.no _) (.ys _)
  |_=>exact .no _
 |rng2 a b=>exact .no _
 |zip a b=>exact(h.ev τ st a).bind λp=>(h.ev τ _ b).bind λq=>.lf _
 |enu a=>exact(h.ev τ st a).bind λp=>.lf _
 |rev a=>exact(h.ev τ st a).bind λp=>.lf _
 |_=>
  refine(h.ev τ st _).bind λp=>?_;obtain⟨d,s⟩:=p
  cases d with
  |tup n=>exact .ys _
  |str z=>exact .no _
  |_=>exact(Sn.seq n s _).map _
theorem qvq(τ)(st)(e):Sn (qdg r τ st e) (part r' τ st e):=by
 cases e with
 |none=>exact .ys _
 |some e=>
  refine(h.ev τ st e).bind λp=>?_;obtain⟨d,s⟩:=p
  cases d with
  |int n=>exact .ys _
  |_=>exact .no _
theorem qlx(t)(test)(elt)(τ)(st)(d):Sn (turnT r t test elt τ st d) (turnC r' t test elt τ st d):=(Sn.lf _).bind λq=>by
 cases test with
 |none=>exact(h.ev _ _ _).map _
 |some c=>exact(h.tst _ _ _).bind λb=>Sn.ite ((h.ev _ _ _).map _) (.ys _)
omit h in
theorem qhs(p)(k)(st){f:Option D->TM α}{g:Option D->Option α}(q:∀o,Sn (f o) (g o)):Sn ((dgT n p k st).bind f) (match p.1 with
  |.loc l=>(dicAt st l).bind λkvs=>if isKey k then g (dget kvs k) else Y3
  |_=>Y3):=by
 obtain⟨d,s⟩:=p
 cases d with
 |loc l=>
  refine(((Sn.dc n st l).bind λkvs=>Sn.ite (Sn.askQ (dget kvs k)) (.no Y3)).bind q).eq ?_;dsimp only
  cases dicAt st l with
  |none=>rfl
  |some kvs=>
   show Option.bind (if isKey k=Y0 then Y2 (dget kvs k) else Y3) g=if isKey k=Y0 then g (dget kvs k) else Y3
   by_cases e:isKey k=Y0
   ·rw[Xq e,Xq e]; rfl
   ·rw[Z9 e,Z9 e]; rfl
 |_=>exact λt K e=>e.elim
omit h in
theorem qgq(p k)(st){f:Option D->TM α}{g:Option D->Option α}(q:∀o,Sn (f o) (g o)):Sn ((tgT n p k st).bind f) (match p,k with
  |.loc l,.fup ks=>(tdcAt st l).bind λkvs=>g (tget kvs ks)
  |_,_=>Y3):=by
 cases p with
 |loc l=>
  cases k with
  |fup ks=>
   refine(((Sn.tc n st l).bind λkvs=>Sn.askQ (tget kvs ks)).bind q).eq ?_;dsimp only;cases tdcAt st l<;>rfl
  |_=>exact λt K e=>e.elim
 |_=>exact λt K e=>e.elim
theorem qcn(τ)(st)(e):Sn (qco n r τ st e) (stepEv r' τ st e):=by
 cases e with
 |var i=>exact .lf _
 |lit d=>exact .ys _
 |glo x d=>exact .ys _
 |bin F a b=>exact(h.ev τ st a).bind λp=>(h.ev τ _ b).bind λq=>.bin _ _ _ _ _
 |neg a=>exact(h.ev τ st a).bind λp=>.lf _
 |not a=>exact(h.ev τ st a).bind λp=>.lf _
 |cmp F a b=>exact(h.ev τ st a).bind λp=>(h.ev τ _ b).bind λq=>(Sn.cmp _ _ _ _).map _
 |cmp2 F L a b c=>exact(h.ev τ st a).bind λp=>(h.ev τ _ b).bind λq=>(Sn.cmp _ _ _ _).bind λk=>Sn.ite ((h.ev τ _ c).bind λu=>(Sn.cmp _ _ _ _).map _) (.ys _)
 |and a b=>
  refine(h.ev τ st a).bind λp=>?_;obtain⟨d,s⟩:=p
  cases d with
  |bl k=>cases k with
   |true=>exact h.ev τ _ b
   |false=>exact .ys _
  |_=>exact .no _
 |or a b=>
  refine(h.ev τ st a).bind λp=>?_;obtain⟨d,s⟩:=p
  cases d with
  |bl k=>cases k with
   |false=>exact h.ev τ _ b
   |true=>exact .ys _
  |_=>exact .no _
 |ite c a b=>exact(h.tst τ st c).bind λp=>Sn.ite (h.ev τ _ a) (h.ev τ _ b)
 |tup es=>exact(qq8 (h.ev τ) es st).bind λp=>Sn.ite (.no _) (.ys _)
 |lst es=>exact(qq8 (h.ev τ) es st).bind λp=>Sn.ite (.no _) (.ys _)
 |idx a b=>exact(h.ev τ st a).bind λp=>(h.ev τ _ b).bind λq=>(Sn.askI _).map _
 |sli a lo hi=>exact(h.ev τ st a).bind λp=>(qvq h τ _ lo).bind λl=>(qvq h τ _ hi).bind λu=>.lf _
 |call f es=>exact(qq8 (h.ev τ) es st).bind λp=>h.call f _ _
 |bcall f es=>exact(qq8 (h.ev τ) es st).bind λp=>.bf _ _ _ _
 |isi a O m=>exact(h.ev τ st a).bind λp=>(Sn.lf _).map _
 |lenset a=>exact(h.ev τ st a).bind λp=>(Sn.askI _).map _
 |gc a=>exact((h.ev τ st a).bind λp=>Sn.gc st p).eq (bm)
 |meth a m es=>exact(h.ev τ st a).bind λp=>Sn.mt _ _ _ _ ((qq8 (h.ev τ) es _).bind λq=>.meth _ _ _ _ _)
 |dic es=>
  refine(qq8 (h.ev τ) es _).bind λp=>((Sn.wd n p.2 st.length).bind λJ=>Sn.lf _).eq ?_
  cases wdicAt p.2 st.length with
  |none=>rfl
  |some J=>cases J<;>rfl
 |didx a b=>exact(h.ev τ st a).bind λp=>(h.ev τ _ b).bind λq=>qhs p q.1 q.2 λo=>(Sn.lf o).map _
 |din neg a b=>exact(h.ev τ st a).bind λp=>(h.ev τ _ b).bind λq=>qhs q p.1 q.2 λo=>Sn.ys _
 |dgt a b=>
  refine(h.ev τ st a).bind λp=>?_;obtain⟨d,s⟩:=p
  cases d with
  |loc l=>exact(Sn.dc n s l).bind λ_=>(h.ev τ _ b).bind λq=>qhs (.loc l,s) q.1 q.2 λo=>Sn.ys _
  |_=>exact .no _
 |ttup es=>exact(qq8 (h.ev τ) es st).bind λp=>(Sn.lf _).bind λks=>Sn.ite (.no _) (.ys _)
 |tsli a lo hi=>exact(h.ev τ st a).bind λp=>(qvq h τ _ lo).bind λl=>(qvq h τ _ hi).bind λu=>.lf _
 |unt a=>exact(h.ev τ st a).bind λp=>.lf _
 |tdn=>exact .ys _
 |tdx a b=>exact(h.ev τ st a).bind λp=>(h.ev τ _ b).bind λq=>qgq p.1 q.1 q.2 λo=>(Sn.lf o).map _
 |tdi neg a b=>
  refine(h.ev τ st a).bind λp=>(h.ev τ _ b).bind λq=>(qgq q.1 p.1 q.2 λo=>Sn.ys _).eq ?_
  cases q.1 with
  |loc l=>
   cases p.1 with
   |fup k=>dsimp only; cases tdcAt q.2 l<;>rfl
   |_=>rfl
  |_=>cases p.1<;>rfl
 |tdg a b c=>
  refine(h.ev τ st a).bind λp=>?_;obtain⟨d,s⟩:=p
  cases d with
  |loc l=>
   refine(Sn.tc n s l).bind λ_=>(h.ev τ _ b).bind λq=>(h.ev τ _ c).bind λu=>(qgq (.loc l) q.1 u.2 λo=>Sn.ys _).eq ?_
   cases q.1 with
   |fup k=>dsimp only; cases tdcAt u.2 l<;>rfl
   |_=>rfl
  |_=>exact .no _
 |cmpd t a z elt sr=>
  show Sn (askE (stepEv r.rl τ st (.cmpd t a z elt sr)) _) _;rw[h.rl];exact Sn.askE (.no _)
 |gidx x ks ds b=>exact(h.ev τ st b).bind λp=>.lf _
 |gin neg x ks b=>exact(h.ev τ st b).bind λp=>.lf _
 |comp t it z elt sr=>
  show Sn (askE (stepEv r.rl τ st (.comp t it z elt sr)) _) _;rw[h.rl];exact Sn.askE ((qiw h τ st it).bind λp=>(qag (qlx h t z elt) _ _ _ _ _).map _)
 |attr C a f=>exact(h.ev τ st a).bind λp=>(Sn.ob _ _ _ _).bind λfs=>.lf _
 |mcall C f m a es=>exact(h.ev τ st a).bind λp=>(Sn.ob _ _ _ _).bind λfs=>Sn.ite (.no _) ((qq8 (h.ev τ) es _).bind λq=>h.call f _ _)
 |new C f es=>exact(qq8 (h.ev τ) es st).bind λp=>(h.call f _ _).bind λq=>Sn.ite (.ys _) (.no _)
 |_=>exact .no _
theorem qbj(τ)(st)(e):Sn (qy9 n r τ st e) (stepTst r' τ st e):=by
 cases e with
 |not a=>exact(h.tst τ st a).map _
 |and a b=>exact(h.tst τ st a).bind λp=>Sn.ite (h.tst τ _ b) (.ys _)
 |or a b=>exact(h.tst τ st a).bind λp=>Sn.ite (.ys _) (h.tst τ _ b)
 |ite _ _ _=>exact .no _
 |din neg a b=>
  refine((h.ev τ st a).bind λp=>(h.ev τ _ b).bind λq=>qhs q p.1 q.2 λo=>Sn.ys _).eq ?_;show _=(dinR r' τ st neg a b).bind _;unfold dinR;simp only[Qjs];refine congrArg _ (funext λp=>congrArg _ (funext λq=>?_))
  cases q.1 with
  |loc l=>
   dsimp only
   cases dicAt q.2 l with
   |none=>rfl
   |some kvs=>
    simp only[oBs]
    by_cases e:isKey p.1=Y0
    ·rw[Xq e,Xq e]; rfl
    ·rw[Z9 e,Z9 e]; rfl
  |_=>rfl
 |tdi neg a b=>
  refine((h.ev τ st a).bind λp=>(h.ev τ _ b).bind λq=>qgq q.1 p.1 q.2 λo=>Sn.ys _).eq ?_;show _=(tdiR r' τ st neg a b).bind _;unfold tdiR;simp only[Qjs];refine congrArg _ (funext λp=>congrArg _ (funext λq=>?_))
  cases q.1 with
  |loc l=>
   cases p.1 with
   |fup k=>dsimp only; cases tdcAt q.2 l<;>rfl
   |_=>rfl
  |_=>cases p.1<;>rfl
 |gin neg x ks b=>
  refine((h.ev τ st b).bind λp=>Sn.lf _).eq ?_;show _=(ginR r' τ st neg ks b).bind _;unfold ginR;simp only[Qjs];refine congrArg _ (funext λp=>?_);cases p.1<;>rfl
 |cmp F a b=>exact(h.ev τ st a).bind λp=>(h.ev τ _ b).bind λq=>(Sn.cmp _ _ _ _).map _
 |cmp2 F z a b c=>exact(h.ev τ st a).bind λp=>(h.ev τ _ b).bind λq=>(Sn.cmp _ _ _ _).bind λk=>Sn.ite ((h.ev τ _ c).bind λu=>(Sn.cmp _ _ _ _).map _) (.ys _)
 |_=>exact(h.ev τ st _).bind λp=>(Sn.truth _ _ _).map _
theorem qv1(τ)(st)(s):Sn (qk7 n r τ st s) (stepEx r' τ st s):=by
 cases s with
 |set t e=>exact(h.ev τ st e).bind λp=>(Sn.lf _).map _
 |dset a i e=>
  refine(h.ev τ st e).bind λp=>(h.ev τ _ a).bind λq=>(h.ev τ _ i).bind λu=>?_;obtain⟨d,s⟩:=q
  cases d with
  |loc l=>
   refine((Sn.wd n u.2 l).bind λkvs=>Sn.ite (Sn.cond (decide (kvs.length<lim)) (Out.nx τ,u.2.set l (.dic Y0 (dput kvs u.1 p.1)))) (.no Y3)).eq ?_;refine congrArg _ (funext λkvs=>?_)
   cases isKey u.1 with
   |true=>rfl
   |false=>rfl
  |_=>exact .no _
 |tds a i e=>
  refine(h.ev τ st e).bind λp=>(h.ev τ _ a).bind λq=>(h.ev τ _ i).bind λu=>?_;obtain⟨d,s⟩:=q;obtain⟨k,s'⟩:=u
  cases d with
  |loc l=>
   cases k with
   |fup k=>
    refine((Sn.wt n s' l).bind λkvs=>Sn.cond (decide (kvs.length<lim)) (Out.nx τ,s'.set l (.tdc Y0 (tput kvs k p.1)))).eq ?_;refine congrArg _ (funext λkvs=>?_)
    by_cases z:kvs.length<lim
    ·rw[Z7 z,Xq z]; rfl
    ·rw[Z8 z,Z9 z]; rfl
   |_=>exact .no _
  |_=>exact .no _
 |setA C a f e=>
  refine(h.ev τ st e).bind λp=>(h.ev τ _ a).bind λq=>(Sn.ob n _ _ _).bind λfs=>?_;obtain⟨d,s⟩:=q
  cases d with
  |loc l=>exact Sn.ite (.ys _) (.no _)
  |_=>exact .no _
 |expr e=>exact(h.ev τ st e).map _
 |ret e=>exact(h.ev τ st e).map _
 |ite c a b=>exact(h.tst τ st c).bind λp=>Sn.ite (h.ex τ _ a) (h.ex τ _ b)
 |forr t it body=>
  show Sn (askS (stepEx r.rl τ st (.forr t it body)) _) _;rw[h.rl];exact Sn.askS ((qiw h τ st it).bind λp=>qyy (λτ st d=>(Sn.lf _).bind λF=>h.ex F st body) _ _ _ _)
 |ford t a body=>
  show Sn (askS (stepEx r.rl τ st (.ford t a body)) _) _;rw[h.rl];exact Sn.askS (.no _)
 |_=>exact .no _
end
def ql3(c):Le (RL c) λm=>runK c m:=
 ⟨λτ st e x h=>by obtain⟨n,e⟩:=lim1_is h; exact⟨n,λm q=>ev_up e q⟩,λτ st e x h=>by obtain⟨n,e⟩:=lim1_is h; exact⟨n,λm q=>qiz e q⟩,λτ st e x h=>by obtain⟨n,e⟩:=lim1_is h; exact⟨n,λm q=>ex_up e q⟩,λf ds st x h=>⟨0,λm _=>by show(runK c m).call f ds st=_; rw[runK_call]; exact h⟩⟩
def qqo(c)(τ)(st)(e)(x)(h:stepEv (RL c) τ st e=Y2 x):(RL c).ev τ st e=Y2 x:=by
 obtain⟨n,hn⟩:=qjf (ql3 c) τ st e x h;exact qya (n:=n+1) (λ_ _ _ h k=>ev_up h k) (hn n (Qqj _))
def rl_tst(c)(τ)(st)(e)(x)(h:stepTst (RL c) τ st e=Y2 x):(RL c).tst τ st e=Y2 x:=by
 obtain⟨n,hn⟩:=qx5 (ql3 c) τ st e x h;exact qya (n:=n+1) (λ_ _ _ h k=>qiz h k) (hn n (Qqj _))
def rl_ex(c)(τ)(st)(e)(x)(h:exs (stepEx (RL c)) e τ st=Y2 x):(RL c).ex τ st e=Y2 x:=by
 obtain⟨n,hn⟩:=qve (qje (ql3 c)) e τ st x h;exact qya (n:=n+1) (λ_ _ _ h k=>ex_up h k) (hn n (Qqj _))
theorem qji(h:∀f ds st,Sn (c f ds st) (c' f ds st)):∀k,SnR (runT n (RL c') c k) (RL c')
 |0=>⟨rfl,λ_ _ _=>.no _,λ_ _ _=>.no _,λ_ _ _=>.no _,h⟩
 |k+1=>⟨rfl,λτ st e=>(qcn (qji h k) τ st e).up (qqo c' τ st e),λτ st e=>(qbj (qji h k) τ st e).up (rl_tst c' τ st e),λτ st q=>(qen (qv1 (qji h k)) q τ st).up (rl_ex c' τ st q),h⟩
theorem qx3:∀(d f:Nat) (ds:List D) (st:Yo),Sn (qvl fns n O k d f ds st) (callD fns (k+d) f ds st)
 |0,f,ds,st=>.no _
 |d+1,f,ds,st=>by
  unfold qvl
  by_cases hO:O.contains f=Y0
  ·rw[Xq hO];exact .askC _
  ·rw[Z9 hO];show Sn _ (stepCall fns (RL (callD fns (k+d))) f ds st);unfold stepCall
   cases hf:fns[f]? with
   |none=>exact .no _
   |some F=>
    refine Sn.ite (((qji (λf ds st=>qx3 d f ds st) 40).ex _ _ _).bind λp=>?_) (.no _);obtain⟨o,s⟩:=p
    cases o with
    |rt _=>exact .ys _
    |nx _=>exact .ys _
    |bk _=>exact .no _
    |ct _=>exact .no _
def qhl(n)(O)(d)(P:Prop->Prop)(t)(z:P (r=r))(h:exsT (qk7 n (runT n (RL (callD fns (k+d))) (qvl fns n O k d) 40)) q τ st t (λa _=>a=r)=P (r=r):=by kernel_rfl):exs (stepEx (RL (callD fns (k+d)))) q τ st=Y2 r:=by
 rw[<- h]at z;obtain⟨a,F,e,rfl⟩:=qen (qv1 (qji (λf ds st=>qx3 d f ds st) 40)) q τ st t _ z;exact e
def qzc(n)(O)(d)(P:Prop->Prop)(t)(z:P (r=r))(h:exsT (qk7 n (runT n (RL (callD fns (k+d))) (qvl fns n O k d) 40)) q τ st t (λa _=>a=r)=P (r=r):=by kernel_rfl):(RL (callD fns (k+d))).ex τ st q=Y2 r:=rl_ex _ _ _ _ _ (qhl n O d P t z h)
def qzf(n)(O)(d)(P:Prop->Prop)(t)(q:P (r=r))(h:(runT n (RL (callD fns (k+d))) (qvl fns n O k d) 40).ev τ st e t (λa _=>a=r)=P (r=r):=by kernel_rfl):(RL (callD fns (k+d))).ev τ st e=Y2 r:=by
 rw[<- h]at q;obtain⟨a,z,e,rfl⟩:=(qji (λf ds st=>qx3 d f ds st) 40).ev τ st e t _ q;exact e
def qzi(n)(O)(d)(P:Prop->Prop)(t)(q:P (r=r))(h:(runT n (RL (callD fns (k+d))) (qvl fns n O k d) 40).tst τ st e t (λa _=>a=r)=P (r=r):=by kernel_rfl):(RL (callD fns (k+d))).tst τ st e=Y2 r:=by
 rw[<- h]at q;obtain⟨a,z,e,rfl⟩:=(qji (λf ds st=>qx3 d f ds st) 40).tst τ st e t _ q;exact e
def qzz(n)(O)(d)(P:Prop->Prop)(t)(q:P (r=r))(h:qvl fns n O k d f ds st t (λa _=>a=r)=P (r=r):=by kernel_rfl):callD fns (k+d) f ds st=Y2 r:=by
 rw[<- h]at q;obtain⟨a,z,e,rfl⟩:=qx3 d f ds st t _ q;exact e
def qvm(n)(O)(d)(z)(P:Prop->Prop)(t)(q:P (z=r))(h:qvl fns n O k d f ds st t (λa _=>a=r)=P (z=r):=by kernel_rfl):callD fns (k+d) f ds st=Y2 r:=by
 rw[<- h]at q;obtain⟨a,F,e,rfl⟩:=qx3 d f ds st t _ q;exact e
end M
end
section
namespace MS
open PySem PySem.Spec PyProof.Rows L2
def qjq:fillsNumberSlot (.type "tuple") "mul" = pure false:=
 PySem.fillsNumberSlot_seq F.slot_tuple_mul.lookup (by decide +kernel) F.slot_tuple_rmul.lookup (by decide +kernel)
def qv7:seqRepeat? (.type "tuple")=pure (Y2 (.builtin "tuple.__mul__")):=by
 unfold seqRepeat?;rw[PySem.seqSlot_of (name:="__mul__") F.slot_tuple_mul.lookup (by decide +kernel),PySem.seqSlot_of (name:="__rmul__") F.slot_tuple_rmul.lookup (by decide +kernel)]
 rfl
def qky(a)(t)(l)(q)(n)(z)(sl):
  Meets (Q0.«int.__rmul__» ⟨[.int a t,.ref l],[]⟩) (λ_ R s=>s.heap.get? l=Y2 { cls:=.type "tuple",dict:=z,data:=.seq q n,slots:=sl }/\R (.ok (.ret Value.notImplemented)) s):=
 .of_wp λprog w A R s h=>by obtain⟨F,g,d,tk,os⟩:=s; obtain⟨J,h⟩:=h; wp_walk; exact⟨_,rfl,h⟩
def qkj(l)(q)(n)(F)(sl)(x)(u)(z:¬ (decide (x < -(2 ^ 63))||decide (x >= 2 ^ 63))=Y0)(O:(q.isEmpty||x==1)=Y0):
  Meets (Q0.«tuple.__mul__» ⟨[.ref l,.int x u],[]⟩) (λ_ R s=>s.heap.get? l=Y2 { cls:=.type "tuple",dict:=F,data:=.seq q n,slots:=sl }/\R (.ok (.ret (Value.ref l))) s):=
 .of_wp λprog w A R s h=>by
  obtain⟨J,g,d,tk,os⟩:=s; obtain⟨L,h⟩:=h
  wp_walk
  simp only[Z9 z]
  wp_walk
  exact⟨_,rfl,h⟩
def qkk(l)(q)(n)(F)(sl)(x)(u)(z:¬ (decide (x < -(2 ^ 63))||decide (x >= 2 ^ 63))=Y0)(U:¬ (q.isEmpty||x==1)=Y0)(O:(decide (x<=0)||q.isEmpty)=Y0):
  Meets (Q0.«tuple.__mul__» ⟨[.ref l,.int x u],[]⟩) (λ_ R s=>s.heap.get? l=Y2 { cls:=.type "tuple",dict:=F,data:=.seq q n,slots:=sl }/\R (.ok (.ret (Value.ref s.heap.objs.size))) { s with heap:=s.heap.push { cls:=.type "tuple",data:=.seq #[] } }):=
 .of_wp λprog w A R s h=>by
  obtain⟨J,g,d,tk,os⟩:=s; obtain⟨L,h⟩:=h
  wp_walk
  simp only[Z9 z]
  wp_walk
  exact⟨_,rfl,h⟩
def qkv(l)(q)(n)(L)(sl)(x)(u)(J:¬ (decide (x < -(2 ^ 63))||decide (x >= 2 ^ 63))=Y0)(h1:¬ (q.isEmpty||x==1)=Y0)(h2:¬ (decide (x<=0)||q.isEmpty)=Y0)(F:¬ ((q.size:Int)*x > (2 ^ 63 - 1) / 8))(Z:¬ Builtin.Tuple.tupleTooMany ((q.size:Int)*x)=Y0)(Y:(List.foldl (λz x2=>z++x2) #[] (List.replicate x.toNat q)).size<=sizeLine):
  Meets (Q0.«tuple.__mul__» ⟨[.ref l,.int x u],[]⟩) (λ_ R s=>s.heap.get? l=Y2 { cls:=.type "tuple",dict:=L,data:=.seq q n,slots:=sl }/\R (.ok (.ret (Value.ref s.heap.objs.size))) { s with heap:=s.heap.push { cls:=.type "tuple",data:=.seq (List.foldl (λz x2=>z++x2) #[] (List.replicate x.toNat q)) } }):=
 .of_wp λprog w A R s h=>by
  obtain⟨O,g,d,tk,os⟩:=s; obtain⟨U,h⟩:=h
  wp_walk
  simp only[Z9 J]
  wp_walk
  simp only[Z9 F]
  wp_walk
  exact⟨_,rfl,h⟩
noncomputable def rRepT(K:Qqq):R2:=λx y H Q=>∃l k xs,x=.ref l/\y=.int k/\SqT K H l xs/\-(2 ^ 62)<=k/\k<2 ^ 62/\xs.length*k.toNat<=sizeLine/\
 (∀ys,ys=(List.replicate k.toNat xs).flatten->(ys=xs->Q (.ref l) H)/\∀p,H p=Y3->Q (.ref p) (upd H p (.tup ys)))
def qmt:OpR X (Q6 .Mult) (rRepT X.K):=by
 intro pins s σ H x y v u Q I rx ry h;obtain⟨l,k,xs,rfl,rfl,hq,k1,k2,hz,q⟩:=h;cases rx;obtain⟨t,rfl⟩:=ry;obtain⟨J,r,hp,a1⟩:=I.tuple hq;obtain⟨⟨cls,U,a0,sl⟩,L,hc,n,hd⟩:=id hp;simp only at hc hd;subst hc hd;have hl:=r.length;obtain⟨qs,qn⟩:=q _ rfl;have f0:=λm=>by
  have:=foldl_rep J m [];rw[List.nil_append]at this;exact this
 have h0:¬ (decide (k < -(2 ^ 63))||decide (k >= 2 ^ 63))=true:=by simp; omega
 refine wpAny_binaryOp_repeat_ref (by decide) ⟨_,L,rfl⟩ (λs'=>typeIs_int s' k t) qjq F.fills_int_mul F.slot_int_rmul qv7 F.slot_int_index.lookup
  (Q3 F.slot_int_rmul (typeIs_int s k t) F.entry_int_rmul (F.args_int_rmul_2 _ _) (qky k t l J.toArray n U sl) ⟨L,rfl,⟨_,L,rfl⟩,?_⟩)
 by_cases h1:(J.toArray.isEmpty||k==1)=Y0
 ·refine Q3 F.slot_tuple_mul ⟨_,L,rfl⟩ F.entry_tuple_mul (F.args_tuple_mul_2 _ _) (qkj l J.toArray n U sl k t h0 h1) ⟨L,⟨.ref l,H,I,rfl,qs ?_⟩⟩;rw[Qxa]at h1;rcases h1 with z|z
  ·have e1:J=[]:=by simpa using z
   have e2:=Qz1.mp (by rw[hl,e1]; rfl);rw[e2];simp
  ·have e1:k=1:=by simpa using z
   rw[e1];simp
 ·have Z:J≠[]:=λz=>h1 (by rw[z]; rfl)
  by_cases h2:(decide (k<=0)||J.toArray.isEmpty)=Y0
  ·refine Q3 F.slot_tuple_mul ⟨_,L,rfl⟩ F.entry_tuple_mul (F.args_tuple_mul_2 _ _) (qkk l J.toArray n U sl k t h0 h1 h2) ⟨L,?_⟩;have hk:k<=0:=by
    rw[Qxa]at h2;rcases h2 with z|z
    ·simpa using z
    ·exact absurd (by simpa using z) Z
   have e0:k.toNat=0:=by omega
   refine⟨.ref _,_,I.laid (λ_ _ e=>Qqx _ e) (Qqj _) ?_,rfl,qn _ I.fresh⟩;rw[e0];exact⟨Qzq _,[],.nil,IsTup.new s.heap _⟩
  ·have hk:0<k:=by
    simp at h2; omega
   have O:((J.toArray.size:Nat):Int)*k=((J.length*k.toNat:Nat):Int):=by
    rw[Qqd,Int.natCast_mul]
    congr 1
    omega
   have Y:J.length*k.toNat<=sizeLine:=by rw[<- hl]; exact hz
   have a2:(sizeLine:Nat)<2 ^ 60:=by rw[Q5]; decide
   refine Q3 F.slot_tuple_mul ⟨_,L,rfl⟩ F.entry_tuple_mul (F.args_tuple_mul_2 _ _) (qkv l J.toArray n U sl k t h0 h1 h2 ?_ ?_ ?_) ⟨L,?_⟩
   ·rw[O]; omega
   ·unfold Builtin.Tuple.tupleTooMany;rw[O,decide_eq_true_eq];omega
   ·rw[f0,Qqd,len_rep,Nat.mul_comm]; exact Y
   ·refine⟨.ref _,_,I.laid (λ_ _ e=>Qqx _ e) (Qqj _) ?_,rfl,qn _ I.fresh⟩;rw[f0];exact⟨by rw[len_rep,Nat.mul_comm]; exact hz,_,r.rep k.toNat,IsTup.new s.heap _⟩
section
def qxj{lo:Option Int}(F:IsTup s.heap t q)(hs:s.heap.IsSliceOf sl vl Y .none)(pl:IsPart vl lo)(pu:IsPart Y J)(Z:HT.sIx q.size 0 lo=0/\HT.sIx q.size q.size J=q.size)(h:Q (.ref t) s):wpAny (model prog w) A (Za (.ref t) (.ref sl)) Q E s:=by
 obtain⟨os,L,O,a0⟩:=id hs;have U:s.TypeIs (.ref sl) "slice":=⟨os,L,O⟩
 unfold Za
 try with_reducible refine Q2 ?_
 first|refine Qq (Qx ?_)|skip
 refine Qq (wpAny_sequenceKey F.typeIs (by decide) ?_)
 refine Qq (Qy F.typeIs PyProof.Rows.slot_tuple_getitem
  (Qc PyProof.Rows.slot_tuple_getitem F.typeIs entry_tuple_getitem ?_ (args_tuple_getitem _ _)))
 show wpAny _ _ (Builtin.Tuple.tupleItemsOf (.ref t) >>= _) _ _ s;refine Qq (tupleItemsOf_ F ?_);refine Qq (wpAny_typeOf U ?_);rw[Xq (by decide)];refine Qq (HT.sliceApplied_gen hs pl pu ?_);have z:(((HT.sIx q.size 0 lo:Nat):Int)==0&&(1:Int)==1&&(HT.sIx q.size q.size J - HT.sIx q.size 0 lo)==q.size)=true:=by
  rw[Z.1,Z.2];simp
 show wpAny _ _ (if (((HT.sIx q.size 0 lo:Nat):Int)==0&&(1:Int)==1&&(HT.sIx q.size q.size J - HT.sIx q.size 0 lo)==q.size)=Y0 then _ else _) _ _ s;rw[Xq z];refine Qq ?_;unfold Builtin.Tuple.tupleIsExact;refine Qq (wpAny_typeOf F.typeIs (Qx ?_));rw[Xq (by decide)]
 first
  |exact Qq (Zw (Qx ⟨_,rfl,Qx h⟩))
  |exact Qq (Zw (Qq (Qx (Qx ⟨_,rfl,Qx h⟩))))
  |exact Qq (Qq (Zw (Qx (Qx ⟨_,rfl,Qx h⟩))))
end
end MS
end
section
namespace MS
open PySem PySem.Spec PyProof.Rows L2
open M (D Yc Yo Sl)
def nn{α:Type}{a:α}{P:Prop}(h:Y3=Y2 a):P:=by cases h
def SqF(K:Qqq)(H:Hp)(a:Ya)(xs:List V):Prop:=
 (∃o,H a=Y2 (.frz o (.lst xs)))\/∃(o:Obj) (its:Array Yv) (n:Nat),K.lookup a=Y2 o/\o.cls=.type "list"/\o.dict=Y3/\o.data=.seq its n/\its.size<=sizeLine/\Vals xs its.toList
mutual
noncomputable def IsD(K:Qqq)(m:List Ya)(H:Hp):D->V->Prop
 |.non,v=>v=.non
 |.bl b,v=>v=.bl b
 |.int i,v=>v=.int i
 |.str s,v=>v=.str s
 |.tup ds,v=>∃a xs,v=.ref a/\SqT K H a xs/\IsDs K m H ds xs
 |.lst ds,v=>∃a xs,v=.ref a/\SqF K H a xs/\IsDs K m H ds xs
 |.loc l,v=>∃a,m[l]?=Y2 a/\v=.ref a
 |.fup ks,v=>∃a,v=.ref a/\H a=Y2 (.tup (ks.map .int))
noncomputable def IsDs(K:Qqq)(m:List Ya)(H:Hp):List D->List V->Prop
 |[],xs=>xs=[]
 |d::ds,xs=>∃x r,xs=x::r/\IsD K m H d x/\IsDs K m H ds r
end
def Sub(m m':List Ya):Prop:=∀(l:Nat) (a:Ya),m[l]?=Y2 a->m'[l]?=Y2 a
noncomputable def Sq:HO->Prop
 |.lst _=>True
 |.tup _=>True
 |_=>False
structure Tr (H H':Hp):Prop where
 tup:∀b xs,H b=Y2 (.tup xs)->H' b=Y2 (.tup xs)
 frz:∀b o u,H b=Y2 (.frz o u)->H' b=Y2 (.frz o u)
structure Tw (H H':Hp):Prop where
 tup:∀b xs,H b=Y2 (.tup xs)->H' b=Y2 (.tup xs)
 frz:∀b o u,Sq u->H b=Y2 (.frz o u)->H' b=Y2 (.frz o u)
def Tr.w(t:Tr H H'):Tw H H':=⟨t.tup,λb o u _=>t.frz b o u⟩
def Sub.refl(m):Sub m m:=λ_ _ h=>h
def Sub.trans(a:Sub m q)(b:Sub q m2):Sub m m2:=λl x h=>b l x (a l x h)
def Sub.app(m r):Sub m (m++r):=λl a h=>by
 rw[Qq2 (Qqk.mp h).1]; exact h
def Tr.refl(H):Tr H H:=⟨λ_ _ h=>h,λ_ _ _ h=>h⟩
def Tr.trans(a:Tr H q)(b:Tr q H2):Tr H H2:=⟨λc xs h=>b.tup c xs (a.tup c xs h),λc o u h=>b.frz c o u (a.frz c o u h)⟩
def Tr.of_same(h:Same H H'):Tr H H':=⟨λb xs e=>h b _ e,λb o u e=>h b _ e⟩
def qzw(q:H p=Y3):Same H (upd H p o):=λb u e=>by
 rw[qzq (qzd e q)]; exact e
def Tr.put(q:H p=Y2 (.lst xs)):Tr H (upd H p (.lst ys)):=
 ⟨λb zs e=>by rw[qzq (qzo e q (by intro z; cases z))]; exact e,λb o u e=>by rw[qzq (qzo e q (by intro z; cases z))]; exact e⟩
def Tw.sqT{K:Qqq}(t:Tw H H')(h:SqT K H a xs):SqT K H' a xs:=by
 rcases h with (h|⟨o,h⟩)|h
 ·exact .inl (.inl (t.tup _ _ h))
 ·exact .inl (.inr ⟨o,t.frz _ _ _ trivial h⟩)
 ·exact .inr h
def SqF.sq{K:Qqq}(h:SqF K H a xs):SqL K H a xs:=by
 rcases h with h|h
 ·exact .inl (.inr h)
 ·exact .inr h
def Tw.sqF{K:Qqq}(t:Tw H H')(h:SqF K H a xs):SqF K H' a xs:=by
 rcases h with⟨o,h⟩|h
 ·exact .inl ⟨o,t.frz _ _ _ trivial h⟩
 ·exact .inr h
theorem Tr.sqT{K:Qqq}(t:Tr H H')(h:SqT K H a xs):SqT K H' a xs:=t.w.sqT h
theorem Tr.sqF{K:Qqq}(t:Tr H H')(h:SqF K H a xs):SqF K H' a xs:=t.w.sqF h
section
variable {K:Qqq}{m m':List Ya}{H H':Hp}
mutual
theorem qqz(F:Sub m m')(z:Tw H H'):∀(d:D) (v:V),IsD K m H d v->IsD K m' H' d v
 |.non,_,h=>h
 |.bl _,_,h=>h
 |.int _,_,h=>h
 |.str _,_,h=>h
 |.tup ds,_,h=>by
  unfold IsD at h ⊢;obtain⟨a,xs,e,q,r⟩:=h;exact⟨a,xs,e,z.sqT q,qz0 F z ds xs r⟩
 |.lst ds,_,h=>by
  unfold IsD at h ⊢;obtain⟨a,xs,e,q,r⟩:=h;exact⟨a,xs,e,z.sqF q,qz0 F z ds xs r⟩
 |.loc l,_,h=>by
  unfold IsD at h ⊢;obtain⟨a,e,q⟩:=h;exact⟨a,F l a e,q⟩
 |.fup ks,_,h=>by
  unfold IsD at h ⊢;obtain⟨a,e,q⟩:=h;exact⟨a,e,z.tup _ _ q⟩
theorem qz0(F:Sub m m')(z:Tw H H'):∀(ds:List D) (xs:List V),IsDs K m H ds xs->IsDs K m' H' ds xs
 |[],_,h=>h
 |d::ds,_,h=>by
  unfold IsDs at h ⊢;obtain⟨x,r,e,q,t⟩:=h;exact⟨x,r,e,qqz F z d x q,qz0 F z ds r t⟩
end
def qzv(z:Sub m m')(q:Tr H H')(d)(v)(h:IsD K m H d v):IsD K m' H' d v:=qqz z q.w d v h
def qzb(z:Sub m m')(q:Tr H H')(ds)(xs)(h:IsDs K m H ds xs):IsDs K m' H' ds xs:=qz0 z q.w ds xs h
theorem IsD.int(h:IsD K m H (.int i) v):v=.int i:=by unfold IsD at h; exact h
theorem IsD.bl(h:IsD K m H (.bl i) v):v=.bl i:=by unfold IsD at h; exact h
theorem IsD.str(h:IsD K m H (.str i) v):v=.str i:=by unfold IsD at h; exact h
theorem IsD.non(h:IsD K m H .non v):v=.non:=by unfold IsD at h; exact h
theorem IsD.tup(h:IsD K m H (.tup ds) v):∃a xs,v=.ref a/\SqT K H a xs/\IsDs K m H ds xs:=by unfold IsD at h; exact h
theorem IsD.fup(h:IsD K m H (.fup q) v):∃a,v=.ref a/\H a=Y2 (.tup (q.map .int)):=by unfold IsD at h; exact h
theorem IsD.lst(h:IsD K m H (.lst ds) v):∃a xs,v=.ref a/\SqF K H a xs/\IsDs K m H ds xs:=by unfold IsD at h; exact h
theorem IsD.loc(h:IsD K m H (.loc l) v):∃a,m[l]?=Y2 a/\v=.ref a:=by unfold IsD at h; exact h
def mkInt(i):IsD K m H (.int i) (.int i):=by unfold IsD; rfl
def mkBl(i):IsD K m H (.bl i) (.bl i):=by unfold IsD; rfl
def mkStr(i):IsD K m H (.str i) (.str i):=by unfold IsD; rfl
def qvj:IsD K m H .non .non:=by unfold IsD; rfl
def qq3(h:SqT K H a xs)(q:IsDs K m H ds xs):IsD K m H (.tup ds) (.ref a):=by unfold IsD; exact⟨a,xs,rfl,h,q⟩
def qbi(h:SqF K H a xs)(q:IsDs K m H ds xs):IsD K m H (.lst ds) (.ref a):=by unfold IsD; exact⟨a,xs,rfl,h,q⟩
def qbl(h:H a=Y2 (.tup (q.map .int))):IsD K m H (.fup q) (.ref a):=by unfold IsD; exact⟨a,rfl,h⟩
def qhv(h:m[l]?=Y2 a):IsD K m H (.loc l) (.ref a):=by unfold IsD; exact⟨a,h,rfl⟩
def IsDs.nil(h:IsDs K m H [] xs):xs=[]:=by unfold IsDs at h; exact h
def IsDs.cons(h:IsDs K m H (d::ds) xs):∃x r,xs=x::r/\IsD K m H d x/\IsDs K m H ds r:=by unfold IsDs at h; exact h
def qqx:IsDs K m H [] []:=by unfold IsDs; rfl
def qzm(h:IsD K m H d x)(t:IsDs K m H ds r):IsDs K m H (d::ds) (x::r):=by unfold IsDs; exact⟨x,r,rfl,h,t⟩
def IsDs.one(h:IsDs K m H [d] xs):∃x,xs=[x]/\IsD K m H d x:=by
 obtain⟨x,r,rfl,q,t⟩:=h.cons;rw[t.nil];exact⟨x,rfl,q⟩
def IsDs.two(h:IsDs K m H [d,e] xs):∃x y,xs=[x,y]/\IsD K m H d x/\IsD K m H e y:=by
 obtain⟨x,r,rfl,q,t⟩:=h.cons;obtain⟨y,rfl,z⟩:=t.one;exact⟨x,y,rfl,q,z⟩
theorem IsDs.length:∀{ds}{xs},IsDs K m H ds xs->ds.length=xs.length
 |[],_,h=>by rw[h.nil]; rfl
 |_::_,_,h=>by
  obtain⟨x,r,rfl,_,t⟩:=h.cons;rw[Qqg,Qqg,t.length]
theorem IsDs.get:∀{ds:List D}{xs:List V}{i:Nat}{d:D},IsDs K m H ds xs->ds[i]?=Y2 d->∃x,xs[i]?=Y2 x/\IsD K m H d x
 |[],_,_,_,_,e=>by simp at e
 |d::ds,_,0,d',h,e=>by
  obtain⟨x,r,rfl,q,_⟩:=h.cons;have J:d=d':=by simpa using e
  subst J;exact⟨x,rfl,q⟩
 |d::ds,_,i+1,d',h,e=>by
  obtain⟨x,r,rfl,_,t⟩:=h.cons;obtain⟨y,F,z⟩:=t.get (by simpa using e);exact⟨y,by simpa using F,z⟩
theorem IsDs.append:∀{ds es}{xs ys},IsDs K m H ds xs->IsDs K m H es ys->IsDs K m H (ds++es) (xs++ys)
 |[],_,_,_,h,q=>by rw[h.nil]; exact q
 |_::_,_,_,_,h,q=>by
  obtain⟨x,r,rfl,a,t⟩:=h.cons;exact qzm a (t.append q)
end
noncomputable def keyOf:D->Option Key
 |.int i=>Y2 (.inl i)
 |.str z=>Y2 (.inr z)
 |_=>Y3
noncomputable def IsKV(K:Qqq)(m:List Ya)(H:Hp):List (D×D)->List (Key×V)->Prop
 |[],xs=>xs=[]
 |p::r,xs=>∃k v xr,xs=(k,v)::xr/\keyOf p.1=Y2 k/\IsD K m H p.2 v/\IsKV K m H r xr
theorem qqb{K:Qqq}(J:Sub m z)(F:Tw H H'):∀(kvs:List (D×D)) (xs:List (Key×V)),IsKV K m H kvs xs->IsKV K z H' kvs xs
 |[],_,h=>h
 |p::r,_,⟨k,v,q,e,U,L,O⟩=>⟨k,v,q,e,U,qqz J F _ _ L,qqb J F r q O⟩
def qj1{K:Qqq}(F:Sub m q)(z:Tr H H')(kvs)(xs)(h:IsKV K m H kvs xs):IsKV K q H' kvs xs:=qqb F z.w kvs xs h
theorem IsKV.length{K:Qqq}:∀{kvs}{xs},IsKV K m H kvs xs->kvs.length=xs.length
 |[],_,h=>by rw[show _=[] from h]; rfl
 |p::r,_,⟨k,v,z,e,_,_,q⟩=>by rw[e,Qqg,Qqg,q.length]
def qep(F:keyOf a=Y2 k)(q:keyOf b=Y2 j):M.eqT a b=decide (k=j):=by
 cases a with
 |int i=>
  cases F
  cases b with
  |int J=>cases q; rw[M.eqT]; by_cases h:i=J<;>simp[h]
  |str z=>cases q; simp[M.eqT]
  |_=>exact nn q
 |str z=>
  cases F
  cases b with
  |int J=>cases q; simp[M.eqT]
  |str L=>cases q; rw[M.eqT]; by_cases h:z=L<;>simp[h]
  |_=>exact nn q
 |_=>exact nn F
def qqr(h:M.isKey a=Y0):∃k,keyOf a=Y2 k:=by
 cases a with
 |int i=>exact⟨_,rfl⟩
 |str z=>exact⟨_,rfl⟩
 |_=>cases h
def qnw{K:Qqq}(h:keyOf a=Y2 k)(i:IsD K m H a v):v=kV k:=by
 cases a with
 |int q=>cases h; exact i.int
 |str z=>cases h; exact i.str
 |_=>exact nn h
theorem IsKV.get{K:Qqq}(z:keyOf a=Y2 j):∀{kvs}{xs},IsKV K m H kvs xs->(M.dget kvs a=Y3/\valV xs j=Y3)\/∃d v,M.dget kvs a=Y2 d/\valV xs j=Y2 v/\IsD K m H d v
 |[],_,h=>by rw[show _=[] from h]; exact .inl ⟨rfl,rfl⟩
 |p::r,_,⟨k,v,U,e,L,F,J⟩=>by
  subst e;have eq:=qep L z
  by_cases q:k=j
  ·refine .inr ⟨p.2,v,?_,qxv q,F⟩;rw[Z7 q]at eq;simp[M.dget,eq]
  ·rw[Z8 q]at eq;have O:M.dget (p::r) a=M.dget r a:=by simp[M.dget,eq]
   rw[O,qxw q];exact J.get z
theorem IsKV.any{K:Qqq}(q:keyOf a=Y2 j):∀{kvs}{xs},IsKV K m H kvs xs->(kvs.any λp=>M.eqT p.1 a)=(xs.any λp=>decide (p.1=j))
 |[],_,h=>by rw[show _=[] from h]; rfl
 |p::r,_,⟨k,v,J,e,F,L,z⟩=>by
  subst e;rw[Qzd,Qzd,qep F q,z.any q]
theorem IsKV.repl{K:Qqq}(F:keyOf a=Y2 j)(hd:IsD K m H d w):∀{kvs}{xs},IsKV K m H kvs xs->IsKV K m H (kvs.map λp=>if M.eqT p.1 a then(p.1,d) else p) (xs.map λp=>if p.1=j then(p.1,w) else p)
 |[],_,h=>by rw[show _=[] from h]; rfl
 |p::r,_,⟨k,v,O,e,z,L,J⟩=>by
  subst e;have eq:=qep z F;rw[Qqb,Qqb]
  by_cases q:k=j
  ·rw[Z7 q]at eq;rw[Xq eq,Xq q];exact⟨k,w,_,rfl,z,hd,J.repl F hd⟩
  ·rw[Z8 q]at eq;rw[Z9 (by rw[eq]; nofun),Z9 q];exact⟨k,v,_,rfl,z,L,J.repl F hd⟩
theorem IsKV.snoc{K:Qqq}(q:keyOf a=Y2 j)(hd:IsD K m H d w):∀{kvs}{xs},IsKV K m H kvs xs->IsKV K m H (kvs++[(a,d)]) (xs++[(j,w)])
 |[],_,h=>by rw[show _=[] from h]; exact⟨j,w,[],rfl,q,hd,rfl⟩
 |p::r,_,⟨k,v,L,e,J,z,F⟩=>by
  subst e;exact⟨k,v,_,rfl,J,z,F.snoc q hd⟩
def IsKV.put{K:Qqq}(h:IsKV K m H kvs xs)(q:keyOf a=Y2 j)(hd:IsD K m H d w):IsKV K m H (M.dput kvs a d) (putK xs j w):=by
 unfold M.dput putK;rw[h.any q]
 split
 ·exact h.repl q hd
 ·exact h.snoc q hd
theorem IsKV.merge{K:Qqq}:∀{more}{ms}{kvs}{xs},IsKV K m H more ms->IsKV K m H kvs xs->IsKV K m H (more.foldl (λz p=>M.dput z p.1 p.2) kvs) (qkm xs ms)
 |[],_,kvs,xs,h,q=>by rw[show _=[] from h]; exact q
 |p::r,_,kvs,xs,⟨k,v,O,e,L,F,J⟩,q=>by
  subst e;exact J.merge (q.put L F)
noncomputable def IsFs(K:Qqq)(m:List Ya)(H:Hp):List (Yb×D)->List (Yb×V)->Prop
 |[],ys=>ys=[]
 |p::r,ys=>∃v yr,ys=(p.1,v)::yr/\IsD K m H p.2 v/\IsFs K m H r yr
theorem qxu{K:Qqq}(J:Sub m z)(F:Tw H H'):∀(fs:List (Yb×D)) (ys:List (Yb×V)),IsFs K m H fs ys->IsFs K z H' fs ys
 |[],_,h=>h
 |p::r,_,⟨v,q,e,L,O⟩=>⟨v,q,e,qqz J F _ _ L,qxu J F r q O⟩
def qek{K:Qqq}(F:Sub m q)(z:Tr H H')(fs)(ys)(h:IsFs K m H fs ys):IsFs K q H' fs ys:=qxu F z.w fs ys h
theorem IsFs.length{K:Qqq}:∀{fs}{ys},IsFs K m H fs ys->fs.length=ys.length
 |[],_,h=>by rw[show _=[] from h]; rfl
 |p::r,_,⟨v,z,e,_,q⟩=>by rw[e,Qqg,Qqg,q.length]
theorem IsFs.get{K:Qqq}(f):∀{fs}{ys},IsFs K m H fs ys->(fs.lookup f=Y3/\ys.lookup f=Y3)\/∃d v,fs.lookup f=Y2 d/\ys.lookup f=Y2 v/\IsD K m H d v
 |[],_,h=>by rw[show _=[] from h]; exact .inl ⟨rfl,rfl⟩
 |(g,d)::r,_,⟨v,F,e,q,z⟩=>by
  subst e;rw[Qzw,Qzw]
  cases f==g with
  |true=>exact .inr ⟨d,v,rfl,rfl,q⟩
  |false=>exact z.get f
theorem IsFs.put{K:Qqq}(hd:IsD K m H d w):∀{fs}{ys},IsFs K m H fs ys->IsFs K m H (M.putA f d fs) (putF f w ys)
 |[],_,h=>by rw[show _=[] from h]; exact⟨w,[],rfl,hd,rfl⟩
 |(g,x)::r,_,⟨v,z,e,F,q⟩=>by
  subst e;unfold M.putA putF
  split
  ·exact⟨w,z,rfl,hd,q⟩
  ·exact⟨v,_,rfl,F,q.put hd⟩
noncomputable def IsKT(K:Qqq)(m:List Ya)(H:Hp):List (List Int×D)->List (List Key×V)->Prop
 |[],xs=>xs=[]
 |p::r,xs=>∃v xr,xs=(p.1.map Sum.inl,v)::xr/\IsD K m H p.2 v/\IsKT K m H r xr
theorem qz7{K:Qqq}(J:Sub m z)(F:Tw H H'):∀(kvs:List (List Int×D)) (xs:List (List Key×V)),IsKT K m H kvs xs->IsKT K z H' kvs xs
 |[],_,h=>h
 |p::r,_,⟨v,q,e,L,O⟩=>⟨v,q,e,qqz J F _ _ L,qz7 J F r q O⟩
def inl_inj{b:List Int}:(a.map (Sum.inl:Int->Key)=b.map Sum.inl)↔a=b:=by
 refine⟨λh=>?_,λh=>by rw[h]⟩;have:=congrArg (List.map (Sum.elim id λ_=>0:Key->Int)) h;rw[Qq5,Qq5,show(Sum.elim id λ_=>0:Key->Int)∘Sum.inl=id from rfl,Qx9,Qx9]at this;exact this
theorem IsKT.length{K:Qqq}:∀{kvs}{xs},IsKT K m H kvs xs->kvs.length=xs.length
 |[],_,h=>by rw[show _=[] from h]; rfl
 |p::r,_,⟨v,z,e,_,q⟩=>by rw[e,Qqg,Qqg,q.length]
theorem IsKT.at{K:Qqq}:∀{kvs:List (List Int×D)}{xs:List (List Key×V)}{i:Nat},IsKT K m H kvs xs->xs[i]?.map (·.1)=kvs[i]?.map λp=>p.1.map Sum.inl
 |[],_,i,h=>by rw[show _=[] from h]; rfl
 |p::r,_,0,⟨v,z,e,_,q⟩=>by rw[e]; rfl
 |p::r,_,i+1,⟨v,z,e,_,q⟩=>by rw[e]; exact q.at
theorem IsKT.get{K:Qqq}(k):∀{kvs}{xs},IsKT K m H kvs xs->(M.tget kvs k=Y3/\valV xs (k.map Sum.inl)=Y3)\/∃d v,M.tget kvs k=Y2 d/\valV xs (k.map Sum.inl)=Y2 v/\IsD K m H d v
 |[],_,h=>by rw[show _=[] from h]; exact .inl ⟨rfl,rfl⟩
 |p::r,_,⟨v,O,e,F,J⟩=>by
  subst e
  by_cases q:p.1=k
  ·exact .inr ⟨p.2,v,by simp[M.tget,q],qxv (inl_inj.mpr q),F⟩
  ·have L:M.tget (p::r) k=M.tget r k:=by simp[M.tget,q]
   rw[L,qxw λz=>q (inl_inj.mp z)];exact J.get k
def IsKT.put{K:Qqq}(hd:IsD K m H d w)(h:IsKT K m H kvs xs):IsKT K m H (M.tput kvs k d) (putK xs (k.map Sum.inl) w):=by
 have Y:∀{kvs:List (List Int×D)}{xs:List (List Key×V)},IsKT K m H kvs xs->(kvs.any λp=>decide (p.1=k))=xs.any λp=>decide (p.1=k.map Sum.inl):=λ{kvs}=>by
  induction kvs with
  |nil=>intro xs h; rw[show _=[] from h]; rfl
  |cons p r F=>
   rintro xs ⟨v,O,rfl,_,q⟩;rw[Qzd,Qzd,F q]
   congr 1
   rw[Qxg,decide_eq_true_eq,decide_eq_true_eq];exact inl_inj.symm
 have q:∀{kvs:List (List Int×D)}{xs:List (List Key×V)},IsKT K m H kvs xs->IsKT K m H (kvs.map λp=>if p.1=k then(p.1,d) else p) (xs.map λp=>if p.1=k.map Sum.inl then(p.1,w) else p):=λ{kvs}=>by
  induction kvs with
  |nil=>intro xs h; rw[show _=[] from h]; rfl
  |cons p r F=>
   rintro xs ⟨v,O,rfl,L,q⟩;rw[Qqb,Qqb]
   by_cases J:p.1=k
   ·rw[Xq J,Xq (inl_inj.mpr J)]; exact⟨w,_,rfl,hd,F q⟩
   ·rw[Z9 J,Z9 λz=>J (inl_inj.mp z)]; exact⟨v,_,rfl,L,F q⟩
 have U:∀{kvs:List (List Int×D)}{xs:List (List Key×V)},IsKT K m H kvs xs->IsKT K m H (kvs++[(k,d)]) (xs++[(k.map Sum.inl,w)]):=λ{kvs}=>by
  induction kvs with
  |nil=>intro xs h; rw[show _=[] from h]; exact⟨w,[],rfl,hd,rfl⟩
  |cons p r F=>
   rintro xs ⟨v,O,rfl,L,q⟩;exact⟨v,_,rfl,L,F q⟩
 unfold M.tput putK;rw[Y h]
 split
 ·exact q h
 ·exact U h
noncomputable def IsC(K:Qqq)(m:List Ya)(H:Hp):Yc->Ya->Prop
 |.lst Y0 ds,a=>∃xs,H a=Y2 (.lst xs)/\IsDs K m H ds xs
 |.lst Y1 ds,a=>∃xs,SqF K H a xs/\IsDs K m H ds xs
 |.dic Y0 kvs,a=>∃xs,H a=Y2 (.dK xs)/\IsKV K m H kvs xs
 |.dic Y1 kvs,a=>∃o xs,H a=Y2 (.frz o (.dK xs))/\IsKV K m H kvs xs
 |.obj C fs,a=>∃dx ys,H a=Y2 (.ins C dx ys)/\IsFs K m H fs ys
 |.tdc Y0 kvs,a=>∃xs,H a=Y2 (.dT xs)/\IsKT K m H kvs xs
 |.tdc Y1 kvs,a=>∃o xs,H a=Y2 (.frz o (.dT xs))/\IsKT K m H kvs xs
noncomputable def Wr:Yc->Bool
 |.lst w _=>w
 |_=>Y0
structure Rel (K:Qqq) (m:List Ya) (st:Yo) (H:Hp):Prop where
 len:m.length=st.length
 nd:∀(l l':Nat) (a:Ya) (c c':Yc),m[l]?=Y2 a->m[l']?=Y2 a->st[l]?=Y2 c->st[l']?=Y2 c'->Wr c=Y0->Wr c'=Y0->l=l'
 cell:∀(l:Nat) (c:Yc) (a:Ya),st[l]?=Y2 c->m[l]?=Y2 a->IsC K m H c a
section
variable {K:Qqq}{m:List Ya}{st:Yo}{H:Hp}
def Rel.addr(h:Rel K m st H){l:Nat}(e:st[l]?=Y2 c):∃a,m[l]?=Y2 a:=by
 have q:=(Qqk.mp e).1;have:=h.len;exact⟨m[l]'(by lia),by simp⟩
def IsC.wr(h:IsC K m H c a)(w:Wr c=Y0):∃o,H a=Y2 o:=by
 cases c with
 |lst q ds=>
  have e:=w;subst e;obtain⟨xs,e,_⟩:=h;exact⟨_,e⟩
 |dic q kvs=>
  cases q with
  |true=>obtain⟨xs,e,_⟩:=h; exact⟨_,e⟩
  |false=>obtain⟨o,xs,e,_⟩:=h; exact⟨_,e⟩
 |obj C fs=>
  obtain⟨dx,ys,e,_⟩:=h;exact⟨_,e⟩
 |tdc q kvs=>
  cases q with
  |true=>obtain⟨xs,e,_⟩:=h; exact⟨_,e⟩
  |false=>obtain⟨o,xs,e,_⟩:=h; exact⟨_,e⟩
def Rel.list(h:Rel K m st H)(e:M.listAt st l=Y2 ds)(L:IsD K m H (.loc l) v):∃a xs,m[l]?=Y2 a/\v=.ref a/\SqL K H a xs/\IsDs K m H ds xs:=by
 obtain⟨a,z,rfl⟩:=L.loc;unfold M.listAt at e
 split at e
 ·rename_i w O q;cases e;have c:=h.cell l _ a q z
  cases w with
  |true=>
   obtain⟨xs,J,F⟩:=c;exact⟨a,xs,z,rfl,SqL.of J,F⟩
  |false=>
   obtain⟨xs,J,F⟩:=c;exact⟨a,xs,z,rfl,J.sq,F⟩
 ·exact nn e
def Rel.seq(h:Rel K m st H)(e:M.seqAt st d=Y2 ds)(z:IsD K m H d v):∃a xs,True/\v=.ref a/\SqL K H a xs/\IsDs K m H ds xs:=by
 cases d with
 |loc l=>
  obtain⟨a,xs,_,q⟩:=h.list e z;exact⟨a,xs,trivial,q⟩
 |lst es=>
  cases e;obtain⟨a,xs,e,q,r⟩:=z.lst;exact⟨a,xs,trivial,e,q.sq,r⟩
 |_=>exact nn e
def Rel.wlist(h:Rel K m st H)(e:M.wlistAt st l=Y2 ds)(F:IsD K m H (.loc l) v):∃a xs,m[l]?=Y2 a/\v=.ref a/\H a=Y2 (.lst xs)/\IsDs K m H ds xs/\st[l]?=Y2 (.lst Y0 ds):=by
 obtain⟨a,z,rfl⟩:=F.loc;unfold M.wlistAt at e
 split at e
 ·rename_i O q;cases e;obtain⟨xs,L,J⟩:=h.cell l _ a q z;exact⟨a,xs,z,rfl,L,J,q⟩
 ·exact nn e
def qwe(F:Sub m L)(z:Tw H H')(h:IsC K m H c a)(J:Wr c=Y0->H' a=H a):IsC K L H' c a:=by
 cases c with
 |lst w ds=>
  cases w with
  |true=>
   obtain⟨xs,e,q⟩:=h;exact⟨xs,(J rfl).trans e,qz0 F z ds xs q⟩
  |false=>
   obtain⟨xs,e,q⟩:=h;exact⟨xs,z.sqF e,qz0 F z ds xs q⟩
 |dic w kvs=>
  cases w with
  |true=>
   obtain⟨xs,e,q⟩:=h;exact⟨xs,(J rfl).trans e,qqb F z kvs xs q⟩
  |false=>
   obtain⟨o,xs,e,q⟩:=h;exact⟨o,xs,(J rfl).trans e,qqb F z kvs xs q⟩
 |obj C fs=>
  obtain⟨dx,ys,e,q⟩:=h;exact⟨dx,ys,(J rfl).trans e,qxu F z fs ys q⟩
 |tdc w kvs=>
  cases w with
  |true=>
   obtain⟨xs,e,q⟩:=h;exact⟨xs,(J rfl).trans e,qz7 F z kvs xs q⟩
  |false=>
   obtain⟨o,xs,e,q⟩:=h;exact⟨o,xs,(J rfl).trans e,qz7 F z kvs xs q⟩
def qjv(J:Sub m q)(F:Tr H H')(h:IsC K m H c a)(z:Wr c=Y0->H' a=H a):IsC K q H' c a:=qwe J F.w h z
def Rel.dict(h:Rel K m st H)(e:M.dicAt st l=Y2 kvs)(O:IsD K m H (.loc l) v):∃a xs,m[l]?=Y2 a/\v=.ref a/\Rd H a (.dK xs)/\IsKV K m H kvs xs:=by
 obtain⟨a,z,rfl⟩:=O.loc;unfold M.dicAt at e
 split at e
 ·rename_i w L q;cases e;have c:=h.cell l _ a q z
  cases w with
  |true=>
   obtain⟨xs,J,F⟩:=c;exact⟨a,xs,z,rfl,.inl J,F⟩
  |false=>
   obtain⟨o,xs,J,F⟩:=c;exact⟨a,xs,z,rfl,.inr ⟨o,J⟩,F⟩
 ·exact nn e
def Rel.wdict(h:Rel K m st H)(e:M.wdicAt st l=Y2 kvs)(J:IsD K m H (.loc l) v):∃a xs,m[l]?=Y2 a/\v=.ref a/\H a=Y2 (.dK xs)/\IsKV K m H kvs xs/\st[l]?=Y2 (.dic Y0 kvs):=by
 obtain⟨a,F,rfl⟩:=J.loc;unfold M.wdicAt at e
 split at e
 ·rename_i z q;cases e;obtain⟨xs,O,L⟩:=h.cell l _ a q F;exact⟨a,xs,F,rfl,O,L,q⟩
 ·exact nn e
def Rel.tdict(h:Rel K m st H)(e:M.tdcAt st l=Y2 kvs)(O:IsD K m H (.loc l) v):∃a xs,m[l]?=Y2 a/\v=.ref a/\Rd H a (.dT xs)/\IsKT K m H kvs xs:=by
 obtain⟨a,z,rfl⟩:=O.loc;unfold M.tdcAt at e
 split at e
 ·rename_i w L q;cases e;have c:=h.cell l _ a q z
  cases w with
  |true=>
   obtain⟨xs,J,F⟩:=c;exact⟨a,xs,z,rfl,.inl J,F⟩
  |false=>
   obtain⟨o,xs,J,F⟩:=c;exact⟨a,xs,z,rfl,.inr ⟨o,J⟩,F⟩
 ·exact nn e
def Rel.wtdict(h:Rel K m st H)(e:M.wtdcAt st l=Y2 kvs)(J:IsD K m H (.loc l) v):∃a xs,m[l]?=Y2 a/\v=.ref a/\H a=Y2 (.dT xs)/\IsKT K m H kvs xs/\st[l]?=Y2 (.tdc Y0 kvs):=by
 obtain⟨a,F,rfl⟩:=J.loc;unfold M.wtdcAt at e
 split at e
 ·rename_i z q;cases e;obtain⟨xs,O,L⟩:=h.cell l _ a q F;exact⟨a,xs,F,rfl,O,L,q⟩
 ·exact nn e
def Rel.inst(h:Rel K m st H)(e:M.objAt st C d=Y2 fs)(J:IsD K m H d v):∃l a dx ys,d=.loc l/\m[l]?=Y2 a/\v=.ref a/\H a=Y2 (.ins C dx ys)/\IsFs K m H fs ys/\st[l]?=Y2 (.obj C fs):=by
 cases d with
 |loc l=>
  obtain⟨a,z,rfl⟩:=J.loc;have e:(match st[l]? with|some (.obj F fs)=>if F=C then Y2 fs else Y3|_=>Y3)=Y2 fs:=e
  split at e
  ·rename_i F fs' q
   split at e
   ·rename_i L;cases e;subst L;obtain⟨dx,ys,U,O⟩:=h.cell l _ a q z;exact⟨l,a,dx,ys,rfl,z,rfl,U,O,q⟩
   ·exact nn e
  ·exact nn e
 |_=>exact nn e
def Rel.same(h:Rel K m st H)(s:Same H H'):Rel K m st H':=
 ⟨h.len,h.nd,λl c a e z=>qjv (Sub.refl m) (Tr.of_same s) (h.cell l c a e z) λw=>by
  obtain⟨xs,q⟩:=(h.cell l c a e z).wr w
  rw[q]; exact s _ _ q⟩
def Rel.newC(h:Rel K m st H)(U:H p=Y3)(hc:Wr c=Y0->True)(hd:IsC K (m++[p]) (upd H p o) c p):Rel K (m++[p]) (st++[c]) (upd H p o):=by
 have ht:Tr H (upd H p o):=Tr.of_same (qzw U);have old:∀(l:Nat) (e:Yc) (a:Ya),(st++[c])[l]?=Y2 e->(m++[p])[l]?=Y2 a->(l<st.length/\st[l]?=Y2 e/\m[l]?=Y2 a)\/(l=st.length/\e=c/\a=p):=by
  intro l e a J L
  by_cases hl:l<st.length
  ·rw[Qq2 hl]at J;rw[Qq2 (by rw[h.len]; exact hl)]at L;exact .inl ⟨hl,J,L⟩
  ·have a0:=(Qqk.mp J).1;rw[Qqi,Qz8]at a0;have e1:l=st.length:=by lia
   subst e1;rw[Qzm (Qqj _)]at J;rw[Qzm (by rw[h.len]; exact Qqj _),h.len]at L;have e2:c=e:=by simpa using J
   have e3:p=a:=by simpa using L
   exact .inr ⟨rfl,e2.symm,e3.symm⟩
 refine⟨by simp[h.len],λl Z a e e' e1 e2 e3 e4 w w'=>?_,λl e a J L=>?_⟩
 ·rcases old l e a e3 e1 with⟨h1,F,q⟩|⟨h1,F,q⟩<;>rcases old Z e' a e4 e2 with⟨h2,Y,O⟩|⟨h2,Y,O⟩
  ·exact h.nd l Z a e e' q O F Y w w'
  ·obtain⟨ys,z⟩:=(h.cell l e a F q).wr w;rw[O,U]at z; cases z
  ·obtain⟨ys,z⟩:=(h.cell Z e' a Y O).wr w';rw[q,U]at z; cases z
  ·rw[h1,h2]
 ·rcases old l e a J L with⟨h1,F,q⟩|⟨h1,F,q⟩
  ·refine qjv (Sub.app m [p]) ht (h.cell l e a F q) λw=>?_;obtain⟨ys,z⟩:=(h.cell l e a F q).wr w;exact qzq (qzd z U)
  ·rw[F,q];exact hd
def Rel.new(h:Rel K m st H)(q:H p=Y3)(hd:IsDs K m H ds xs):Rel K (m++[p]) (st++[.lst Y0 ds]) (upd H p (.lst xs)):=
 h.newC q (λ_=>trivial) ⟨xs,qzk,qzb (Sub.app m [p]) (Tr.of_same (qzw q)) ds xs hd⟩
def Rel.newD(h:Rel K m st H)(q:H p=Y3)(hd:IsKV K m H kvs xs):Rel K (m++[p]) (st++[.dic Y0 kvs]) (upd H p (.dK xs)):=
 h.newC q (λ_=>trivial) ⟨xs,qzk,qj1 (Sub.app m [p]) (Tr.of_same (qzw q)) kvs xs hd⟩
def Rel.newLoc(h:Rel K m st H):IsD K (m++[p]) H' (.loc st.length) (.ref p):=qhv (by
 rw[Qzm (by rw[h.len]; exact Qqj _),h.len]; simp)
def Rel.putW(h:Rel K m st H)(e:st[l]?=Y2 c)(L:Wr c=Y0)(ea:m[l]?=Y2 a)(ht:Tw H (upd H a o))(hd:IsC K m (upd H a o) c' a):
  Rel K m (st.set l c') (upd H a o):=by
 have hl:=(Qqk.mp e).1;have wr:∀(j:Nat) (d:Yc),(st.set l c')[j]?=Y2 d->(j=l/\d=c')\/(j≠l/\st[j]?=Y2 d):=by
  intro j d q
  by_cases O:j=l
  ·subst O;rw[Qq9 hl]at q;exact .inl ⟨rfl,(Option.some.inj q).symm⟩
  ·rw[Qqs (Ne.symm O)]at q;exact .inr ⟨O,q⟩
 refine⟨by rw[Qzs]; exact h.len,λj j' b d d' Y U e3 e4 w w'=>?_,λj d b q J=>?_⟩
 ·rcases wr j d e3 with⟨F,b1⟩|⟨F,b1⟩<;>rcases wr j' d' e4 with⟨Z,b2⟩|⟨Z,b2⟩
  ·rw[F,Z]
  ·subst F; exact h.nd _ _ b _ _ Y U e b2 L w'
  ·subst Z; exact h.nd _ _ b _ _ Y U b1 e w L
  ·exact h.nd _ _ b _ _ Y U b1 b2 w w'
 ·rcases wr j d q with⟨F,b1⟩|⟨F,b1⟩
  ·subst F b1;rw[ea]at J; cases J;exact hd
  ·refine qwe (Sub.refl m) ht (h.cell j d b b1 J) λw=>qzq λz=>?_;subst z;exact F (h.nd _ _ b _ _ J ea b1 e w L)
def Rel.putC(h:Rel K m st H)(e:st[l]?=Y2 c)(q:Wr c=Y0)(F:m[l]?=Y2 a)(z:Tr H (upd H a o))(hd:IsC K m (upd H a o) c' a):
  Rel K m (st.set l c') (upd H a o):=h.putW e q F z.w hd
theorem Rel.put(h:Rel K m st H)(e:st[l]?=Y2 (.lst Y0 ds))(F:m[l]?=Y2 a)(z:H a=Y2 (.lst xs))(hd:IsDs K m H q ys):
  Rel K m (st.set l (.lst Y0 q)) (upd H a (.lst ys)):=
 h.putC e rfl F (Tr.put z) ⟨ys,qzk,qzb (Sub.refl m) (Tr.put z) q ys hd⟩
def Tr.putD(q:H p=Y2 (.dK xs)):Tr H (upd H p (.dK ys)):=
 ⟨λb zs e=>by rw[qzq (qzo e q (by intro z; cases z))]; exact e,λb o u e=>by rw[qzq (qzo e q (by intro z; cases z))]; exact e⟩
theorem Rel.putD(h:Rel K m st H)(e:st[l]?=Y2 (.dic Y0 kvs))(F:m[l]?=Y2 a)(z:H a=Y2 (.dK xs))(hd:IsKV K m H q ys):
  Rel K m (st.set l (.dic Y0 q)) (upd H a (.dK ys)):=
 h.putC e rfl F (Tr.putD z) ⟨ys,qzk,qj1 (Sub.refl m) (Tr.putD z) q ys hd⟩
end
def Tr.putI(q:H p=Y2 (.ins C F xs)):Tr H (upd H p (.ins C F ys)):=
 ⟨λb zs e=>by rw[qzq (qzo e q (by intro z; cases z))]; exact e,λb o u e=>by rw[qzq (qzo e q (by intro z; cases z))]; exact e⟩
theorem Rel.putI{K:Qqq}{st:Yo}(h:Rel K m st H)(e:st[l]?=Y2 (.obj C fs))(J:m[l]?=Y2 a)(F:H a=Y2 (.ins C z xs))(hd:IsFs K m H q ys):
  Rel K m (st.set l (.obj C q)) (upd H a (.ins C z ys)):=
 h.putC e rfl J (Tr.putI F) ⟨z,ys,qzk,qek (Sub.refl m) (Tr.putI F) q ys hd⟩
def Rel.newI{K:Qqq}{st:Yo}(h:Rel K m st H)(O:H x=Y3)(J:H q=Y3)(F:q≠x):Same H (upd (upd H q (.own x)) x (.ins C q []))/\Rel K (m++[x]) (st++[.obj C []]) (upd (upd H q (.own x)) x (.ins C q [])):=by
 have L:Same H (upd H q (.own x)):=qzw J;have z:(upd H q (.own x)) x=none:=by rw[qzq (Ne.symm F)]; exact O
 exact⟨λb u e=>qzw z b u (L b u e),(h.same L).newC z (λ_=>trivial) ⟨q,[],qzk,rfl⟩⟩
def Tr.ice(h:H a=Y2 (.dK xs)):Tr H (upd H a (.frz o (.dK xs))):=
 ⟨λb zs e=>by rw[qzq (qzo e h (by intro z; cases z))]; exact e,λb o u e=>by rw[qzq (qzo e h (by intro z; cases z))]; exact e⟩
def Tr.thaw(h:H a=Y2 (.dK xs))(t:Tr (upd H a (.frz o (.dK xs))) H'):Tr H (upd H' a (.dK ys)):=
 ⟨λb zs e=>by
  have q:=qzo e h (by intro z; cases z);rw[qzq q];exact t.tup b zs (by rw[qzq q]; exact e),λb o u e=>by
  have q:=qzo e h (by intro z; cases z);rw[qzq q]
  exact t.frz b o u (by rw[qzq q]; exact e)⟩
def Tw.thaw(h:H a=Y2 (.frz o (.dK xs))):Tw H (upd H a (.dK ys)):=
 ⟨λb zs e=>by rw[qzq (qzo e h (by intro z; cases z))]; exact e,λb o u q e=>by rw[qzq (qzo e h (by intro z; cases z; exact q))]; exact e⟩
theorem Rel.ice{K:Qqq}{st:Yo}(h:Rel K m st H)(e:st[l]?=Y2 (.dic Y0 kvs))(z:m[l]?=Y2 a)(q:H a=Y2 (.dK xs))(hd:IsKV K m H kvs xs):
  Rel K m (st.set l (.dic Y1 kvs)) (upd H a (.frz o (.dK xs))):=
 h.putC e rfl z (Tr.ice q) ⟨o,xs,qzk,qj1 (Sub.refl m) (Tr.ice q) kvs xs hd⟩
theorem Rel.thaw{K:Qqq}{st:Yo}(h:Rel K m st H)(e:st[l]?=Y2 (.dic Y1 kvs))(F:m[l]?=Y2 a)(z:H a=Y2 (.frz o (.dK xs))):
  Rel K m (st.set l (.dic Y0 kvs)) (upd H a (.dK xs)):=by
 obtain⟨o',ys,J,q⟩:=h.cell l _ a e F;rw[z]at J;cases J;exact h.putW e rfl F (Tw.thaw z) ⟨xs,qzk,qqb (Sub.refl m) (Tw.thaw z) kvs xs q⟩
structure SlotOk (K:Qqq) (m:List Ya) (H:Hp) (τ:Sl) (σ:L2.St):Prop where
 len:τ.length=σ.length
 at_:∀(i:Nat) (d:D),τ[i]?=Y2 (Y2 d)->∃v,σ[i]?=Y2 (Y2 v)/\IsD K m H d v
def SlotOk.monoW{K:Qqq}(h:SlotOk K m H τ σ)(s:Sub m q)(t:Tw H H'):SlotOk K q H' τ σ:=
 ⟨h.len,λi d e=>let ⟨v,a,b⟩:=h.at_ i d e; ⟨v,a,qqz s t d v b⟩⟩
def SlotOk.mono{K:Qqq}(h:SlotOk K m H τ σ)(s:Sub m q)(t:Tr H H'):SlotOk K q H' τ σ:=
 ⟨h.len,λi d e=>let ⟨v,a,b⟩:=h.at_ i d e; ⟨v,a,qzv s t d v b⟩⟩
def SlotOk.put{K:Qqq}(h:SlotOk K m H τ F)(q:IsD K m H d v):SlotOk K m H (τ.set i (Y2 d)) (F.set i (Y2 v)):=by
 refine⟨by rw[Qzs,Qzs]; exact h.len,λj e z=>?_⟩
 by_cases J:i=j
 ·subst J;have hi:i<τ.length:=by
   have:=(Qqk.mp z).1;rwa [Qzs]at this
  rw[Qq9 hi]at z;cases z;exact⟨v,Qq9 (by rw[<- h.len]; exact hi),q⟩
 ·rw[Qqs J]at z ⊢;exact h.at_ j e z
def Post(K:Qqq)(m:List Ya)(H:Hp)(d:D)(st':Yo)(Q:VK):Prop:=∀v m' H',Sub m m'->Tr H H'->Rel K m' st' H'->IsD K m' H' d v->Q v H'
def PostB(K:Qqq)(m:List Ya)(H:Hp)(b:Bool)(st':Yo)(Q:Bool->Hp->Prop):Prop:=∀m' H',Sub m m'->Tr H H'->Rel K m' st' H'->Q b H'
def PostL(K:Qqq)(m:List Ya)(H:Hp)(ds:List D)(st':Yo)(Q:List V->Hp->Prop):Prop:=∀vs m' H',Sub m m'->Tr H H'->Rel K m' st' H'->IsDs K m' H' ds vs->Q vs H'
def Post.mono{K:Qqq}(p:Post K m H d st' Q)(s:Sub m q)(t:Tr H z):Post K q z d st' Q:=
 λv m' H' s' F r i=>p v m' H' (s.trans s') (t.trans F) r i
def Post.here{K:Qqq}(p:Post K m H d st' Q)(r:Rel K m st' H)(i:IsD K m H d v):Q v H:=p v m H (Sub.refl m) (Tr.refl H) r i
noncomputable def tD(K:Qqq)(f:Sl->Yo->Option (D×Yo)):TE:=λσ H Q=>∃m st τ d st',Rel K m st H/\SlotOk K m H τ σ/\f τ st=Y2 (d,st')/\Post K m H d st' Q
noncomputable def tTs(K:Qqq)(f:Sl->Yo->Option (Bool×Yo)):TT:=λσ H Q=>∃m st τ d st',Rel K m st H/\SlotOk K m H τ σ/\f τ st=Y2 (d,st')/\PostB K m H d st' Q
noncomputable def tL(K:Qqq)(f:Sl->Yo->Option (List D×Yo)):TA:=λσ H Q=>∃m st τ d st',Rel K m st H/\SlotOk K m H τ σ/\f τ st=Y2 (d,st')/\PostL K m H d st' Q
noncomputable def rD(K:Qqq)(g:Yo->D->D->Option (D×Yo)):R2:=λx y H Q=>∃m st a b d st',Rel K m st H/\IsD K m H a x/\IsD K m H b y/\g st a b=Y2 (d,st')/\Post K m H d st' Q
def rC(K:Qqq)(g:Yo->List D->Option (D×Yo)):List V->Hp->VK->Prop:=λxs H Q=>∃m st ds d st',Rel K m st H/\IsDs K m H ds xs/\g st ds=Y2 (d,st')/\Post K m H d st' Q
def rU1(K:Qqq)(g:Yo->D->Option (D×Yo)):V->Hp->VK->Prop:=λx H Q=>∃m st a d st',Rel K m st H/\IsD K m H a x/\g st a=Y2 (d,st')/\Post K m H d st' Q
def Post.of{K:Qqq}(q:Post K m H d s Q)(e:Y2 (d',z)=Y2 (d,s)):Post K m H d' z Q:=by cases e; exact q
def PostB.of{K:Qqq}(q:PostB K m H d s Q)(e:Y2 (d',z)=Y2 (d,s)):PostB K m H d' z Q:=by cases e; exact q
def PostL.of{K:Qqq}(q:PostL K m H d s Q)(e:Y2 (d',z)=Y2 (d,s)):PostL K m H d' z Q:=by cases e; exact q
def rsI{α:Type}{K:Qqq}{f:Sl->Yo->Option (α×Yo)}{W:List Ya->α->Yo->Prop}{st:Yo}{d:α}(R:Rel K m st H)(S:SlotOk K m H τ q)(e:f τ st=Y2 (d,st'))(w:W m d st'):∃m st τ d st',Rel K m st H/\SlotOk K m H τ q/\f τ st=Y2 (d,st')/\W m d st':=⟨m,st,τ,d,st',R,S,e,w⟩
def tD.el{K:Qqq}{P:Prop}(h:tD K f q H Q)(k:∀m st τ d st',Rel K m st H->SlotOk K m H τ q->f τ st=Y2 (d,st')->Post K m H d st' Q->P):P:=by
 rcases h with⟨m,st,τ,d,st',a,b,c,e⟩
 exact k m st τ d st' a b c e
def tTs.el{K:Qqq}{P:Prop}(h:tTs K f q H Q)(k:∀m st τ d st',Rel K m st H->SlotOk K m H τ q->f τ st=Y2 (d,st')->PostB K m H d st' Q->P):P:=by
 rcases h with⟨m,st,τ,d,st',p0,p1,p2,z⟩
 exact k m st τ d st' p0 p1 p2 z
def tL.el{K:Qqq}{P:Prop}(h:tL K f q H Q)(k:∀m st τ d st',Rel K m st H->SlotOk K m H τ q->f τ st=Y2 (d,st')->PostL K m H d st' Q->P):P:=by
 rcases h with⟨m,st,τ,d,st',p0,p1,p2,z⟩
 exact k m st τ d st' p0 p1 p2 z
def rD.el{K:Qqq}{P:Prop}(h:rD K f x y H Q)(k:∀m st a b d st',Rel K m st H->IsD K m H a x->IsD K m H b y->f st a b=Y2 (d,st')->Post K m H d st' Q->P):P:=by
 rcases h with⟨m,st,a,b,d,st',p0,p1,p2,z,q⟩
 exact k m st a b d st' p0 p1 p2 z q
def rC.el{K:Qqq}{P:Prop}(h:rC K f xs H Q)(k:∀m st ds d st',Rel K m st H->IsDs K m H ds xs->f st ds=Y2 (d,st')->Post K m H d st' Q->P):P:=by
 rcases h with⟨m,st,ds,d,st',p0,p1,p2,q⟩
 exact k m st ds d st' p0 p1 p2 q
def rU1.el{K:Qqq}{P:Prop}(h:rU1 K f x H Q)(k:∀m st a d st',Rel K m st H->IsD K m H a x->f st a=Y2 (d,st')->Post K m H d st' Q->P):P:=by
 rcases h with⟨m,st,a,d,st',p0,p1,p2,q⟩
 exact k m st a d st' p0 p1 p2 q
def _root_.L2.PE.imp(h:PE X e t)(f:∀σ H Q,t' σ H Q->t σ H Q):PE X e t':=λpins s σ H Q I q=>h pins s σ H Q I (f σ H Q q)
def _root_.L2.PT.imp(h:PT X e t)(f:∀σ H Q,t' σ H Q->t σ H Q):PT X e t':=λpins s σ H Q I q=>h pins s σ H Q I (f σ H Q q)
def _root_.L2.PW.imp(h:PW X e t)(f:∀σ H Q,t' σ H Q->t σ H Q):PW X e t':=λw pins s σ H Q I q=>h w pins s σ H Q I (f σ H Q q)
def _root_.L2.PA.imp(h:PA X e t)(f:∀σ H Q,t' σ H Q->t σ H Q):PA X e t':=λp pins s σ H Q I q=>h p pins s σ H Q I (f σ H Q q)
def _root_.L2.PS.imp(h:PS X e t)(f:∀σ H Q,t' σ H Q->t σ H Q):PS X e t':=λpins s σ H Q I q=>h pins s σ H Q I (f Q σ H q)
def _root_.L2.PSs.imp(h:PSs X e t)(f:∀D σ H,t' D σ H->t D σ H):PSs X e t':=λpins s σ H D I q=>h pins s σ H D I (f D σ H q)
def qzj{α:Type}{g:D×Yo->Option α}{r:α}{P:Prop}(e:f.bind g=Y2 r)(k:∀d st,f=Y2 (d,st)->g (d,st)=Y2 r->P):P:=by
 cases f with
 |none=>exact nn e
 |some p=>exact k p.1 p.2 rfl e
def qze{α q:Type}{f:Option α}{g:α->q}{r:q}{P:Prop}(e:f.map g=Y2 r)(k:∀d,f=Y2 d->g d=r->P):P:=by
 cases f with
 |none=>exact nn e
 |some p=>exact k p rfl (Option.some.inj e)
def qzx{α q:Type}{f:Option α}{g:α->Option q}{r:q}{P:Prop}(e:f.bind g=Y2 r)(k:∀d,f=Y2 d->g d=Y2 r->P):P:=by
 cases f with
 |none=>exact nn e
 |some p=>exact k p rfl e
def orO{α:Type}{a b:Option α}{r:α}(h:a.or b=Y2 r):a=Y2 r\/b=Y2 r:=by
 cases a with
 |none=>exact .inr h
 |some x=>exact .inl h
def mapD{α q:Type}{f:Option α}{g:α->q}{r:q}(e:f.map g=Y2 r):∃d,f=Y2 d/\g d=r:=by
 cases f with
 |none=>exact nn e
 |some p=>exact⟨p,rfl,Option.some.inj e⟩
section
variable {K:Qqq}
def qcg(h:tD K (λτ st=>(J τ st).bind λp=>(F τ p.2).bind λq=>g q.2 p.1 q.1) z H Q):tOp (rD K g) (tD K J) (tD K F) z H Q:=by
 exact h.el λm st τ d st' R0 L e q=>qzj e λd1 s1 e1 e=>qzj e λd2 O e2 e=>rsI R0 L e1 λx m1 H1 b1 t1 R1 Z=>rsI R1 (L.mono b1 t1) e2 λy U H2 b2 t2 R2 Y=>
  ⟨U,O,d1,d2,d,st',R2,qzv b2 t2 _ _ Z,Y,e,q.mono (b1.trans b2) (t1.trans t2)⟩
def tD_un(h:tD K (λτ st=>(F τ st).bind λp=>g p.2 p.1) z H Q):tUn (rU1 K g) (tD K F) z H Q:=by
 exact h.el λm st τ d st' R0 Y e q=>qzj e λU J O e=>rsI R0 Y O λx m1 H1 b1 t1 Z L=>⟨m1,J,U,d,st',Z,L,e,q.mono b1 t1⟩
def qli(h:tL K (λτ st=>(J τ st).bind λp=>(F τ p.2).bind λq=>Y2 (p.1::q.1,q.2)) z H Q):qlm (tD K J) (tL K F) z H Q:=by
 refine h.el λm st τ d st' R0 L e q=>qzj e λd1 s1 e1 e=>qzx e λp Z e=>?_;have q:=q.of e;exact rsI R0 L e1 λx m1 H1 b1 t1 R1 Y=>rsI R1 (L.mono b1 t1) Z λxs O H2 b2 t2 R2 U=>
  q _ O H2 (b1.trans b2) (t1.trans t2) R2 (qzm (qzv b2 t2 _ _ Y) U)
def tL_nil(h:tL K (λ_ st=>Y2 ([],st)) z H Q):tNil z H Q:=by
 refine h.el λm st τ d st' F J e q=>?_;have q:=q.of e;exact q [] m H (Sub.refl m) (Tr.refl H) F qqx
def qqn(h:tD K (λτ st=>(F τ st).bind λp=>g p.2 p.1) z H Q):tCB (rC K g) (tL K F) z H Q:=by
 exact h.el λm st τ d st' Y O e q=>qzx e λp L e=>rsI Y O L λxs m1 H1 b1 t1 U J=>⟨m1,p.2,p.1,d,st',U,J,e,q.mono b1 t1⟩
end
end MS
end
section
namespace MS
open PySem PySem.Spec PyProof.Rows L2
open M (D Yc Yo Sl)
section
variable {X:Cx}
def qqk:(sizeLine:Nat)=M.lim:=Q5
def qdi:OpR X (Q6 .FloorDiv) (rI (λ_ j=>0<j/\j<2 ^ 64) λi j=>.int (i / j)):=opI λi j _ _ _ _ _ J q=>by
 refine floordiv_int (by omega) (by rw[Int.fdiv_eq_ediv_of_nonneg i (by omega)]; exact q) (.inl (PyProof.noPylong_of_log2 ?_));have F:j.natAbs<2 ^ 64:=by omega
 have z:j.natAbs≠0:=by omega
 have L:=(Nat.log2_lt z).mpr F;omega
theorem _root_.MS.IsDs.rep{K:Qqq}(h:IsDs K m H ds xs):∀k:Nat,IsDs K m H (List.replicate k ds).flatten (List.replicate k xs).flatten
 |0=>by simp only[List.replicate_zero]; exact qqx
 |k+1=>by
  rw[Qzr,Qzr,Qxj,Qxj];exact h.append (IsDs.rep h k)
def qm1(I:Inv X z σ H s)(hq:SqL X.K H l xs)(Y:SqL X.K H b ys)(hz:xs.length+ys.length<=sizeLine)(q:∀p,H p=Y3->Q (.ref p) (upd H p (.lst (xs++ys)))):
  wpAny (model X.prog X.w) X.A (Q6 .Add (.ref l) (.ref b)) (EP X z σ Q) X.xe s:=by
 obtain⟨vs,r1,pl,_⟩:=I.list hq;obtain⟨ws,r2,U,_⟩:=I.list Y;have l1:=r1.length;have l2:=r2.length;obtain⟨⟨cls,dd,a2,sl⟩,n,ho,hc,a4,hd⟩:=pl;obtain⟨⟨a3,Z,a0,O⟩,n2,F,L,a1,J⟩:=U;simp only at hc hd L J;subst hc hd L J;have e:vs.toArray++ws.toArray=(vs++ws).toArray:=by simp
 refine concat_meets ⟨_,ho,rfl⟩ ⟨_,F,rfl⟩ noFill_list_add seq_list_add PySem.F.slot_list_add PySem.F.entry_list_add (PySem.F.args_list_add_2 _ _) (list_addW l b vs.toArray ws.toArray n n2 dd Z sl O (by simp; omega)) ⟨ho,F,?_⟩;rw[e];exact⟨.ref _,_,I.lnew (r1.append r2) (by rw[Qqi]; omega),rfl,q _ I.fresh⟩
def qm2(op):OpR X (Q6 op) (rD X.K λst a b=>M.binop st op a b):=by
 intro pins s σ H x y v u Q I U O h;refine h.el λm st a b d st' J Z Y e q=>?_;have e:=e;unfold M.binop at e
 split at e
 ·have q:=q.of e;exact op_add pins s σ H x y v u Q I U O ⟨_,_,Z.int,Y.int,q.here J (mkInt _)⟩
 ·rename_i as bs
  split at e
  ·exact nn e
  ·rename_i F;have q:=q.of e;rw[Qxa,decide_eq_true_eq,not_or,List.isEmpty_iff]at F;obtain⟨pa,xs,rfl,hx,L⟩:=Z.tup;obtain⟨pb,ys,rfl,hy,iy⟩:=Y.tup;have l1:=L.length;have l2:=iy.length;have l3:=qqk;refine qm0 pins s σ H _ _ v u Q I U O ⟨pa,pb,xs,ys,rfl,rfl,hx,hy,?_,by omega,λz=>?_,λz p hp=>?_⟩
   ·intro z;subst z;exact F.1 (Qz1.mp l1)
   ·have i3:=L.append iy;rw[z,Qzh]at i3;exact q.here J (qq3 hx i3)
   ·have sm:=qzw (o:=.tup (xs++ys)) hp;exact q _ m _ (Sub.refl m) (Tr.of_same sm) (J.same sm) (qq3 (SqT.of qzk) (qzb (Sub.refl m) (Tr.of_same sm) _ _ (L.append iy)))
 ·rename_i la lb _ _;refine qzx e λa1 e1 e=>qzx e λa0 e2 e=>?_
  split at e
  ·exact nn e
  ·rename_i F;have q:=q.of e;obtain⟨pa,xs,_,rfl,hx,L⟩:=J.seq e1 Z;obtain⟨pb,ys,_,rfl,hy,iy⟩:=J.seq e2 Y;have l1:=L.length;have l2:=iy.length;have l3:=qqk;cases U;cases O;refine qm1 I hx hy (by omega) λp hp=>?_;exact q _ (m++[p]) _ (Sub.app m [p]) (Tr.of_same (qzw hp)) (J.new hp (L.append iy)) J.newLoc
 ·have q:=q.of e;exact op_sub pins s σ H x y v u Q I U O ⟨_,_,Z.int,Y.int,q.here J (mkInt _)⟩
 ·split at e
  ·rename_i F;have q:=q.of e;refine op_mul pins s σ H x y v u Q I U O ⟨_,_,Z.int,Y.int,?_,q.here J (mkInt _)⟩;unfold M.mulOk at F;simp only[Qxa,Qqo,decide_eq_true_eq]at F;exact F
  ·exact nn e
 ·rename_i as k _
  split at e
  ·exact nn e
  ·rename_i F;have q:=q.of e;simp only[Qxa,decide_eq_true_eq]at F;obtain⟨pa,xs,rfl,hx,L⟩:=Z.tup;have l1:=L.length;have l3:=qqk;refine qmt pins s σ H _ _ v u Q I U O ⟨pa,k,xs,rfl,Y.int,hx,by omega,by omega,by rw[<- l1]; omega,λys hy=>⟨λz=>?_,λp hp=>?_⟩⟩
   ·have i3:=L.rep k.toNat
    rw[<- hy,z]at i3;exact q.here J (qq3 hx i3)
   ·have sm:=qzw (o:=.tup ys) hp;have i3:=L.rep k.toNat
    rw[<- hy]at i3;exact q _ m _ (Sub.refl m) (Tr.of_same sm) (J.same sm) (qq3 (SqT.of qzk) (qzb (Sub.refl m) (Tr.of_same sm) _ _ i3))
 ·split at e
  ·rename_i F;have q:=q.of e;exact qdi pins s σ H x y v u Q I U O ⟨_,_,Z.int,Y.int,F,q.here J (mkInt _)⟩
  ·exact nn e
 ·split at e
  ·rename_i F;have q:=q.of e;exact op_mod pins s σ H x y v u Q I U O ⟨_,_,Z.int,Y.int,F,q.here J (mkInt _)⟩
  ·exact nn e
 ·split at e
  ·rename_i F;have q:=q.of e;exact op_pow pins s σ H x y v u Q I U O ⟨_,_,Z.int,Y.int,⟨F.1,by omega,F.2.2⟩,q.here J (mkInt _)⟩
  ·exact nn e
 ·exact nn e
def qz9(I:Inv X z J H s)(h:IsD X.K m H (.tup ds) v):∃a xs q,v=.ref a/\SqT X.K H a xs/\IsDs X.K m H ds xs/\Vals xs q/\IsTup s.heap a q.toArray:=by
 obtain⟨a,xs,rfl,F,L⟩:=h.tup;obtain⟨q,r,p,_⟩:=I.tuple F;exact⟨a,xs,q,rfl,F,L,r,p⟩
section
variable {H:Hp}{m:List Ya}
theorem qyf:∀{ds es}{xs},ds.all M.isI=Y0->es.all M.isI=Y0->IsDs X.K m H ds xs->IsDs X.K m H es xs->ds=es
 |[],es,xs,_,_,h,h'=>by
  rw[h.nil]at h';exact(Qz1.mp h'.length).symm
 |d::ds,es,xs,f,F,h,h'=>by
  obtain⟨x,r,rfl,q,t⟩:=h.cons
  cases es with
  |nil=>cases h'.nil
  |cons e es=>
   obtain⟨O,r',z,L,J⟩:=h'.cons;cases z;rw[Qzn,Qqo]at f F;rw[qyf f.2 F.2 t J]
   cases d with
   |int a=>
    cases e with
    |int b=>cases q.int; cases L.int; rfl
    |_=>cases F.1
   |_=>cases f.1
def qnf(I:Inv X pins σ H s)(f:M.flat n d=Y0)(q:M.flat n e=Y0)(h:IsD X.K m H d v)(h':IsD X.K m H e v):d=e:=by
 cases d with
 |int b=>
  rw[h.int]at h'
  cases e with
  |tup ds=>obtain⟨a,xs,z,_⟩:=h'.tup; cases z
  |int b=>cases h'.int; rfl
  |str b=>cases h'.str
  |_=>cases q
 |str b=>
  rw[h.str]at h'
  cases e with
  |tup ds=>obtain⟨a,xs,z,_⟩:=h'.tup; cases z
  |int b=>cases h'.int
  |str b=>cases h'.str; rfl
  |_=>cases q
 |tup ds=>
  obtain⟨a,xs,rfl,O,J⟩:=h.tup
  cases e with
  |tup es=>
   obtain⟨b,ys,z,L,F⟩:=h'.tup;cases z;cases I.tuple_inj O L;rw[qyf f q J F]
  |int b=>cases h'.int
  |str b=>cases h'.str
  |_=>cases q
 |_=>cases f
theorem qwi:∀{ds},ds.all M.isI=Y0->M.eqTs ds ds=Y0
 |[],_=>rfl
 |d::ds,f=>by
  rw[Qzn,Qqo]at f;unfold M.eqTs;rw[qwi f.2,Qjz]
  cases d with
  |int a=>exact beq_self_eq_true a
  |_=>cases f.1
noncomputable def pairE(ds es:List D)(j:Nat):Bool:=match ds[j]?,es[j]? with
 |some d,Y2 e=>M.eqT d e
 |_,_=>Y0
theorem qwl:∀(ds es:List D),M.eqTs ds es=((List.range (min ds.length es.length)).all (pairE ds es)&&ds.length==es.length)
 |[],[]=>rfl
 |[],e::es=>by simp[M.eqTs]
 |d::ds,[]=>by simp[M.eqTs]
 |d::ds,e::es=>by
  simp only[M.eqTs];rw[qwl ds es,Qqg,Qqg,Nat.add_min_add_right,List.range_succ_eq_map,Qzn,List.all_map,Bool.and_assoc]
  congr 1
  congr 1
  rw[Qxg,beq_iff_eq,beq_iff_eq];omega
def int_at(f:ds.all M.isI=Y0)(J:IsDs X.K m H ds xs)(r:Vals xs F)(h:j<F.toArray.size):∃a t,ds[j]?=Y2 (.int a)/\F.toArray[j]=Value.int a t:=by
 have U:=J.length;have O:=r.length;rw[Qqd]at h;obtain⟨d,g⟩:∃d,ds[j]?=Y2 d:=⟨_,Qql (by omega)⟩
 obtain⟨x,k,q⟩:=J.get g;obtain⟨u,w,z⟩:=r.get k;have L:=Qq8.mp f _ (Qqm g)
 cases d with
 |int a=>
  cases q.int;obtain⟨t,rfl⟩:=z;exact⟨a,t,g,(Qjc _).trans (Qqk.mp w).2⟩
 |_=>cases L
def qi3(I:Inv X pins σ H s)(n)(A)(d e)(x y)(u v)(hu:A.units+n<cLine)(f:M.flat n d=Y0)(Z:M.flat n e=Y0)(hx:IsD X.K m H d x)(J:IsD X.K m H e y)(rx:RelV x u)(F:RelV y v):SeqAt.EqAt A s u v (M.eqT d e)/\SeqAt.RcAt A s u v (M.eqT d e):=by
 have q:A.units<cLine:=by omega
 cases d with
 |int a=>
  cases hx.int; obtain⟨z,rfl⟩:=rx
  cases e with
  |tup es=>obtain⟨b,ys,L,rfl,O,U,r2,p2⟩:=qz9 I J; cases F; exact⟨SeqAt.EqAt.int_tuple a z p2 q,SeqAt.RcAt.int_tuple a z p2 q⟩
  |int b=>cases J.int; obtain⟨t,rfl⟩:=F; exact⟨SeqAt.EqAt.int_int a z b t,SeqAt.RcAt.int_int a z b t⟩
  |str b=>cases J.str; obtain⟨t,rfl⟩:=F; exact⟨SeqAt.EqAt.int_str a z b t,SeqAt.RcAt.int_str a z b t⟩
  |_=>cases Z
 |str a=>
  cases hx.str; obtain⟨z,rfl⟩:=rx
  cases e with
  |tup es=>obtain⟨b,ys,L,rfl,O,U,r2,p2⟩:=qz9 I J; cases F; exact⟨SeqAt.EqAt.str_tuple a z p2 q,SeqAt.RcAt.str_tuple a z p2 q⟩
  |int b=>cases J.int; obtain⟨t,rfl⟩:=F; exact⟨SeqAt.EqAt.str_int a z b t,SeqAt.RcAt.str_int a z b t⟩
  |str b=>cases J.str; obtain⟨t,rfl⟩:=F; exact⟨SeqAt.EqAt.str_str a z b t,SeqAt.RcAt.str_str a z b t⟩
  |_=>cases Z
 |tup ds=>
  obtain⟨a,xs,a0,rfl,hq,ix,r1,p1⟩:=qz9 I hx;cases rx
  cases e with
  |int b=>cases J.int; obtain⟨t,rfl⟩:=F; exact⟨SeqAt.EqAt.tuple_int b t p1 q,SeqAt.RcAt.tuple_int b t p1 q⟩
  |str b=>cases J.str; obtain⟨t,rfl⟩:=F; exact⟨SeqAt.EqAt.tuple_str b t p1 q,SeqAt.RcAt.tuple_str b t p1 q⟩
  |tup es=>
   obtain⟨b,ys,L,rfl,O,U,r2,p2⟩:=qz9 I J;cases F;have rc:SeqAt.RcAt A s (.ref a) (.ref b) (M.eqTs ds es):=by
    have:=SeqAt.RcAt.tuples p1 p2 q (e:=pairE ds es) λj h1 h2=>by
     obtain⟨i,t,g,w⟩:=int_at f ix r1 h1;obtain⟨i',z,g',w'⟩:=int_at Z U r2 h2;rw[w,w'];unfold pairE;rw[g,g'];exact SeqAt.EqAt.int_int i t i' z
    rw[qwl,ix.length,U.length,r1.length,r2.length];simpa using this
   refine⟨?_,rc⟩
   by_cases Y:a=b
   ·subst Y;cases I.tuple_inj hq O;cases qyf f Z ix U;show SeqAt.EqAt A s _ _ (M.eqTs ds ds);rw[qwi f];exact SeqAt.EqAt.same _
   ·exact SeqAt.EqAt.of_refs Y rc
  |_=>cases Z
 |_=>cases f
end
end
end MS
end
section
namespace MS
open PySem PySem.Spec PyProof.Rows L2
section
end
end MS
end
section
namespace MS
open PySem PySem.Spec PyProof.Rows L2
open M (D Yc Yo Sl)
section
variable {X:Cx}
section
def qfo(I:Inv X pins σ H s)(A)(hu:A.units+9<cLine)(f0:M.flat 9 d0=Y0)(h0:IsD X.K m H d0 O)(r0:RelV O L):
  ∃e:Yv->Bool,∀(ds:List D) (xs:List V) (F:List Yv),M.flats 9 ds=Y0->IsDs X.K m H ds xs->Vals xs F->(∀w∈F,SeqAt.EqAt A s w L (e w))/\F.any e=ds.any λy=>M.eqT y d0:=by
 classical
 refine⟨λw=>decide (∃d x,M.flat 9 d=Y0/\IsD X.K m H d x/\RelV x w/\M.eqT d d0=Y0),λds=>?_⟩;have J:∀d x w,M.flat 9 d=Y0->IsD X.K m H d x->RelV x w->decide (∃d x,M.flat 9 d=Y0/\IsD X.K m H d x/\RelV x w/\M.eqT d d0=Y0)=M.eqT d d0:=by
  intro d x w f i r
  cases q:M.eqT d d0 with
  |true=>exact Z7 ⟨d,x,f,i,r,q⟩
  |false=>
   refine Z8 ?_;rintro⟨d',x',f',i',r',q'⟩;have e1:=r.inj r';subst e1;have e2:=qnf I f f' i i';subst e2;rw[q]at q';cases q'
 induction ds with
 |nil=>
  intro xs F _ Y r;rw[Y.nil]at r;cases r;exact⟨λw Z=>(by cases Z),rfl⟩
 |cons d ds ih=>
  intro xs F f Y r;obtain⟨x,xr,rfl,q,t⟩:=Y.cons;simp only[ Qzn,Qqo]at f
  cases r with
  |@cons _ u _ us U r2=>
   obtain⟨a1,a2⟩:=ih xr us f.2 t r2;refine⟨λw Z=>?_,?_⟩
   ·rcases Qqa.mp Z with z|z
    ·subst z;show SeqAt.EqAt A s w L (decide _);rw[J d x w f.1 q U];exact(qi3 I 9 A d d0 x O w L hu f.1 f0 q h0 U r0).1
    ·exact a1 w z
   ·rw[Qzd,Qzd,a2]
    congr 1
    exact J d x u f.1 q U
end
def qig(n)(hu:X.A.units+64<cLine):OpR X (Qi (cond n .NotIn .In)) (rD X.K λst a b=>(M.inD st a b).map λk=>(.bl (cond n (!k) k),st)):=by
 intro pins s σ H x y v u Q I rx Z h;refine h.el λm st a b d st' R0 i1 i2 e q=>qze e λk F Y=>?_;cases Y;have L:X.A.in1.units+9<cLine:=by have hz:X.A.in1.units=X.A.units+1:=rfl; lia
 have q:=q.here R0 (mkBl _)
 cases b with
 |tup ds=>
  simp only[M.inD]at F
  split at F
  ·rename_i hf;cases F;rw[Qqo]at hf;obtain⟨p,xs,z,rfl,hq,O,r,pl⟩:=qz9 I i2;cases Z;obtain⟨ef,U⟩:=qfo I X.A.in1 L hf.1 i1 rx;obtain⟨h1,h2⟩:=U ds xs z hf.2 O r;have e:z.toArray.any ef=z.any ef:=by simp
   rw[<- h2,<- e]at q;cases n
   ·exact SeqAt.in_tupleAt ef pl (λw J=>h1 w (by simpa using J)) ⟨.bl _,H,I,rfl,q⟩
   ·exact SeqAt.notIn_tupleAt ef pl (λw J=>h1 w (by simpa using J)) ⟨.bl _,H,I,rfl,q⟩
  ·exact nn F
 |loc l|lst l=>
  simp only[M.inD]at F;refine qzx F λds Y F=>?_
  split at F
  ·rename_i hf;cases F;rw[Qqo]at hf;obtain⟨p,xs,_,rfl,hq,O⟩:=R0.seq Y i2;cases Z;obtain⟨z,r,pl,_⟩:=I.list hq;obtain⟨ef,U⟩:=qfo I X.A.in1 L hf.1 i1 rx;obtain⟨h1,h2⟩:=U ds xs z hf.2 O r;have e:z.toArray.any ef=z.any ef:=by simp
   rw[<- h2,<- e]at q;cases n
   ·exact SeqAt.in_listAt ef pl.isList (λw J=>h1 w (by simpa using J)) ⟨.bl _,H,I,rfl,q⟩
   ·exact SeqAt.notIn_listAt ef pl.isList (λw J=>h1 w (by simpa using J)) ⟨.bl _,H,I,rfl,q⟩
  ·exact nn F
 |_=>simp[M.inD,M.seqAt]at F
def op_eqD(hu:X.A.units+64<cLine):OpR X (Qi .Eq) (rD X.K λst a b=>(M.eqD st a b).map λk=>(.bl k,st)):=by
 intro pins s σ H x y v u Q I z L h;refine h.el λm st a b d st' R0 F O e q=>qze e λk J Z=>?_;cases Z;unfold M.eqD at J
 split at J
 ·rename_i hf;cases J;rw[Qqo]at hf;have K:=q.here R0 (mkBl _)
  cases U:M.flat 9 b with
  |true=>exact(qi3 I 9 X.A a b x y v u (by lia) hf.1 U F O z L).2 _ _ _ _ ⟨.bl _,H,I,rfl,K⟩
  |false=>
   rw[U]at hf
   cases b with
   |non=>
    cases O.non; cases L
    cases a with
    |int i=>cases F.int; obtain⟨t,rfl⟩:=z; exact SeqAt.RcAt.int_none i t _ _ _ _ ⟨.bl _,H,I,rfl,K⟩
    |str i=>cases F.str; obtain⟨t,rfl⟩:=z; exact SeqAt.RcAt.str_none i t _ _ _ _ ⟨.bl _,H,I,rfl,K⟩
    |tup ds=>
     obtain⟨a,xs,Y,rfl,hq,ix,r1,p1⟩:=qz9 I F;cases z;exact SeqAt.RcAt.tuple_none p1 (by lia) _ _ _ _ ⟨.bl _,H,I,rfl,K⟩
    |_=>cases hf.1
   |_=>cases hf.2
 ·exact nn J
def op_neD:OpR X (Qi .NotEq) (rD X.K λst a b=>(M.neD st a b).map λk=>(.bl k,st)):=by
 intro pins s σ H x y v u Q I L J h;refine h.el λm st a b d st' Y U O e q=>qze e λk z Z=>?_;cases Z;unfold M.neD at z
 split at z
 ·cases z;cases U.int; cases O.int;obtain⟨t,rfl⟩:=L;obtain⟨F,rfl⟩:=J;exact SeqAt.RcNeAt.int_int _ t _ F _ _ _ _ ⟨.bl _,H,I,rfl,q.here Y (mkBl _)⟩
 ·cases z;cases U.str; cases O.str;obtain⟨t,rfl⟩:=L;obtain⟨F,rfl⟩:=J;exact SeqAt.RcNeAt.str_str _ t _ F _ _ _ _ ⟨.bl _,H,I,rfl,q.here Y (mkBl _)⟩
 ·exact nn z
def qao{K:Qqq}(h:IsD K m H d x):decide (x=.non)=M.isNon d:=by
 cases d with
 |non=>rw[h.non]; rfl
 |bl b=>rw[h.bl]; rfl
 |int b=>rw[h.int]; rfl
 |str b=>rw[h.str]; rfl
 |tup ds=>obtain⟨a,xs,rfl,_⟩:=h.tup; rfl
 |loc l=>obtain⟨a,_,rfl⟩:=h.loc; rfl
 |lst l=>obtain⟨a,xs,rfl,_⟩:=h.lst; rfl
 |fup l=>obtain⟨a,rfl,_⟩:=h.fup; rfl
def qxs(Y:X.A.units+64<cLine)(op):OpR X (Qi op) (rD X.K λst a b=>(M.cmpD st op a b).map λk=>(.bl k,st)):=by
 intro pins s σ H x y v u Q I J F h;obtain⟨m,st,a,b,d,st',U,O,L,e,q⟩:=h;refine qze e λk z Z=>?_;cases Z;unfold M.cmpD at z
 split at z
 ·cases z;exact op_lt pins s σ H x y v u Q I J F ⟨_,_,O.int,L.int,q.here U (mkBl _)⟩
 ·cases z;exact op_le pins s σ H x y v u Q I J F ⟨_,_,O.int,L.int,q.here U (mkBl _)⟩
 ·cases z;exact op_gt pins s σ H x y v u Q I J F ⟨_,_,O.int,L.int,q.here U (mkBl _)⟩
 ·cases z;exact op_ge pins s σ H x y v u Q I J F ⟨_,_,O.int,L.int,q.here U (mkBl _)⟩
 ·exact op_eqD Y pins s σ H x y v u Q I J F ⟨m,st,a,b,_,_,U,O,L,by dsimp only; rw[z]; rfl,q⟩
 ·exact op_neD pins s σ H x y v u Q I J F ⟨m,st,a,b,_,_,U,O,L,by dsimp only; rw[z]; rfl,q⟩
 ·cases z;refine op_isN pins s σ H x y v u Q I J F ⟨L.non,?_⟩;rw[qao O];exact q.here U (mkBl _)
 ·cases z;refine qmu pins s σ H x y v u Q I J F ⟨L.non,?_⟩;rw[qao O];exact q.here U (mkBl _)
 ·exact qig Y1 Y pins s σ H x y v u Q I J F ⟨m,st,a,b,_,_,U,O,L,by dsimp only; rw[z]; rfl,q⟩
 ·obtain⟨k,Z,rfl⟩:=mapD z;exact qig Y0 Y pins s σ H x y v u Q I J F ⟨m,st,a,b,_,_,U,O,L,by dsimp only; rw[Z]; rfl,q⟩
 ·exact nn z
def qlk{K:Qqq}{st:Yo}(L:Rel K m st H)(h:IsD K m H d x)(e:M.truth st d=Y2 k):TruV K x H k:=by
 cases d with
 |non=>rw[h.non]; simp only[M.truth]at e; exact(Option.some.inj e).symm
 |bl b=>rw[h.bl]; simp only[M.truth]at e; exact(Option.some.inj e).symm
 |int b=>rw[h.int]; simp only[M.truth]at e; exact(Option.some.inj e).symm
 |str b=>exact nn e
 |tup ds=>
  obtain⟨a,xs,rfl,z,q⟩:=h.tup;simp only[M.truth]at e;refine .inr (.inl ⟨xs,z,?_⟩);have:=q.length;cases e;cases ds<;>cases xs<;>simp_all
 |fup l=>exact nn e
 |loc l=>
  simp only[M.truth]at e;refine qze e λds J F=>?_;obtain⟨a,xs,_,rfl,z,q⟩:=L.seq J h;refine .inl ⟨xs,z,?_⟩;have:=q.length;subst F;cases ds<;>cases xs<;>simp_all
 |lst l=>
  simp only[M.truth]at e;refine qze e λds J F=>?_;obtain⟨a,xs,_,rfl,z,q⟩:=L.seq J h;refine .inl ⟨xs,z,?_⟩;have:=q.length;subst F;cases ds<;>cases xs<;>simp_all
def qi7{K:Qqq}(z:IsDs K m H ds xs)(e:M.atI ds i=Y2 d):∃x,L2.atI xs i=Y2 x/\IsD K m H d x:=by
 unfold M.atI at e;refine qzx e λj O L=>?_;obtain⟨x,J,q⟩:=z.get L;refine⟨x,?_,q⟩;unfold L2.atI;have F:L2.ixN xs.length i=Y2 j:=by rw[<- z.length]; exact O
 rw[F];exact J
def ix_D:IxR X (rD X.K λst a b=>(M.idxD st a b).map λd=>(d,st)):=by
 intro value z pins s σ H x y v u Q I rx ry h hs;obtain⟨m,st,a,b,d,st',Z,i1,i2,e,q⟩:=h;refine qze e λk F Y=>?_;cases Y;unfold M.idxD at F
 split at F
 ·obtain⟨p,xs,rfl,O,J⟩:=i1.tup;obtain⟨w,U,L⟩:=qi7 J F;exact ix_tup value z pins s σ H _ _ v u Q I rx ry ⟨p,xs,_,w,rfl,i2.int,O,U,q.here Z L⟩ hs
 ·refine qzx F λds Y F=>?_;obtain⟨p,xs,_,rfl,O,J⟩:=Z.seq Y i1;obtain⟨w,U,L⟩:=qi7 J F;exact qnb value z pins s σ H _ _ v u Q I rx ry ⟨p,xs,_,w,rfl,i2.int,O,U,q.here Z L⟩ hs
 ·exact nn F
def qbh:MtM X "list.append" (λx xs H Q=>∃m st a ds d st',Rel X.K m st H/\IsD X.K m H a x/\IsDs X.K m H ds xs/\M.mAppend st a ds=Y2 (d,st')/\Post X.K m H d st' Q):=by
 intro pins s σ H x xs v L Q I O U h;obtain⟨m,st,a,ds,d,st',J,i1,Z,e,q⟩:=h;unfold M.mAppend at e
 split at e
 ·refine qzx e λa0 e1 e=>?_
  split at e
  ·rename_i hl;have q:=q.of e;obtain⟨p,ys,hm,rfl,z,F,hs⟩:=J.wlist e1 i1;obtain⟨y,rfl,Y⟩:=Z.one;have l1:=F.length;have l2:=qqk;refine qds pins s σ H _ _ v L Q I O U ⟨p,ys,y,rfl,rfl,z,by lia,?_⟩;exact q _ m _ (Sub.refl m) (Tr.put z) (J.put hs hm z (F.append (qzm Y qqx))) qvj
  ·exact nn e
 ·exact nn e
def rSlD(K:Qqq):V->Option Int->Option Int->Hp->VK->Prop:=λx lo hi H Q=>∃m st a d st',Rel K m st H/\IsD K m H a x/\M.sliD st a lo hi=Y2 (d,st')/\Post K m H d st' Q
theorem _root_.MS.IsDs.take{K:Qqq}:∀{ds:List D}{xs:List V}(n:Nat),IsDs K m H ds xs->IsDs K m H (ds.take n) (xs.take n)
 |_,_,0,_=>by simp only[Qxl]; exact qqx
 |[],_,n+1,h=>by rw[h.nil]; simp only[List.take_nil]; exact qqx
 |d::ds,_,n+1,h=>by
  obtain⟨x,r,rfl,q,t⟩:=h.cons;simp only[List.take_succ_cons];exact qzm q (IsDs.take n t)
theorem _root_.MS.IsDs.drop{K:Qqq}:∀{ds:List D}{xs:List V}(n:Nat),IsDs K m H ds xs->IsDs K m H (ds.drop n) (xs.drop n)
 |_,_,0,h=>by simp only[List.drop_zero]; exact h
 |[],_,n+1,h=>by rw[h.nil]; simp only[List.drop_nil]; exact qqx
 |d::ds,_,n+1,h=>by
  obtain⟨x,r,rfl,q,t⟩:=h.cons;simp only[List.drop_succ_cons];exact IsDs.drop n t
def qa5(n d)(o):M.cutIx n d o=HT.sIx n d o:=by
 cases o<;>rfl
def qe2{K:Qqq}(h:IsDs K m H ds xs)(lo q):IsDs K m H (M.cut ds lo q) (cutV xs lo q):=by
 unfold M.cut cutV;rw[qa5,qa5,h.length];exact(h.drop _).take _
def sl_D:SlR X (rSlD X.K):=by
 intro pins s σ H x v vl vu lo hi sl Q I O hs pl U h;obtain⟨m,st,a,d,st',F,i1,e,q⟩:=h;unfold M.sliD at e
 split at e
 ·have q:=q.of e;obtain⟨p,xs,rfl,hx,Y⟩:=i1.tup;have ic:=qe2 Y lo hi
  by_cases J:HT.sIx xs.length 0 lo=0/\HT.sIx xs.length xs.length hi=xs.length
  ·cases O;obtain⟨Z,r,ht,hz⟩:=I.tuple hx;refine⟨"tuple",_,PyProof.Rows.slot_tuple_getitem.lookup,ht.typeIs,?_⟩;have z:Z.toArray.size=xs.length:=by rw[Qqd]; exact r.length.symm
   refine qxj ht hs pl U (by rw[z]; exact J) ?_;refine⟨.ref p,H,I,rfl,q.here F (qq3 hx ?_)⟩;have e1:cutV xs lo hi=xs:=by
    unfold cutV;rw[J.1,J.2];simp
   rw[e1]at ic;exact ic
  ·refine qiy pins s σ H _ v vl vu lo hi sl Q I O hs pl U ⟨p,xs,rfl,hx,J,λp' hp=>?_⟩;have L:=qzw (o:=.tup (cutV xs lo hi)) hp;exact q _ m _ (Sub.refl m) (Tr.of_same L) (F.same L) (qq3 (SqT.of qzk) (qzb (Sub.refl m) (Tr.of_same L) _ _ ic))
 ·refine qze e λds e1 e2=>?_;cases e2;obtain⟨p,xs,_,rfl,hq,Y⟩:=F.seq e1 i1;exact qlr pins s σ H _ v vl vu lo hi sl Q I O hs pl U ⟨p,xs,rfl,hq,λl hl=>q _ (m++[l]) _ (Sub.app m [l]) (Tr.of_same (qzw hl)) (F.new hl (qe2 Y lo hi)) F.newLoc⟩
def qfv:qqh X (.builtin "len") (rC X.K M.bLen):=by
 intro pins s σ H xs L Q I r h;refine h.el λm st ds d st' J O e q=>?_;unfold M.bLen at e
 split at e
 ·have q:=q.of e;obtain⟨x,rfl,i⟩:=O.one;obtain⟨p,ys,rfl,F,z⟩:=i.tup;refine qjz pins s σ H _ L Q I r ⟨p,ys,rfl,.inr F,?_⟩;rw[<- z.length];exact q.here J (mkInt _)
 ·refine qze e λZ Y U=>?_;cases U;obtain⟨x,rfl,i⟩:=O.one;obtain⟨p,ys,_,rfl,F,z⟩:=J.seq Y i;refine qjz pins s σ H _ L Q I r ⟨p,ys,rfl,.inl F,?_⟩;rw[<- z.length];exact q.here J (mkInt _)
 ·exact nn e
def qfx(J:X.calm=Y0):qqh X (.builtin "min") (rC X.K M.bMin):=by
 intro pins s σ H xs z Q I r h;refine h.el λm st ds d st' L F e q=>?_;unfold M.bMin at e
 split at e
 ·have q:=q.of e;obtain⟨x,y,rfl,i,j⟩:=F.two;cases i.int; cases j.int;exact qfj J pins s σ H _ z Q I r ⟨_,_,rfl,q.here L (mkInt _)⟩
 ·exact nn e
def qyr:qqh X (.type "tuple") (rC X.K M.bTuple):=by
 intro pins s σ H xs O Q I r h;refine h.el λm st ds d st' L U e q=>?_;unfold M.bTuple at e
 split at e
 ·have q:=q.of e;obtain⟨x,rfl,i⟩:=U.one;obtain⟨p,ys,rfl,z,J⟩:=i.tup;exact qxo pins s σ H _ O Q I r ⟨p,ys,rfl,.inr ⟨z,q.here L (qq3 z J)⟩⟩
 ·refine qze e λa0 e1 Z=>?_;cases Z;obtain⟨x,rfl,i⟩:=U.one;obtain⟨p,ys,_,rfl,z,J⟩:=L.seq e1 i;refine qxo pins s σ H _ O Q I r ⟨p,ys,rfl,.inl ⟨z,λl Y=>?_⟩⟩;have F:=qzw (o:=.tup ys) Y;exact q _ m _ (Sub.refl m) (Tr.of_same F) (L.same F) (qq3 (SqT.of qzk) (qzb (Sub.refl m) (Tr.of_same F) _ _ J))
 ·exact nn e
theorem qjt:∀{xs}{vs}{L},KV xs vs->L.length=vs.length->(∀(j:Nat) (v:Yv),L[j]?=Y2 v->∃k x,vs[j]?=Y2 (k,x)/\(mixKind P w).is k v=Y0)->Vals (xs.map λp=>kV p.1) L
 |[],_,L,.nil,q,_=>by
  rw[Qz1.mp q];exact .nil
 |(k,x)::xs,(Z,u)::vs,[],.cons _ _,q,_=>by cases q
 |(k,x)::xs,(Z,u)::vs,v::L,.cons h r,q,J=>by
  obtain⟨k2,x2,e,hk⟩:=J 0 v rfl;cases e;have F:=h.1;subst F;refine .cons ?_ (qjt (P:=P) (w:=w) r (by simpa using q) λj U e=>?_)
  ·rcases qzg hk with⟨i,t,rfl,rfl⟩|⟨z,t,rfl,rfl⟩
   ·exact⟨t,rfl⟩
   ·exact⟨t,rfl⟩
  ·obtain⟨Y,O,e3,h3⟩:=J (j+1) U (by simpa using e);exact⟨Y,O,by simpa using e3,h3⟩
theorem IsKV.keys{K:Qqq}:∀{kvs}{xs},IsKV K m H kvs xs->IsDs K m H (M.keysOf kvs) (xs.map λp=>kV p.1)
 |[],_,h=>by rw[show _=[] from h]; exact qqx
 |p::r,_,⟨k,v,J,e,q,L,F⟩=>by
  subst e;refine qzm ?_ F.keys;obtain⟨d,e⟩:=p
  cases d with
  |int i=>cases q; exact mkInt i
  |str z=>cases q; exact mkStr z
  |_=>exact nn q
theorem Rel.dkeys{K:Qqq}{st:Yo}(h:Rel K m st H)(e:M.dkeys st d=Y2 ds)(q:IsD K m H d v):∃a xs,v=.ref a/\Rd H a (.dK xs)/\IsDs K m H ds (xs.map λp=>kV p.1):=by
 cases d with
 |loc l=>
  obtain⟨kvs,J,rfl⟩:=mapD e;obtain⟨a,xs,_,rfl,z,F⟩:=h.dict J q;exact⟨a,xs,rfl,z,F.keys⟩
 |_=>exact nn e
def qeu(I:Inv X q F H s)(e:Rd H a (.dK xs)):∃vs ep,KV xs vs/\s.heap.DictAt (mixKind X.prog X.w) a vs ep/\(a==Qm)=Y1/\vs.length<=sizeLine:=by
 obtain⟨J,lo,vs,z,o,es,ep,r⟩:=qvf I.hok e;exact⟨vs,ep,z,⟨o,es,r⟩,lo,by rw[<- z.length]; exact J⟩
def qka(Z:X.A.handled=Y3):qqh X (.type "list") (λxs H Q=>∃p ys,xs=[.ref p]/\Rd H p (.dK ys)/\∀l,H l=Y3->Q (.ref l) (upd H l (.lst (ys.map λq=>kV q.1)))):=by
 intro pins s σ H xs us Q I r h;obtain⟨p,ys,rfl,U,q⟩:=h;obtain⟨u,rfl,L⟩:=vals1 r;cases L;obtain⟨vs,ep,F,da,lo,hn⟩:=qeu I U;refine PySem.W.kdl_call (PySem.W.kdl_dict lo) Z da hn λh' tk z c Y hS J=>?_;have O:=qjt F (by rw[Qzf]; exact J.1) λj v e=>J.2 j v (by rw[<- Qq0]; exact e);refine⟨.ref s.heap.objs.size,_,I.laid Y (Qqj _) (show ObjOk X.prog X.w _ h' _ (.lst (ys.map λq=>kV q.1)) from⟨?_,z.toList,c,O,hS⟩),rfl,q _ (I.hok.fresh (Qqj _))⟩;rw[Qqz,F.length]; exact hn
def qyp(K:PySem.W.KdlSrc X.prog X.w T r d n P Y)(hh:A.handled=Y3)(hok:Y s.heap)(hn:n<=sizeLine)(h:∀(z:Heap) (k:Nat) (vs:Array Yv),(∀b o,s.heap.get? b=Y2 o->z.get? b=Y2 o)->s.heap.objs.size<z.objs.size->ItemsOf P vs n->R vs.toList { s with heap:=z,toks:=k }):wpAny (model X.prog X.w) A (collect (.ref r)) R E s:=by
 have lt:=K.there _ hok
 let g:=s.heap.objs.size
 let U:=s.heap.push { cls:=.type "list",data:=.seq ([]:List Yv).toArray }
 have hg:U.get? g=Y2 { cls:=.type "list",data:=.seq #[] }:=Qqc _ rfl;have ext:=PySem.W.kdl_extend (s:={ s with heap:=U }) (R:=λq O=>∃(z:Heap) (k:Nat) (vs:Array Yv) (c:Nat),q=.ok (.ret (.ref g))/\O={ s with heap:=z,toks:=k }/\(∀b o,s.heap.get? b=Y2 o->z.get? b=Y2 o)/\z.get? g=Y2 { cls:=.type "list",dict:=Y3,data:=.seq vs c,slots:=#[] }/\ItemsOf P vs n)
  K hh (K.keep _ _ hok λb _ o e=>Qqx _ e) g (Qxw lt.1) (Qxw lt.2) (.ref g) 0 hg
  (λz k vs c L F J=>⟨z,k,vs,c,rfl,rfl,λb o e=>L b o (Qq1 (Qqe e)) (Qqx _ e),F,J⟩) hn
 unfold collect;apply Qq;apply wpAny_runValue;apply Zf entry_proto_collect';rw[Around.under_plainId PySem.F.plain_proto_collect _];apply Qq;refine Qf (Qx ⟨plainId_quiet PySem.F.plain_list_iadd _,?_⟩);apply Zf entry_list_iadd';rw[Around.under_plainId PySem.F.plain_list_iadd _];refine Ql (ext) (λfi O x=>?_) λe O x=>?_
 ·cases fi with
  |done f=>
   rcases x with⟨z,k,vs,c,e,rfl,L,F,J⟩
   cases e;apply Qq;apply wpAny_load F;exact Qx (h z k vs L (Qqe F) J)
  |again c=>
   rcases x with⟨x1,Z⟩
   refine⟨x1,Zk Z λa0 s2 y=>?_⟩
   rcases y with⟨z,k,vs,c,rfl,rfl,L,F,J⟩
   apply Qq;apply wpAny_load F;exact Qx (h z k vs L (Qqe F) J)
 ·rcases x with⟨_,_,_,_,e,_⟩
  cases e
def qbv(K:PySem.W.KdlSrc X.prog X.w T r d n P OK)(hh:A.handled=Y3)(hok:OK s.heap)(hn:n<64)(hP:∀vs:List Yv,vs.length=n->(∀(j:Nat) (v:Yv),vs[j]?=Y2 v->P j v)->Z0 vs ns)(h:∀(a:Ya) (h':Heap) (Y e:Nat) (F:Array Yv) (z:List Int),(∀b o,s.heap.get? b=Y2 o->h'.get? b=Y2 o)->s.heap.objs.size<=a->h'.get? a=Y2 (seqObj "list" F e)->Z0 F.toList z->z.Perm ns->z.Pairwise (· <= ·)->Q (.ref a) { s with heap:=h',toks:=Y }):
  wpAny (model X.prog X.w) A (call (.builtin "sorted") [.ref r]) Q E s:=by
 have L:n<=sizeLine:=by rw[Q5]; lia
 apply PySem.Calls.call_function_entry kind_sorted plain_sorted entry_sorted (args_sorted1 _);unfold Q0.«sorted»;apply Qq;apply Qx;apply Qq;apply qyp (A:=A.in1) K hh hok L;intro h1 Y J hk O hI;have Z:J.toList.length=n:=by rw[Qzf]; exact hI.1
 have hi:=hP J.toList Z λj v e=>hI.2 j v (by rw[<- Qq0]; exact e);apply Qq;refine wpAny_newList ?_ (by rw[Z]; exact L);have U:(h1.push (seqObj "list" J.toList.toArray 0)).get? h1.objs.size=Y2 (seqObj "list" J.toList.toArray 0):=Qqc _ rfl;apply Qq;apply Q2;refine Qc slot_list_sort ⟨_,U,rfl⟩ entry_list_sort (list_sort_tree U hi (by lia) λF z a1 a2 a3=>⟨_,rfl,?_⟩) (args_list_sort _);obtain⟨e,he⟩:=sortedHeap_at U;refine Qx ⟨_,rfl,h _ _ _ e F z (λb o q=>?_) ?_ he a1 a2 a3⟩
 ·have hb:=Qqe (hk b o q);exact(sortedHeap_old (Qq1 hb) (by rw[size_push']; exact Qxi hb)).trans (Qqx _ (hk b o q))
 ·exact Qjb O
def qb4(Z:X.A.handled=Y3):qqh X (.type "list") (rC X.K M.bList):=by
 intro pins s σ H xs U Q I r h;refine h.el λm st ds d st' F Y e q=>?_;unfold M.bList at e
 split at e
 ·have q:=q.of e;obtain⟨x,rfl,i⟩:=Y.one;obtain⟨p,ys,rfl,L,J⟩:=i.tup;exact qx9 pins s σ H _ U Q I r ⟨p,ys,rfl,.inr L,λl z=>q _ (m++[l]) _ (Sub.app m [l]) (Tr.of_same (qzw z)) (F.new z J) F.newLoc⟩
 ·refine qze e λa0 O e2=>?_;cases e2;obtain⟨x,rfl,i⟩:=Y.one;rcases orO O with O|O
  ·obtain⟨p,ys,_,rfl,L,J⟩:=F.seq O i;exact qx9 pins s σ H _ U Q I r ⟨p,ys,rfl,.inl L,λl z=>q _ (m++[l]) _ (Sub.app m [l]) (Tr.of_same (qzw z)) (F.new z J) F.newLoc⟩
  ·obtain⟨p,ys,rfl,L,J⟩:=F.dkeys O i;exact qka Z pins s σ H _ U Q I r ⟨p,ys,rfl,L,λl z=>q _ (m++[l]) _ (Sub.app m [l]) (Tr.of_same (qzw z)) (F.new z J) F.newLoc⟩
 ·exact nn e
theorem qvn{K:Qqq}:∀{ds}{xs}{z}{bs},M.asBools ds=Y2 bs->IsDs K m H ds xs->Vals xs z->LSm.BoolsAre z bs
 |[],_,_,_,e,F,r=>by
  rw[F.nil]at r;cases r;cases e;exact .nil
 |d::ds,_,_,_,e,F,r=>by
  obtain⟨x,Z,rfl,q,t⟩:=F.cons
  cases d with
  |bl b=>
   simp only[M.asBools]at e;refine qze e λY U O=>?_;subst O;cases q.bl
   cases r with
   |cons L J=>
    cases L;exact .cons b (qvn U t J)
  |_=>simp[M.asBools]at e
theorem ints_of{K:Qqq}:∀{ds}{xs}{ns},M.asInts ds=Y2 ns->IsDs K m H ds xs->xs=ns.map V.int/\ds=ns.map D.int
 |[],_,_,e,z=>by
  cases e;exact⟨z.nil,rfl⟩
 |d::ds,_,_,e,z=>by
  obtain⟨x,O,rfl,q,t⟩:=z.cons
  cases d with
  |int b=>
   simp only[M.asInts]at e;refine qze e λL J F=>?_;subst F;cases q.int;obtain⟨h1,h2⟩:=ints_of J t;rw[h1,h2];exact⟨rfl,rfl⟩
  |_=>simp[M.asInts]at e
def qfb(hc:X.calm=Y0):qqh X (.builtin "all") (rC X.K M.bAll):=by
 intro pins s σ H xs us Q I r h;refine h.el λm st ds d st' U ix e q=>?_;unfold M.bAll at e
 split at e
 ·refine qzx e λa0 e1 e=>qze e λbs e2 e3=>?_;cases e3;obtain⟨x,rfl,i⟩:=ix.one;obtain⟨p,ys,_,rfl,hq,iy⟩:=U.seq e1 i;obtain⟨u,rfl,Z⟩:=vals1 r;cases Z;obtain⟨z,Y,pl,_⟩:=I.list hq;have L:=qvn e2 iy Y;have J:=pl.isList;have F:p<s.heap.objs.size:=by obtain⟨_,e,_⟩:=id J; exact Qqe e
  refine call_all_walk (Zx J ?_)
  refine⟨s.heap.objs.size,[s.heap.objs.size,p],[s.heap.objs.size],z.toArray.size,_,_,λi=>(bs[i]?).getD Y0,rfl,Walks.list (A:=X.A.in1) (I.ok.hd hc) _ p (Qq1 F) z.toArray,
   ⟨⟨_,Qqc _ rfl,rfl,rfl⟩,J.push _⟩,λi v s' Q' E' hP O=>?_,λh' tk hk=>?_⟩
  ·obtain⟨b,e,rfl⟩:=L.get i v (by simpa using hP);simp only[e]at O;exact Qg O
  ·have e:((List.range z.toArray.size).all λi=>(bs[i]?).getD Y0)=bs.all id:=by
    rw[Qqd,L.length]; exact LSm.range_all bs
   rw[e];exact⟨.bl _,H,I.kept (LSm.kept_iter hk),rfl,q.here U (mkBl _)⟩
 ·exact nn e
def range_any(bs:List Bool):((List.range bs.length).any λi=>(bs[i]?).getD Y1)=bs.any id:=by
 rw[Qxg,Qxo,Qxo];constructor
 ·rintro⟨i,hi,h⟩;have hi:=Qz7.mp hi;rw[Qql hi]at h;exact⟨bs[i],Qxp hi,h⟩
 ·rintro⟨b,q,h⟩;obtain⟨i,hi,rfl⟩:=Qz4 q;exact⟨i,Qz7.mpr hi,by rw[Qql hi]; exact h⟩
def qfa(hc:X.calm=Y0):qqh X (.builtin "any") (rC X.K M.bAny):=by
 intro pins s σ H xs us Q I r h;refine h.el λm st ds d st' U ix e q=>?_;unfold M.bAny at e
 split at e
 ·refine qzx e λa0 e1 e=>qze e λbs e2 e3=>?_;cases e3;obtain⟨x,rfl,i⟩:=ix.one;obtain⟨p,ys,_,rfl,hq,iy⟩:=U.seq e1 i;obtain⟨u,rfl,Z⟩:=vals1 r;cases Z;obtain⟨z,Y,pl,_⟩:=I.list hq;have L:=qvn e2 iy Y;have J:=pl.isList;have F:p<s.heap.objs.size:=by obtain⟨_,e,_⟩:=id J; exact Qqe e
  refine call_any_walk (Zx J ?_)
  refine⟨s.heap.objs.size,[s.heap.objs.size,p],[s.heap.objs.size],z.toArray.size,_,_,λi=>(bs[i]?).getD Y1,rfl,Walks.list (A:=X.A.in1) (I.ok.hd hc) _ p (Qq1 F) z.toArray,
   ⟨⟨_,Qqc _ rfl,rfl,rfl⟩,J.push _⟩,λi v s' Q' E' hP O=>?_,λh' tk hk=>?_⟩
  ·obtain⟨b,e,rfl⟩:=L.get i v (by simpa using hP);simp only[e]at O;exact Qg O
  ·have e:((List.range z.toArray.size).any λi=>(bs[i]?).getD Y1)=bs.any id:=by
    rw[Qqd,L.length]; exact range_any bs
   rw[e];exact⟨.bl _,H,I.kept (LSm.kept_iter hk),rfl,q.here U (mkBl _)⟩
 ·exact nn e
theorem qyq:∀(ns:List Int) (k:Nat),preSum (λi=>(ns[i]?).getD 0) k=(ns.take k).sum
 |ns,0=>by rw[Qxl]; rfl
 |ns,k+1=>by
  show preSum _ k+(ns[k]?).getD 0=_;rw[qyq ns k,Qx6];cases ns[k]?<;>simp
theorem qiv:∀(ns:List Int),(∀n∈ns,-(2 ^ 40)<=n/\n<=2 ^ 40)->-(2 ^ 40)*(ns.length:Int)<=ns.sum/\ns.sum<=2 ^ 40*(ns.length:Int)
 |[],_=>⟨by decide,by decide⟩
 |a::r,h=>by
  have h1:=h a (.head _);have h2:=qiv r λn hn=>h n (.tail _ hn);rw[Qzo,Qqg]
  lia
def qe9(hc:X.calm=Y0):qqh X (.builtin "sum") (rC X.K M.bSum):=by
 intro pins s σ H xs us Q I r h;refine h.el λm st ds d st' R0 ix e q=>?_;unfold M.bSum at e
 split at e
 ·refine qzx e λa0 e1 e=>qzx e λns e2 Y=>?_
  split at Y
  ·rename_i hok;have q:=q.of Y;obtain⟨x,rfl,i⟩:=ix.one;obtain⟨p,ys,_,rfl,hq,iy⟩:=R0.seq e1 i;obtain⟨u,rfl,L⟩:=vals1 r;cases L;obtain⟨z,Z,pl,_⟩:=I.list hq;obtain⟨e4,e5⟩:=ints_of e2 iy;subst e4;have U:=pl.isList;have F:p<s.heap.objs.size:=by obtain⟨_,e,_⟩:=id U; exact Qqe e
   have O:=Z.length;rw[Qqz]at O;unfold M.sumOk at hok;simp only[Qqo,decide_eq_true_eq,Qq8]at hok;refine call_sum_walk (Zx U ?_)
   refine⟨s.heap.objs.size,[s.heap.objs.size,p],[s.heap.objs.size],z.toArray.size,_,_,λi=>(ns[i]?).getD 0,rfl,Walks.list (A:=X.A.in1) (I.ok.hd hc) _ p (Qq1 F) z.toArray,
    ⟨⟨_,Qqc _ rfl,rfl,rfl⟩,U.push _⟩,λb hb=>?_,λi v hP=>?_,λj hj=>?_,λh' tk t' hk=>?_⟩
   ·rw[Qz0];simp only[Qqa,Qzx,or_false]at hb;rcases hb with rfl|rfl
    ·exact Qzb _
    ·exact Qxi F
   ·have hv:z[i]?=Y2 v:=by simpa using hP
    have hi:i<ns.length:=by rw[O]; exact(Qqk.mp hv).1
    obtain⟨u,hu,L⟩:=Z.get (by rw[Qqv,Qql hi]; rfl);rw[hv]at hu;cases hu;obtain⟨t,rfl⟩:=L;exact⟨t,by show _=Value.int ((ns[i]?).getD 0) t; rw[Qql hi]; rfl⟩
   ·have J:j<ns.length:=by rw[O]; simpa using hj
    have h1:=hok.2 _ (Qxp J);have h2:=qiv (ns.take (j+1)) λn hn=>hok.2 n (Qxr hn);have h3:(ns.take (j+1)).length<=1000000:=by rw[Qzz]; lia
    rw[qyq];show InLong ((ns[j]?).getD 0)/\_;rw[Qql J];exact⟨⟨by show _<=ns[j]; lia,by show ns[j]<_; lia⟩,by lia,by lia⟩
   ·rw[qyq,Qxv (by simp; lia)];exact⟨.int _,H,I.kept (LSm.kept_iter hk),⟨t',rfl⟩,q.here R0 (mkInt _)⟩
  ·exact nn Y
 ·exact nn e
theorem qxx(x):∀l:List Int,(M.insInt x l).Perm (x::l)
 |[]=>.refl _
 |y::r=>by
  unfold M.insInt
  split
  ·exact .refl _
  ·exact((qxx x r).cons y).trans (.swap x y r)
theorem qz3:∀l:List Int,(M.sortInt l).Perm l
 |[]=>.refl _
 |x::r=>by
  unfold M.sortInt;exact(qxx x _).trans ((qz3 r).cons x)
theorem qxl(x):∀l:List Int,l.Pairwise (· <= ·)->(M.insInt x l).Pairwise (· <= ·)
 |[],_=>by unfold M.insInt; simp
 |y::r,h=>by
  unfold M.insInt
  split
  ·rename_i F;refine List.Pairwise.cons (λz q=>?_) h;rcases Qqa.mp q with e|e
   ·rw[e]; exact F
   ·exact Int.le_trans F ((Qxh.mp h).1 z e)
  ·rename_i F;have h':=Qxh.mp h;refine List.Pairwise.cons (λz q=>?_) (qxl x r h'.2);rcases Qqa.mp ((qxx x r).mem_iff.mp q) with e|e
   ·rw[e]; lia
   ·exact h'.1 z e
theorem qqv:∀l:List Int,(M.sortInt l).Pairwise (· <= ·)
 |[]=>by unfold M.sortInt; simp
 |x::r=>by
  unfold M.sortInt;exact qxl x _ (qqv r)
theorem qxh{K:Qqq}:∀(ns:List Int),IsDs K m H (ns.map D.int) (ns.map V.int)
 |[]=>qqx
 |n::r=>qzm (mkInt n) (qxh r)
def qws(hh:X.A.handled=Y3):qqh X (.builtin "sorted") (rC X.K M.bSorted):=by
 intro pins s σ H xs us Q I r h;refine h.el λm st ds d st' F ix e q=>?_;unfold M.bSorted at e
 split at e
 ·refine qzx e λa5 U e=>qze e λns Y e3=>?_;cases e3
  split at Y
  ·exact nn Y
  ·rename_i a6;obtain⟨x,rfl,i⟩:=ix.one;rcases orO U with U|U
   case inr=>
    obtain⟨p,ys,rfl,hq,J⟩:=F.dkeys U i;obtain⟨u,rfl,Z⟩:=vals1 r;cases Z;obtain⟨vs,ep,kv,da,lo,hn⟩:=qeu I hq;obtain⟨e4,e5⟩:=ints_of Y J;have l1:=J.length;rw[Qqz]at l1;have l5:=kv.length;refine qbv (ns:=ns) (PySem.W.kdl_dict lo) hh da (by lia) (λL hl hv=>?_) λa h1 tk c z a0 hk ha he a1 a2 a3=>?_
    ·have r2:=qjt kv hl hv;rw[e4]at r2;exact intsAre_of r2
    ·have e6:=PySem.W.ksm_same (a2.trans (qz3 ns).symm) a3 (qqv ns);subst e6;have l3:=(qz3 ns).length_eq;have l4:=qqk;have l6:ns.length=a5.length:=by
      have:=congrArg List.length e5;rw[Qqz]at this;exact this.symm
     have O:=I.hok.fresh ha;refine⟨.ref a,upd H a (.lst ((M.sortInt ns).map V.int)),I.laid hk ha ⟨?_,z.toList,c,qxk a1,?_⟩,rfl,?_⟩
     ·rw[Qqz,l3,l4];unfold M.lim
      lia
     ·rw[he]
     ·exact q _ (m++[_]) _ (Sub.app m _) (Tr.of_same (qzw O)) (F.new O (qxh _)) F.newLoc
   obtain⟨p,ys,_,rfl,hq,J⟩:=F.seq U i;obtain⟨u,rfl,Z⟩:=vals1 r;cases Z;obtain⟨a4,rv,pl,_⟩:=I.list hq;obtain⟨e4,e5⟩:=ints_of Y J;have l1:=J.length;have l2:=rv.length;subst e4;have hI:=intsAre_of rv;refine sorted_ints pl.isList hI (by lia) λz a0 a1 a2 a3=>?_;have e6:=PySem.W.ksm_same (a2.trans (qz3 ns).symm) a3 (qqv ns);subst e6;obtain⟨ep,he⟩:=sortedAll_at s.heap a4 z;have O:=I.hok.fresh (Qxq _);have l3:=(qz3 ns).length_eq;have l4:=qqk;rw[Qqz]at l1;refine⟨.ref (s.heap.objs.size+1),upd H (s.heap.objs.size+1) (.lst ((M.sortInt ns).map V.int)),I.laid (λb o e=>sortedAll_old e) (Qxq _) ?_,rfl,?_⟩
   ·refine⟨?_,z.toList,ep,qxk a1,?_⟩
    ·rw[Qqz,l3,l4];unfold M.lim
     lia
    ·rw[he]
   ·exact q _ (m++[_]) _ (Sub.app m _) (Tr.of_same (qzw O)) (F.new O (qxh _)) F.newLoc
 ·exact nn e
def qd7(K)(n t)(q:t≠.non):PySem.W.kitOne K (.type n.name) (.type t.name)=Y2 (M.tyIs t n):=by
 cases n<;>cases t<;>first
  |exact absurd rfl q
  |rfl
  |decide +kernel
theorem qd8(K)(n):∀q:List M.Ty,(∀t∈q,t≠.non)->PySem.W.kitAny K (.type n.name) (q.map λt=>Value.type t.name)=Y2 (q.any λt=>M.tyIs t n)
 |[],_=>rfl
 |t::q,h=>by
  rw[Qqb,Qzd];unfold PySem.W.kitAny;rw[qd7 K n t (h t Qq6)]
  cases M.tyIs t n with
  |true=>rfl
  |false=>exact qd8 K n q λz F=>h z (Qqt _ F)
def qil{st:Yo}(I:Inv X q σ H s)(Y:Rel X.K m st H)(h:IsD X.K m H d x)(r:RelV x u)(e:M.tyName st d=Y2 n):
  ∃Z:Heap->Prop,PySem.W.KitX X.K u (.type n.name) Z/\Z s.heap/\u≠.builtin "__main__.__loader__#opaque":=by
 cases d with
 |non=>cases h.non; cases r; cases e; exact⟨_,PySem.W.kitx_none,True.intro,λz=>nomatch z⟩
 |bl b=>cases h.bl; cases r; cases e; exact⟨_,PySem.W.kitx_bool,True.intro,λz=>nomatch z⟩
 |int b=>cases h.int; obtain⟨t,rfl⟩:=r; cases e; exact⟨_,PySem.W.kitx_int,True.intro,λz=>nomatch z⟩
 |str b=>cases h.str; obtain⟨t,rfl⟩:=r; cases e; exact⟨_,PySem.W.kitx_str,True.intro,λz=>nomatch z⟩
 |tup ds=>
  obtain⟨a,xs,F,rfl,J,U,r1,p1⟩:=qz9 I h;cases r;cases e;obtain⟨o,h1,h2,_⟩:=p1;exact⟨_,PySem.W.kitx_tuple,⟨o,h1,h2⟩,λz=>nomatch z⟩
 |fup l=>exact nn e
 |loc l=>
  simp only[M.tyName]at e;refine qze e λds O L=>?_;subst L;obtain⟨a,xs,_,rfl,J,U⟩:=Y.seq O h;cases r;obtain⟨F,rv,pl,_⟩:=I.list J;obtain⟨o,h1,h2,_⟩:=pl.isList;exact⟨_,PySem.W.kitx_list,⟨o,h1,h2⟩,λz=>nomatch z⟩
 |lst l=>
  simp only[M.tyName]at e;refine qze e λds O L=>?_;subst L;obtain⟨a,xs,_,rfl,J,U⟩:=Y.seq O h;cases r;obtain⟨F,rv,pl,_⟩:=I.list J;obtain⟨o,h1,h2,_⟩:=pl.isList;exact⟨_,PySem.W.kitx_list,⟨o,h1,h2⟩,λz=>nomatch z⟩
def rIsi1(K:Qqq)(t:M.Ty):List V->Hp->VK->Prop:=λxs H Q=>∃m st d n x,xs=[x,.ty t.name]/\Rel K m st H/\IsD K m H d x/\M.tyName st d=Y2 n/\Q (.bl (M.tyIs t n)) H
def qfy(t)(L:t≠.non):qqh X (.builtin "isinstance") (rIsi1 X.K t):=by
 intro pins s σ H xs U Q I r h;obtain⟨m,st,d,n,x,rfl,O,i,e,q⟩:=h;obtain⟨u,w,rfl,F,z⟩:=vals2 r;cases z;obtain⟨Y,Z,p,J⟩:=qil I O i F e;exact PySem.W.kia_one Z I.kIn p (qd7 X.K n t L) J λtk=>⟨.bl _,H,I.tok tk,rfl,q⟩
def rIsiN(K:Qqq)(ts:List M.Ty):List V->Hp->VK->Prop:=λxs H Q=>∃m st d n x p,xs=[x,.ref p]/\H p=Y2 (.tup (ts.map λt=>V.ty t.name))/\Rel K m st H/\IsD K m H d x/\M.tyName st d=Y2 n/\Q (.bl (ts.any λt=>M.tyIs t n)) H
theorem qyu:∀{z:List M.Ty}{us:List Yv},Vals (z.map λt=>V.ty t.name) us->us=z.map λt=>Value.type t.name
 |[],_,.nil=>rfl
 |t::z,_,.cons r q=>by
  cases r;rw[qyu q]
  rfl
def qfw(z)(ht:∀t∈z,t≠.non):qqh X (.builtin "isinstance") (rIsiN X.K z):=by
 intro pins s σ H xs us Q I r h;obtain⟨m,st,d,n,x,p,rfl,hp,R0,i,e,q⟩:=h;obtain⟨u,w,rfl,U,F⟩:=vals2 r;cases F;obtain⟨Hf,Z,Y,hx⟩:=qil I R0 i U e;obtain⟨_,a0,O,⟨cls,dd,L,sl⟩,h1,h2,nn,J⟩:=I.hok p _ hp;have e1:=qyu O;subst e1;simp only at h2 J;subst h2 J;exact PySem.W.kia_tup Z I.kIn Y h1 (qd8 X.K n z ht) hx λtk=>⟨.bl _,H,I.tok tk,rfl,q⟩
end
end MS
end
section
namespace MS
open PySem PySem.Spec PyProof.Rows L2
noncomputable def qxn(cells:List (Yb×Ya)):List (Yb×Qn)->List (Yb×Ya)->List (Yb×Ya)
 |[],acc=>acc
 |(n,k)::r,acc=>qxn cells r (if k==.free then(match cells.lookup n with|some a=>(n,a)::acc|none=>acc) else acc)
def qe5:∀(names:List (Yb×Qn)) (q:List (Yb×Ya)),(∀x∈names,x.2=.free->∃c,env.cells.lookup x.1=Y2 c)->
  (forIn names q λx r=>match x,r with
   |(name,kind),cs=>if (kind==.free)=Y0 then do let a <- cellOf env name; pure (ForInStep.yield ((name,a)::cs)) else pure (ForInStep.yield cs):Sem (List (Yb×Ya)))=pure (qxn env.cells names q):=by
 intro names
 induction names with
 |nil=>intro q _; rfl
 |cons x r U=>
  intro q h;obtain⟨n,k⟩:=x;rw[List.forIn_cons];have F:=λq=>U q λy Y=>h y (Qqt _ Y)
  by_cases J:k=.free
  ·subst J;obtain⟨c,L⟩:=h (n,.free) Qq6 rfl;simp only[ cellOf,L];simp only[pure_bind];refine(F ((n,c)::q)).trans ?_;have z:=L;simp[qxn,z]
  ·have O:(k==NameKind.free)=false:=by simpa using J
   simp only[O,pure_bind];refine(F q).trans ?_;simp[qxn,O]
def qvg(h:∀x∈q.names,x.2=.free->∃c,env.cells.lookup x.1=Y2 c):closureFor q env=pure (qxn env.cells q.names []):=by
 unfold closureFor;have:=qe5 q.names [] h;simp only[this]
 rfl
theorem qvh(J:q.lookup x=Y2 c):∀(names:List (Yb×Qn)) (z:List (Yb×Ya)),((x,NameKind.free)∈names\/z.lookup x=Y2 c)->(qxn q names z).lookup x=Y2 c
 |[],z,h=>by
  rcases h with h|h
  ·cases h
  ·exact h
 |(n,k)::r,z,h=>by
  unfold qxn;refine qvh J r _ ?_
  by_cases F:k=.free
  ·subst F;simp only[beq_self_eq_true,if_true]
   by_cases hn:n=x
   ·subst hn;rw[J];exact .inr (by simp)
   ·rcases h with h|h
    ·rcases Qqa.mp h with e|e
     ·cases e; exact absurd rfl hn
     ·exact .inl e
    ·refine .inr ?_
     split
     ·have:(x==n)=false:=by simpa using Ne.symm hn
      rw[Qzw,this]; exact h
     ·exact h
  ·have L:(k==NameKind.free)=false:=by simpa using F
   rw[L,Z9 Qq7];rcases h with h|h
   ·rcases Qqa.mp h with e|e
    ·cases e; exact absurd rfl F
    ·exact .inl e
   ·exact .inr h
theorem qqq:∀(names:List (Yb×Qn)) (F:List (Yb×Ya)),(∀x c,F.lookup x=Y2 c->z.lookup x=Y2 c)->∀x c,(qxn z names F).lookup x=Y2 c->z.lookup x=Y2 c
 |[],F,h,x,c,e=>h x c e
 |(n,k)::r,F,h,x,c,e=>by
  unfold qxn at e;refine qqq r _ ?_ x c e;intro y d q
  by_cases L:(k==NameKind.free)=Y0
  ·rw[Xq L]at q
   split at q
   ·rename_i a O
    by_cases J:(y==n)=Y0
    ·rw[Qzw,J]at q;rw[eq_of_beq J,O]; exact q
    ·have:(y==n)=false:=by simpa using J
     rw[Qzw,this]at q;exact h y d q
   ·exact h y d q
  ·rw[Z9 L]at q;exact h y d q
theorem qqw(env:Env):∀(names:List (Yb×Qn)) (x:Yb),(names.map λ(n,k)=>if (k==NameKind.free&&env.scope.kind==.function&&env.kindOf n==Y2 .cell) then(n,NameKind.cell) else(n,k)).lookup x =
  (names.lookup x).map λk=>if (k==NameKind.free&&env.scope.kind==.function&&env.kindOf x==Y2 .cell) then NameKind.cell else k
 |[],x=>rfl
 |(n,k)::r,x=>by
  have J:=qqw env r x;rw[Qqb]
  by_cases z:(x==n)=Y0
  ·have e:=eq_of_beq z;subst e;dsimp only
   split
   ·rename_i F;rw[Qzw,z,Qzw,z];dsimp only[oMs];rw[Xq F]
   ·rename_i F;rw[Qzw,z,Qzw,z];dsimp only[oMs];rw[Z9 F]
  ·have q:(x==n)=false:=by simpa using z
   dsimp only
   split
   ·rw[Qzw,q,Qzw,q]; exact J
   ·rw[Qzw,q,Qzw,q]; exact J
section
def qwr(a8:∀e s',Ex e s'->notedBy (model prog w) A env (λe s'=>R (.error e) s') e s')(I:Nat->Qz->Prop)(turn:∀n s,I n s->wpAny (model prog w) A (pyNext it) (λr L=>match r with
   |none=>R (.ok .next) L
   |some v=>wpAny (model prog w) A (Zs F it v) (λ_ s₀=>wpAny (model prog w) A (assign F env v) (λ_ Y=>
     wpAny (model prog w) A (forIn ifs Y0 λc r=>if r=Y0 then do let ok <- isTrue c env (Qa c env); pure (ForInStep.yield ok) else pure (ForInStep.yield r)) (λok J=>
      if ok=Y0 then wpAny (model prog w) A (Qa elt env) (λx U=>wpAny (model prog w) A (call (.builtin "list.append") [a7,x]) (λ_ O=>∃m,m<n/\I m O) Ex U) Ex J
      else ∃m,m<n/\I m J) Ex Y) Ex s₀) Ex L) Ex s)(n)(h:I n s):Zh (model prog w) A (.compLoop (.ListComp elt [⟨F,a2,ifs,0⟩] a1 pos) 0 it a7 env) R s:=by
 refine codeAny_loop rfl I (λn s hI=>?_) n h;refine wpAny_noted (Ql ?_ (λ_ _ q=>q) a8);rw[compTurn_list];refine Qq (wpAny_standAt (Qq (Ql (turn n s hI) (λr L a0=>?_) λ_ _ z=>z)))
 cases r with
 |none=>exact Qx a0
 |some v=>
  refine Qq (Ql a0 (λ_ s₀ a6=>?_) λ_ _ z=>z);refine Qq (Ql a6 (λ_ Y a5=>Qq (Ql a5 (λok J Z=>?_) λ_ _ z=>z)) λ_ _ z=>z)
  cases ok with
  |false=>exact Qx ⟨rfl,Z⟩
  |true=>
   exact Qq (Qq (Ql Z (λx U a4=>Qq (Ql a4 (λ_ O a3=>Qx (Qx ⟨rfl,a3⟩)) λ_ _ z=>z)) λ_ _ z=>z))
end
def HOk.track(x:HOk P w H h)(z:H a=Y3)(new:ObjOk P w (upd H a o) h a o):HOk P w (upd H a o) h:=λb u e=>by
 by_cases F:b=a
 ·subst F; rw[qzk]at e; cases e; exact new
 ·rw[qzq F]at e;exact(x b u e).stay (λc v _ q=>q) (λc q=>by rw[qzq (qzd q z)]; exact q) λc xs q=>by rw[qzq (qzd q z)]; exact q
theorem Inv.track(I:Inv X q J H s)(L:FpOk X q H a)(new:ObjOk X.prog X.w (upd H a o) s.heap a o):Inv X q J (upd H a o) s:=by
 obtain⟨z,Z,f2,Y,U,O⟩:=L;refine I.step (ch:=[a]) (λb F=>?_) (λb o _ _ _ e _=>e) (λb o _ _ _ e _=>⟨o.slots,e⟩) (λb o F e n=>?_) (λb o _ e=>⟨o,e⟩)
  (λb xs e=>by rw[qzq (qzd e z)]; exact e) (λb o u e=>by rw[qzq (qzd e z)]; exact e) (λb ps e=>⟨#[],by rw[qzq (qzd e z),e]; simp⟩) (λm h=>h) (HOk.track I.hok z new) I.bare
 ·have e:b=a:=by simpa using F
  subst e;exact⟨Y,Z,U,O⟩
 ·rw[qzq (by simpa using F)]; exact n
noncomputable def qzn(X:Cx)(N:List Yb)(scope:Scope)(C:Ya)(fp:List Ya)(s:Qz)(H:Hp):Cx:=
 { X with N:=N,s₀:=s,H₀:=H,env:=compEnvC scope (qxn X.env.cells scope.names []) C X.env,outer:=X.stack,ex:=fp,fn:=λ_=>Y1,pn:=[],xe:=λ_ _=>False }
noncomputable def qq6(src:List (Option Nat))(σ:L2.St):L2.St:=src.map λo=>o.bind λi=>(σ[i]?).bind id
structure CompScope (X:Cx) (N:List Yb) (src:List (Option Nat)) (scope:Scope):Prop where
 kind:scope.kind=.function
 cell:∀y∈scope.names,y.2≠.cell
 free:∀y∈scope.names,y.2=.free->X.env.kindOf y.1=Y2 .cell\/X.env.kindOf y.1=Y2 .free
 loc:∀y∈scope.names,y.2=.local->scope.names.lookup y.1=Y2 .local
 len:src.length=N.length
 src:∀(j i:Nat),src[j]?=Y2 (Y2 i)->∃x,N[j]?=Y2 x/\X.N[i]?=Y2 x/\scope.names.lookup x=Y2 .free
section
def mem_lookup{names:List (Yb×Qn)}(h:names.lookup x=Y2 k):(x,k)∈names:=PySem.mem_of_lookup h
def qwp(S:CompScope X N src q)(I:Inv X pins σ H s):closureFor q X.env=pure (qxn X.env.cells q.names []):=
 qvg λx z F=>I.ok.has x.1 (S.free x z F)
def qoq(S:CompScope X N src F)(I:Inv X pins σ H s)(Z:s.heap.objs.size<=C)(J:∀b∈fp,FpOk X pins H b)(U:∀b∈fp,b<s.heap.objs.size):(qzn X N F C fp s H).Ok where
 mod:=I.ok.mod
 kind:=S.kind
 glob:=I.ok.glob
 blt:=I.ok.blt
 above:=Z
 inj:=λx y c h1 h2=>I.ok.inj x y c (qqq _ [] (λ_ _ z=>nomatch z) x c h1) (qqq _ [] (λ_ _ z=>nomatch z) y c h2)
 has:=λx h=>by
  have e:(qzn X N F C fp s H).env.kindOf x=(F.names.lookup x).map λk=>if (k==NameKind.free&&X.env.scope.kind==.function&&X.env.kindOf x==Y2 .cell) then NameKind.cell else k:=qqw X.env F.names x
  rw[e]at h
  cases q:F.names.lookup x with
  |none=>rw[q]at h; rcases h with h|h<;>cases h
  |some k=>
   have hk:k=.free:=by
    rw[q]at h;simp only[oMs,Option.some.injEq]at h
    by_cases O:(k==NameKind.free&&X.env.scope.kind==.function&&X.env.kindOf x==Y2 .cell)=Y0
    ·simp only[Qqo]at O;exact eq_of_beq O.1.1
    ·rw[Z9 O]at h;rcases h with h|h
     ·subst h; exact absurd rfl (S.cell _ (mem_lookup q))
     ·exact h
   subst hk;have Y:=mem_lookup q;obtain⟨c,O⟩:=I.ok.has x (S.free _ Y rfl);exact⟨c,qvh O _ _ (.inl Y)⟩
 cab:=λx c h=>by cases h
 hd:=I.ok.hd
 frames:=I.ok.frames
 stk:=.inl rfl
 exf:=λb L=>⟨Qq1 (Qq4 (U b L) Z),λx c e=>(J b L).2.2.2.2.1 x c (qqq _ [] (λ_ _ z=>nomatch z) x c e)⟩
 bs:=I.bs
 bsz:=Qzl I.ok.bsz I.sz
 noex:=λb o e L=>by
  rcases (J b L).2.2.2.1 with z|z
  ·exact I.ok.noex b o e z
  ·exact absurd (Qq4 (Qqe e) (Qzl I.ok.bsz z)) (Qz6 _)
 exfs:=λb L hf=>by
  have f:=J b L;rcases Qqa.mp (I.stkSub b hf) with z|z
  ·exact f.2.1 z
  ·exact f.2.2.1 z
 funs:=I.stack
 frf:=I.stkFree
def qb3(S:CompScope X N src F)(I:Inv X pins σ H s)(hC:s.heap.objs.size<=C)(a2:∀b∈fp,FpOk X pins H b)(a0:∀b∈fp,b<s.heap.objs.size)(kp:∀b o,s.heap.get? b=Y2 o->h'.get? b=Y2 o)(ns:h'.Ns C m'):Inv (qzn X N F C fp s H) [] (qq6 src σ) H { s with heap:=h',toks:=tk }:=by
 have O:=qoq S I hC a2 a0;refine⟨O,rfl,I.bare,Un.kept kp,⟨m',ns,λj x v hN J hv=>?_⟩,λx c e=>?_,I.hok.fresh hC,λx c e=>?_,λp hp=>absurd (show p∈([]:List (Ya×Obj)) from hp) (by simp),I.hok.kept kp,?_⟩
 ·unfold qq6 at J;rw[Qqv]at J
  cases q:src[j]? with
  |none=>rw[q]at J; cases J
  |some o=>
   rw[q]at J
   cases o with
   |none=>cases J
   |some i=>
    obtain⟨x',e1,e2,e3⟩:=S.src j i q;have hN:N[j]?=Y2 x:=hN;rw[hN]at e1;cases e1;have hi:σ[i]?=Y2 (Y2 v):=by
     cases z:σ[i]? with
     |none=>simp[z]at J
     |some w=>
      cases w with
      |none=>simp[z]at J
      |some w=>simpa[z] using J
    obtain⟨m0,a3,a1⟩:=I.loc;have hk:=S.free _ (mem_lookup e3) rfl;have Y:Vis X.env.scope x:=by
     rcases hk with z|z
     ·exact .inr (.inl z)
     ·exact .inr (.inr z)
    obtain⟨u,ru,lk⟩:=a1 i x v e2 hi Y;refine⟨u,ru,?_⟩;rcases lk with⟨z,_⟩|⟨_,c,U,L⟩
    ·rcases hk with y|y
     ·rw[y]at z; cases z
     ·rw[y]at z; cases z
    ·refine .inr ⟨?_,c,qvh U _ _ (.inl (mem_lookup e3)),?_⟩
     ·have e:(qzn X N F C fp s H).env.kindOf x=(F.names.lookup x).map λk=>if (k==NameKind.free&&X.env.scope.kind==.function&&X.env.kindOf x==Y2 .cell) then NameKind.cell else k:=qqw X.env F.names x
      rw[e,e3];simp only[oMs]
      by_cases U:(NameKind.free==NameKind.free&&X.env.scope.kind==.function&&X.env.kindOf x==Y2 .cell)=Y0
      ·rw[Xq U]; exact .inl rfl
      ·rw[Z9 U]; exact .inr rfl
     ·obtain⟨o,Z,hd⟩:=L;exact⟨o,kp c o Z,hd⟩
 ·have e':=qqq _ [] (λ_ _ z=>nomatch z) x c e;obtain⟨v,o,Z,hd⟩:=I.cell x c e';exact⟨v,o,kp c o Z,hd⟩
 ·exact I.freeC x c (qqq _ [] (λ_ _ z=>nomatch z) x c e)
 ·unfold qq6;rw[Qqz];exact S.len
end
def qcz(X:Cx)(ifs:List Qj)(tt:TT):Prop:=∀(pins:List (Ya×Obj)) (s:Qz) (σ:L2.St) (H:Hp) (Q:Bool->Hp->Prop),Inv X pins σ H s->tt σ H Q->
 wpAny (model X.prog X.w) X.A (forIn ifs Y0 λc r=>if r=Y0 then do let ok <- isTrue c X.env (Qa c X.env); pure (ForInStep.yield ok) else pure (ForInStep.yield r)) (TP X pins σ Q) X.xe s
def qgj:qcz X [] (λ_ H Q=>Q Y0 H):=λpins s σ H Q I h=>by
 exact Qx ⟨H,I,h⟩
def qgx(z:PT X c tc):qcz X [c] tc:=λpins s σ H Q I h=>by
 rw[List.forIn_cons];simp only[if_true];refine Qq (Qq (thn (z pins s σ H Q I h) λb F q=>Qx ?_));exact Qx q
def qku{d2:List V->Hp->Prop}{RR:Yv->Ya->Result->Qz->Prop}{Ex:Ya->Ya->Yv->Qz->Prop}(hc:X.calm=Y0)(I:Inv X a0 σ H s)(T:Turn X.prog X.w X.K tg J fp it tn)(b8:tn 0 s.heap)(a2:∀b∈fp,FpOk X a0 H b)(S:CompScope X N src scope)(hg:∀C,PG (qzn X N scope C fp s H) tg g)(ht:∀C,qcz (qzn X N scope C fp s H) ifs tt)(he:∀D C,PE ((qzn X N scope C fp s H).wish (Ex D C)) elt te)(d7:∀D C,s.heap.objs.size<=C->∀e s',Ex D C e s'->notedBy (model X.prog X.w) X.A (compEnvC scope (qxn X.env.cells scope.names []) C X.env) (λe s'=>RR (.ref D) C (.error e) s') e s')(W:Nat->Nat->List V->L2.St->Hp->Prop)(w0:∃k,W 0 k [] (qq6 src σ) H)(step:∀i k L σ H,W i k L σ H->(J.stop i H/\L.length<=sizeLine/\d2 L H)\/(J.go i H/\L.length<sizeLine/\∀x H',J.yld i H x H'->g x σ H' λa8 H2=>tt a8 H2 λb H3=>
   if b=Y0 then te a8 H3 λv H4=>∃k',k'<k/\W (i+1) k' (L++[v]) a8 H4 else ∃k',k'<k/\W (i+1) k' L a8 H3))(d6:∀D C s' H' L,d2 L H'->H' D=Y3->Inv X a0 σ (upd H' D (.lst L)) s'->FpOk X a0 (upd H' D (.lst L)) C->(∃m,s'.heap.Ns C m)->RR (.ref D) C (.ok .next) s'):
  wpAny (model X.prog X.w) X.A (newList []) (λL s₃=>wpAny (model X.prog X.w) X.A (newFunctionEnv scope X.env.globals (qxn X.env.cells scope.names []) [] X.env.qual Y3 .none (Y2 X.env)) (λb6 c7=>
   Zh (model X.prog X.w) X.A (.compStart (.ListComp elt [⟨tg,a9,ifs,0⟩] scope pos) 0 (.ref it) L { b6 with scope:=relabel scope X.env }) (RR L b6.locals) c7) E s₃) E s:=by
 have c9:∀b∈fp,b<s.heap.objs.size:=λb U=>by obtain⟨o,e,_⟩:=T.obj 0 _ b8 b U; exact Qqe e
 refine Qf (wpAny_newFunctionEnv S.cell (by intro y hy; simp at hy) (λb0 Z Y=>?_) S.kind);generalize c1:s.heap.push { cls:=.type "list",dict:=Y3,data:=.seq ([]:List Yv).toArray }=H2 at Z Y ⊢;have hC:H2.objs.size=s.heap.objs.size+1:=by rw[<- c1,Qz0]
 have a3:s.heap.objs.size≠H2.objs.size:=by rw[hC]; exact Qq1 (Qzb _)
 have a7:s.heap.objs.size<=H2.objs.size:=by rw[hC]; exact Qxq _
 have old:=λb o e=>Y.extBut b o (by rw[hC]; exact Qq1 (Qxi (Qqe e))) (Qqx _ (c1▸Qqx _ e));have b5:=Y.extBut _ _ a3 (Qqx _ (c1▸Qqc _ rfl));generalize a6:s.heap.objs.size=Dd at a3 a7 b5;generalize e4:H2.objs.size=Cc at a3 a7 Z Y hC ⊢;have c2:=Nat.le_of_eq a6;have c3:s.heap.objs.size<=Cc:=by rw[a6]; exact a7
 have fD:=I.hok.fresh c2;have I1:Inv (qzn X N scope Cc fp s H) [] (qq6 src σ) H { s with heap:=b0,toks:=s.toks+([]:List (Yb×Yv)).length }:=qb3 S I c3 a2 c9 old Z;have c8:∀b∈fp,b≠Dd:=λb U=>by rw[<- a6]; exact Qq1 (c9 b U)
 have c4:∀x c,(qzn X N scope Cc fp s H).env.cells.lookup x=Y2 c->c≠Dd:=λx c e z=>by
  have e':=qqq _ [] (λ_ _ z=>nomatch z) x c e;obtain⟨v,o,ho,_⟩:=I.cell x c e';rw[z,<- a6]at ho;exact Qz6 _ (Qqe ho)
 have d8:Dd ∉ (qzn X N scope Cc fp s H).fs:=λz=>by
  obtain⟨_,o,ho,_⟩:=I1.ok.funs.mem z;rw[<- a6]at ho;exact Qz6 _ (Qqe ho)
 have a5:∀{pl:List (Ya×Obj)}{H':Hp},(∀p∈pl,p.1=Dd)->(∀b∈fp,H' b=Y3)->∀b∈fp,FpOk (qzn X N scope Cc fp s H) pl H' b:=λ{pl H'} d3 hn b U=>
  ⟨hn b U,(I1.ok.exf b U).1,I1.ok.exfs b U,.inl U,(I1.ok.exf b U).2,λp hp=>by
   have d4:=hp
   rw[d3 p d4]; exact(c8 b U).symm⟩
 obtain⟨k0,w0⟩:=w0;have loop:∀s₃:Qz,s₃={ s with heap:=b0,toks:=s.toks+([]:List (Yb×Yv)).length }->
   Zh (model X.prog X.w) X.A (.compLoop (.ListComp elt [⟨tg,a9,ifs,0⟩] scope pos) 0 (.ref it) (.ref Dd) (compEnvC scope (qxn X.env.cells scope.names []) Cc X.env)) (RR (.ref Dd) Cc) s₃:=by
  rintro s₃ rfl;refine qwr (d7 Dd Cc c3) (λk s'=>∃i L O nn c6 H',Inv (qzn X N scope Cc fp s H) [] c6 H' s'/\tn i s'.heap/\(∀b∈fp,H' b=Y3)/\W i k L c6 H'/\Vals L O/\s'.heap.get? Dd=Y2 { cls:=.type "list",data:=.seq O.toArray nn }/\H' Dd=Y3) ?_ k0
   ⟨0,[],[],0,qq6 src σ,H,I1,T.keep _ _ _ b8 λb _ o e=>old b o e,λb U=>(a2 b U).1,w0,.nil,b5,fD⟩
  rintro k s3 ⟨i,L,O,nn,a4,H3,I3,t3,d0,w3,rv,d5,b9⟩;have d1:Inv (qzn X N scope Cc fp s H) [(Dd,{ cls:=.type "list",data:=.seq O.toArray nn })] a4 H3 s3:=I3.pins_of λp hp=>by
   have e:p=(Dd,{ cls:=.type "list",data:=.seq O.toArray nn }):=by simpa using hp
   subst e
   exact⟨d5,b9,a3,d8,λv z=>by
    have z':=z
    cases z'⟩
  rcases step i k L a4 H3 w3 with⟨stop,hz,e1⟩|⟨go,hz,next⟩
  ·refine thn (T.done (qzn X N scope Cc fp s H) rfl rfl rfl hc i _ s3 a4 H3 (Ex Dd Cc) d1 (a5 (λp hp=>by rw[Qqy.mp hp]) d0) t3 stop) λr s4 ⟨hr,I4⟩=>?_;subst hr;have p4:=I4.pin (Dd,{ cls:=.type "list",data:=.seq O.toArray nn }) (Qqp _ (by simp));have I5:=I.call' I4.os I4.base I4.hok I4.bare λb U=>⟨(a2 b U).2.2.2.1,(a2 b U).2.1,(a2 b U).2.2.2.2.1,(a2 b U).2.2.2.2.2⟩
   have e0:=I.fpOk c2 b9;refine d6 Dd Cc s4 H3 L e1 b9 (Inv.track I5 e0 ⟨hz,O,nn,rv,p4.1⟩) (I.fpOk c3 (by rw[qzq (Ne.symm a3)]; exact I4.free)) ?_;obtain⟨m4,n4,_⟩:=I4.loc;exact⟨m4,n4⟩
  ·refine thn (T.item (qzn X N scope Cc fp s H) rfl rfl rfl hc i _ s3 a4 H3 (Ex Dd Cc) d1 (a5 (λp hp=>by rw[Qqy.mp hp]) d0) t3 go) λr s4 ⟨u,hr,h4⟩=>?_;subst hr;refine thn h4 λ_ s5 ⟨x,H5,I5,r5,y5,t5,d9⟩=>?_;have e2:=I5.pinned (a5 (λp hp=>by rw[Qqy.mp hp]) d9) (T.obj _ _ t5);refine Ql (hg Cc _ s5 a4 H5 x u _ e2 r5 (next x H5 y5)) (λ_ s6 ⟨a1,H6,I6,q6⟩=>?_) λ_ _ z=>z.elim;refine Ql (ht Cc _ s6 a1 H6 _ I6 q6) (λb s7 ⟨H7,I7,q7⟩=>?_) λ_ _ z=>z.elim;have b7:∀{c5:L2.St}{H8:Hp}{s8:Qz},Inv (qzn X N scope Cc fp s H) ([(Dd,{ cls:=.type "list",data:=.seq O.toArray nn })]++qv9 fp s5.heap) c5 H8 s8->
     tn (i+1) s8.heap/\(∀b∈fp,H8 b=Y3)/\s8.heap.get? Dd=Y2 { cls:=.type "list",data:=.seq O.toArray nn }/\H8 Dd=none:=λ{c5 H8 s8} I8=>by
    refine⟨T.keep _ _ _ t5 λb U o e=>(I8.pin (b,o) (Qqp _ (Qqp _ (qq1 U e)))).1,λb U=>?_,?_,?_⟩
    ·obtain⟨o,e,d⟩:=T.obj _ _ t5 b U;exact(I8.pin (b,o) (Qqp _ (Qqp _ (qq1 U e)))).2.1
    ·exact(I8.pin (Dd,_) (Qqp _ (Qzy _ (by simp)))).1
    ·exact(I8.pin (Dd,{ cls:=.type "list",data:=.seq O.toArray nn }) (Qqp _ (Qzy _ (by simp)))).2.1
   cases b with
   |false=>
    simp only[Qzk]at q7 ⊢;obtain⟨k',hk,w7⟩:=q7;obtain⟨b1,b2,b3,b4⟩:=b7 I7;exact⟨k',hk,i+1,L,O,nn,a1,H7,I7.pins_of λp hp=>absurd hp (by simp),b1,b2,w7,rv,b3,b4⟩
   |true=>
    simp only[if_true]at q7 ⊢;refine thn (he Dd Cc _ s7 a1 H7 _ (I7.wish _) q7) λy s8 ⟨v8,H8,I8,r8,k',hk,w8⟩=>?_;have I8:=I8.unwish;obtain⟨b1,b2,b3,b4⟩:=b7 I8;have l1:=rv.length;refine Q3 F.slot_list_append ⟨_,b3,rfl⟩ F.entry_list_append (F.args_list_append_2 _ _) (PySem.list_append Dd O.toArray nn y (by rw[Qqd]; lia)) ⟨b3,?_⟩;have q:=PySem.IsL.update b3 (λa=>a.push y);have c0:O.toArray.push y=(O++[y]).toArray:=by simp
    rw[c0]at q;have I9:Inv (qzn X N scope Cc fp s H) [] a1 H8 s8:=I8.pins_of λp hp=>absurd hp (by simp);have e3:Inv (qzn X N scope Cc fp s H) [] a1 H8 { s8 with heap:=s8.heap.update Dd (Obj.mapSeq (·.push y)) }:=
     I9.turned (λb o U e=>(Qx8 s8.heap _ (Ne.symm U)).trans e) b4 a3 (.inr c2) c4 λp hp=>absurd (show p∈([]:List (Ya×Obj)) from hp) (by simp)
    exact⟨k',hk,i+1,L++[v8],O++[y],_,a1,H8,e3,T.keep _ _ _ b1 λb U o e=>(Qx8 s8.heap _ (Ne.symm (c8 b U))).trans e,b2,w8,rv.append (.cons r8 .nil),q,b4⟩
 exact codeAny_compStart_list (loop _ rfl) (T.self _ 0 _ _ _ (T.keep _ _ _ b8 λb _ o e=>old b o e) (loop _ rfl))
noncomputable def qgv(src:List (Option Nat))(wi:TI)(g:TG)(tt:TT)(te:TE):TE:=λσ H Q=>wi σ H λJ H1=>∃W:Nat->Nat->List V->L2.St->Hp->Prop,(∃k,W 0 k [] (qq6 src σ) H1)/\
 ∀i k acc σ' H',W i k acc σ' H'->(J.stop i H'/\acc.length<=sizeLine/\∀p,H' p=Y3->Q (.ref p) (upd H' p (.lst acc)))\/(J.go i H'/\acc.length<sizeLine/\∀x H2,J.yld i H' x H2->g x σ' H2 λσ2 H3=>tt σ2 H3 λb H4=>
  if b=Y0 then te σ2 H4 λv H5=>∃k',k'<k/\W (i+1) k' (acc++[v]) σ2 H5 else ∃k',k'<k/\W (i+1) k' acc σ2 H4)
def qda(hc:X.calm=Y0)(S:CompScope X N src q)(hi:PI X tg F wi)(hg:∀C fp s H,PG (qzn X N q C fp s H) tg g)(ht:∀C fp s H,qcz (qzn X N q C fp s H) ifs tt)(he:∀C fp s H,PE (qzn X N q C fp s H) elt te)(hs:∀x,foldedSetIterable F X.env x=pure x):PE X (.ListComp elt [⟨tg,F,ifs,0⟩] q pos) (qgv src wi g tt te):=by
 intro pins s σ H Q I h;rw[eval_ListComp];refine wpAny_comprehension_free rfl hs (qwp S I) S.kind S.loc (thn (hi pins s σ H _ I h) λv s1 h1=>thn h1 λa0 U h2=>?_);obtain⟨it,fp,tn,J,H2,e,I2,T,O,f2,W,w0,L⟩:=h2;subst e;refine qku hc I2 T O f2 S (λC=>hg C fp U H2) (λC=>ht C fp U H2) (λ_ C=>he C fp U H2) (λ_ _ _ _ _ z=>z.elim) W w0 L ?_;intro D C s' H' Z Y nD I' fC hm;obtain⟨m',hn⟩:=hm;refine⟨m',hn,λh' sb=>⟨.ref D,upd H' D (.lst Z),?_,rfl,Y D nD⟩⟩;obtain⟨c0,c1,c2,c3,c4,c5⟩:=fC;exact I'.turned (λb o hb e=>(sb.2 b hb).trans e) c0 c1 c3 c4 c5
def Inv.turnedL{ch:List Ya}(I:Inv X F U H s)(k:∀b o,b ∉ ch->s.heap.get? b=Y2 o->h'.get? b=Y2 o)(O:∀b∈ch,FpOk X F H b):Inv X F U H { s with heap:=h',toks:=t' }:=by
 have L:∀b u,H b=Y2 u->b ∉ ch:=λb u e z=>by rw[(O b z).1]at e; cases e
 refine I.step (λb hb=>?_) (λb o _ _ J e _=>k b o J e) (λb o _ _ J e _=>⟨o.slots,k b o J e⟩) (λ_ _ _ _ n=>n) (λb o J e=>⟨o,k b o J e⟩) (λ_ _ e=>e) (λ_ _ _ e=>e) (λb ps e=>⟨#[],by rw[e]; simp⟩) (λm Z=>?_) (λb u e=>?_) I.bare
 ·obtain⟨f0,f1,f2,f3,f4,f5⟩:=O b hb;exact⟨f3,f1,f4,f5⟩
 ·obtain⟨o,es,ep,Y,r⟩:=Z;exact⟨o,es,ep,k _ o (λz=>(O _ z).2.1 rfl) Y,r⟩
 ·refine(I.hok b u e).stay (λc v J q=>k c v ?_ q) (λ_ q=>q) λ_ _ q=>q;rcases J with z|z
  ·rw[z]; exact L b u e
  ·exact L c _ z
inductive RK where
 |lst|tup
noncomputable def RK.It:RK->Heap->Ya->Ya->Nat->Prop
 |.lst,h,it,a,i=>h.IsListIter it a i
 |.tup,h,it,a,i=>h.IsTupleIter it a i
noncomputable def RK.Sq:RK->Heap->Ya->Array Yv->Prop
 |.lst,h,a,xs=>h.IsList a xs
 |.tup,h,a,xs=>h.IsTuple a xs
def RK.It.on{k:RK}(x:k.It h it a i)(e:∀o,h.get? it=Y2 o->h'.get? it=Y2 o):k.It h' it a i:=by
 cases k with
 |lst=>exact Heap.IsListIter.at x e
 |tup=>obtain⟨o,q,r⟩:=x; exact⟨o,e o q,r⟩
def RK.Sq.on{k:RK}(x:k.Sq h a xs)(e:∀o,h.get? a=Y2 o->h'.get? a=Y2 o):k.Sq h' a xs:=by
 cases k with
 |lst=>exact Heap.IsList.at x e
 |tup=>obtain⟨o,q,r⟩:=x; exact⟨o,e o q,r⟩
def RK.It.obj{k:RK}(x:k.It h it a i):∃o,h.get? it=Y2 o/\∀v,o.data≠.cell v:=by
 cases k with
 |lst=>obtain⟨o,q,_,d⟩:=x; exact⟨o,q,λv z=>by rw[d]at z; cases z⟩
 |tup=>obtain⟨o,q,_,d⟩:=x; exact⟨o,q,λv z=>by rw[d]at z; cases z⟩
section
def qxm{k:RK}(L:k.It s.heap it a i)(Y:k.Sq s.heap a xs)(U:xs[i]?=Y2 x)(Z:∀h',k.It h' it a (i+1)->(∀b o,b≠it->s.heap.get? b=Y2 o->h'.get? b=Y2 o)->h'.objs.size=s.heap.objs.size->Q x { s with heap:=h' }):wpAny (model prog w) A (Builtin.SmallTypes.nextOf (.ref it)) Q E s:=by
 cases k with
 |lst=>exact wpAny_nextOf_list_item L Y U λh' a1 a2=>Z h' a1 a2.extBut a2.1
 |tup=>
  obtain⟨o,O,e2,J⟩:=id L;obtain⟨q,f1,_,m,f2⟩:=Y;unfold Builtin.SmallTypes.nextOf;refine Qq (Qy (Heap.IsTupleIter.typeIs L) F.slot_tuple_iterator_next (Qc F.slot_tuple_iterator_next (Heap.IsTupleIter.typeIs L) F.entry_tuple_iterator_next ?_ (F.args_tuple_iterator_next_1 _)));show wpAny _ _ (field (.ref it) 0 >>= _) _ _ _;refine Qq (Qw O J rfl ?_);rw[Z9 (λz=>nomatch z)];refine Qq (Qw O J rfl ?_);refine Qq (Qo f1 f2 ?_);simp only[Int.toNat_natCast,U];refine Qq (Z2 O J (by simp) (Qx ⟨x,rfl,Qx (Z _ ?_ (Heap.SameBut.update ..).extBut (Heap.SameBut.update ..).1)⟩));exact⟨_,Qxm _ O (Obj.isFreed_of_fields (Obj.data_mapFields J _)),(Obj.cls_mapFields ..).trans e2,by rw[Obj.data_mapFields J]; simp[rawInt]⟩
def qj7{k:RK}(L:A.handled=Y3)(J:k.It s.heap it a i)(Z:k.Sq s.heap a xs)(Y:xs[i]?=Y3)(hE:∀h' e,(∀b o,b≠it->s.heap.get? b=Y2 o->h'.get? b=Y2 o)->(∃o,h'.get? e=Y2 o/\o.cls=.type "StopIteration")->E (.ref e) { s with heap:=h' }):wpAny (model prog w) A (Builtin.SmallTypes.nextOf (.ref it)) Q E s:=by
 cases k with
 |lst=>exact wpAny_nextOf_list_end L J Z Y λh' e a1 a2=>hE h' e a1 a2
 |tup=>
  obtain⟨o,U,e2,O⟩:=id J;obtain⟨q,f1,_,m,f2⟩:=Z;unfold Builtin.SmallTypes.nextOf;refine Qq (Qy (Heap.IsTupleIter.typeIs J) F.slot_tuple_iterator_next (Qc F.slot_tuple_iterator_next (Heap.IsTupleIter.typeIs J) F.entry_tuple_iterator_next ?_ (F.args_tuple_iterator_next_1 _)));show wpAny _ _ (field (.ref it) 0 >>= _) _ _ _;refine Qq (Qw U O rfl ?_);rw[Z9 (λz=>nomatch z)];refine Qq (Qw U O rfl ?_);refine Qq (Qo f1 f2 ?_);simp only[Int.toNat_natCast,Y];refine Qq (Zw (Qq (Z2 U O (by simp) ?_))); show wpAny _ _ (newExc (.type "StopIteration") [] >>= _) _ _ _;refine Qq ?_; simp only[newExc];refine Qq (Qf ?_ (by size_fits)); refine Qq (Zz (by first|rfl|(simp only[firstArgMember]; rfl)) ?_);refine Qf ?_ (by size_fits); simp only[raiseNew];refine Qq (wpAny_handled ?_)
  first|rw[show A.in1.handled=Y3 from L]|(rw[L])
  refine Qq (Qx (wpAny_throw ?_));exact hE _ _ (((Heap.SameBut.update ..).extBut.push _).push _) ⟨_,Qqc _ rfl,by rfl⟩
end
section
def qvx(z:IsPair s.heap T a b)(h:∀h',h'.get? T=Y2 { cls:=.type "tuple",data:=.seq ((#[a,b]:Array Yv).setIfInBounds j x) }->(∀c o,c≠T->s.heap.get? c=Y2 o->h'.get? c=Y2 o)->h'.objs.size=s.heap.objs.size->Q () { s with heap:=h' }):
  wpAny (model prog w) A (updateSeq T (·.setIfInBounds j x)) Q E s:=
 wpAny_updateSeq_pair z λh' F q=>h h' F q.extBut q.1
def zip_get{k1 k2:RK}(n1:l1<n)(n2:l2<n)(z:IsZip s.heap (n+4) (n+2) (n+3) .none)(hI:IsPair s.heap (n+2) (.ref n) (.ref (n+1)))(hO:IsPair s.heap (n+3) a b)(h1:k1.It s.heap n l1 i)(h2:k2.It s.heap (n+1) l2 i)(s1:k1.Sq s.heap l1 xs)(s2:k2.Sq s.heap l2 ys)(hx:xs[i]?=Y2 x)(hy:ys[i]?=Y2 y)(hQ:∀h',IsZip h' (n+4) (n+2) (n+3) (rawInt s.heap.objs.size)->IsPair h' (n+2) (.ref n) (.ref (n+1))->IsPair h' (n+3) x y->k1.It h' n l1 (i+1)->k2.It h' (n+1) l2 (i+1)->IsPair h' s.heap.objs.size x y->
   (∀c o,c≠n+4->c≠n+3->c≠n->c≠n+1->s.heap.get? c=Y2 o->h'.get? c=Y2 o)->Q (Y2 (.ref s.heap.objs.size)) { s with heap:=h' }):
  wpAny (model prog w) A (pyNext (.ref (n+4))) Q E s:=by
 have hT:s.TypeIs (.ref (n+4)) "zip":=⟨_,z,rfl⟩
 unfold pyNext;refine Qq (Qt (Qy hT F.slot_zip_next (Qc F.slot_zip_next hT F.entry_zip_next ?_ (F.args_zip_next_1 _))));show wpAny _ _ (field (.ref (n+4)) 2 >>= _) _ _ _;refine Qq (Qw z rfl rfl ?_);refine Qq (Qw z rfl rfl ?_);refine Qq (Qo hI rfl ?_);refine Qq ?_;unfold Builtin.SmallTypes.ownedTupleIsFree;refine Qq (Qw z rfl rfl (Qx ?_));simp only[if_true];refine Qq (Zw ?_);refine Qq (Qw z rfl rfl ?_);refine Qq (Qb z (by simp) λg1 z1 u1=>?_)
 replace z1:IsZip g1 (n+4) (n+2) (n+3) .ellipsis:=z1
 have q:=u1.extBut;refine Qq ?_;simp only[List.zipIdx_cons,List.forIn_nil];refine Qq (Qq (Z5 ?_)); show wpAny _ _ (Builtin.SmallTypes.nextOf (.ref n) >>= _) _ _ _;refine Qq (qxm (h1.on λo e=>q _ o (by show @Ne Nat _ _; lia) e) (s1.on λo e=>q _ o (by show @Ne Nat _ _; lia) e) hx λg2 i2 O c2=>Qx ?_);have O2:=O _ _ (by show @Ne Nat _ _; lia) (q _ _ (by show @Ne Nat _ _; lia) hO);refine Qq (Qo O2 rfl ?_);refine Qq (qvx O2 λg3 O3 L c3=>?_)
 replace O3:IsPair g3 (n+3) x b:=O3
 refine Qq (wpAny_letGo (Qx ?_));refine Qq (Qq (Z5 ?_)); show wpAny _ _ (Builtin.SmallTypes.nextOf (.ref (n+1)) >>= _) _ _ _;refine Qq (qxm (h2.on λo e=>L _ o (by show @Ne Nat _ _; lia) (O _ o (by show @Ne Nat _ _; lia) (q _ o (by show @Ne Nat _ _; lia) e))) (s2.on λo e=>L _ o (by show @Ne Nat _ _; lia) (O _ o (by show @Ne Nat _ _; lia) (q _ o (by show @Ne Nat _ _; lia) e))) hy λg4 i4 v4 c4=>Qx ?_);have O4:=v4 _ _ (by show @Ne Nat _ _; lia) O3;refine Qq (Qo O4 rfl ?_);refine Qq (qvx O4 λJ O5 Z c5=>?_)
 replace O5:IsPair J (n+3) x y:=O5
 refine Qq (wpAny_letGo (Qx (Qx ?_)));refine Qq (Qo O5 rfl ?_);refine Qq (wpAny_newTuple ?_);have sz:=c5.trans (c4.trans (c3.trans (c2.trans u1.1)));have z5:=Z _ _ (by show @Ne Nat _ _; lia) (v4 _ _ (by show @Ne Nat _ _; lia) (L _ _ (by show @Ne Nat _ _; lia) (O _ _ (by show @Ne Nat _ _; lia) z1)));have U:∀c o,c≠n+4->c≠n+3->c≠n->c≠n+1->s.heap.get? c=Y2 o->J.get? c=Y2 o:=λc o c1 c2 c3 c4 e=>Z _ _ c2 (v4 _ _ c4 (L _ _ c2 (O _ _ c3 (q _ _ c1 e))));have j1:=i2.on λo e=>Z _ o (by show @Ne Nat _ _; lia) (v4 _ o (by show @Ne Nat _ _; lia) (L _ o (by show @Ne Nat _ _; lia) e));have j2:=i4.on λo e=>Z _ o (by show @Ne Nat _ _; lia) e;have lz:=Qqe z5;refine Qq ?_;unfold Builtin.SmallTypes.ownedTupleHandOut;have z6:IsZip (J.push { cls:=.type "tuple",data:=.seq #[x,y] }) (n+4) (n+2) (n+3) .ellipsis:=Qqx _ z5;refine Qq (Qb z6 (by simp) λg7 z7 u7=>?_)
 replace z7:IsZip g7 (n+4) (n+2) (n+3) (rawInt J.objs.size):=z7
 refine Qb z7 (by simp) λg8 Y u8=>?_
 replace Y:IsZip g8 (n+4) (n+2) (n+3) (rawInt J.objs.size):=Y
 have up:∀c o,c≠n+4->J.get? c=Y2 o->g8.get? c=Y2 o:=λc o c1 e=>u8.extBut _ _ c1 (u7.extBut _ _ c1 (Qqx _ e));have t8:=u8.extBut _ _ (Qxw lz) (u7.extBut _ _ (Qxw lz) (Qqc _ rfl));rw[sz]at Y t8;refine Qx ⟨_,rfl,Qx ?_⟩;rw[sz];exact hQ g8 Y (up _ _ (by lia) (U _ _ (by lia) (by lia) (by lia) (by lia) hI)) (up _ _ (by lia) O5) (j1.on λo e=>up _ o (by lia) e) (j2.on λo e=>up _ o (by lia) e) t8 λc o c1 c2 c3 c4 e=>up c o c1 (U c o c1 c2 c3 c4 e)
def qfs{k1 k2:RK}(hh:A.handled=Y3)(n1:l1<n)(n2:l2<n)(U:IsZip s.heap (n+4) (n+2) (n+3) .none)(hI:IsPair s.heap (n+2) (.ref n) (.ref (n+1)))(hO:IsPair s.heap (n+3) a b)(h1:k1.It s.heap n l1 i)(h2:k2.It s.heap (n+1) l2 i)(s1:k1.Sq s.heap l1 xs)(s2:k2.Sq s.heap l2 ys)(Y:xs[i]?=Y3\/ys[i]?=Y3)(hQ:∀h',(∀c o,c≠n+4->c≠n+3->c≠n->c≠n+1->s.heap.get? c=Y2 o->h'.get? c=Y2 o)->Q Y3 { s with heap:=h' }):
  wpAny (model prog w) A (pyNext (.ref (n+4))) Q E s:=by
 have hT:s.TypeIs (.ref (n+4)) "zip":=⟨_,U,rfl⟩
 have a0:∀(h':Heap) (e:Ya),(∀c o,c≠n+4->c≠n+3->c≠n->c≠n+1->s.heap.get? c=Y2 o->h'.get? c=Y2 o)->(∃o,h'.get? e=Y2 o/\o.cls=.type "StopIteration")->
   wpAny (model prog w) A (do if (<- isInstance (.ref e) (.type "StopIteration")) then pure Y3 else(throw (Value.ref e):Sem (Option Yv))) Q E { s with heap:=h' }:=λh' e hk Z=>by
  obtain⟨o,J,O⟩:=Z;refine Qq (Zy ⟨o,J,O⟩ Z3 ?_);exact Qx (hQ _ hk)
 unfold pyNext;refine Qq (Qt (Qy hT F.slot_zip_next (Qc F.slot_zip_next hT F.entry_zip_next ?_ (F.args_zip_next_1 _))));show wpAny _ _ (field (.ref (n+4)) 2 >>= _) _ _ _;refine Qq (Qw U rfl rfl ?_);refine Qq (Qw U rfl rfl ?_);refine Qq (Qo hI rfl ?_);refine Qq ?_;unfold Builtin.SmallTypes.ownedTupleIsFree;refine Qq (Qw U rfl rfl (Qx ?_));simp only[if_true];refine Qq (Zw ?_);refine Qq (Qw U rfl rfl ?_);refine Qq (Qb U (by simp) λg1 z1 u1=>?_)
 replace z1:IsZip g1 (n+4) (n+2) (n+3) .ellipsis:=z1
 have z:=u1.extBut;refine Qq ?_;simp only[List.zipIdx_cons,List.forIn_nil];refine Qq (Qq (Z5 ?_)); show wpAny _ _ (Builtin.SmallTypes.nextOf (.ref n) >>= _) _ _ _
 cases hx:xs[i]? with
 |none=>
  refine Qq (qj7 hh (h1.on λo e=>z _ o (by show @Ne Nat _ _; lia) e) (s1.on λo e=>z _ o (by show @Ne Nat _ _; lia) e) hx λg2 e L Z=>?_);obtain⟨oe,J,O⟩:=Z;have z2:=L _ _ (by show @Ne Nat _ _; lia) z1;have ez:e≠n+4:=λq=>by subst q; rw[z2]at J; cases J; simp at O
  exact Qb z2 (by simp) λg3 _ u3=>a0 g3 e (λc o c1 _ c3 _ q=>u3.extBut _ _ c1 (L _ _ c3 (z _ _ c1 q))) ⟨oe,u3.extBut _ _ ez J,O⟩
 |some x=>
  have hy:ys[i]?=none:=by
   rcases Y with h|h
   ·rw[hx]at h; cases h
   ·exact h
  refine Qq (qxm (h1.on λo e=>z _ o (by show @Ne Nat _ _; lia) e) (s1.on λo e=>z _ o (by show @Ne Nat _ _; lia) e) hx λg2 i2 L c2=>Qx ?_);have O2:=L _ _ (by show @Ne Nat _ _; lia) (z _ _ (by show @Ne Nat _ _; lia) hO);refine Qq (Qo O2 rfl ?_);refine Qq (qvx O2 λg3 O3 v3 c3=>Qq (wpAny_letGo (Qx ?_)));refine Qq (Qq (Z5 ?_)); show wpAny _ _ (Builtin.SmallTypes.nextOf (.ref (n+1)) >>= _) _ _ _;refine Qq (qj7 hh (h2.on λo e=>v3 _ o (by show @Ne Nat _ _; lia) (L _ o (by show @Ne Nat _ _; lia) (z _ o (by show @Ne Nat _ _; lia) e))) (s2.on λo e=>v3 _ o (by show @Ne Nat _ _; lia) (L _ o (by show @Ne Nat _ _; lia) (z _ o (by show @Ne Nat _ _; lia) e))) hy λg4 e v4 Z=>?_);obtain⟨oe,J,O⟩:=Z;have z4:=v4 _ _ (by show @Ne Nat _ _; lia) (v3 _ _ (by show @Ne Nat _ _; lia) (L _ _ (by show @Ne Nat _ _; lia) z1));have ez:e≠n+4:=λq=>by subst q; rw[z4]at J; cases J; simp at O
  exact Qb z4 (by simp) λg5 _ u5=>a0 g5 e (λc o c1 c2 c3 c4 q=>u5.extBut _ _ c1 (v4 _ _ c4 (v3 _ _ c2 (L _ _ c3 (z _ _ c1 q))))) ⟨oe,u5.extBut _ _ ez J,O⟩
end
noncomputable def RK.itO(k:RK)(a:Ya):Obj:=match k with
 |.lst=>{ cls:=.type "list_iterator",data:=.fields #[.ref a,.int 0 0] }
 |.tup=>{ cls:=.type "tuple_iterator",data:=.fields #[.ref a,.int 0 0] }
def qjk{k:RK}(q:k.Sq s.heap a xs)(z:Q (.ref s.heap.objs.size) { s with heap:=s.heap.push (k.itO a) }):wpAny (model prog w) A (pyIter (.ref a)) Q E s:=by
 cases k with
 |lst=>exact Zx q z
 |tup=>exact wpAny_pyIter_tuple q z
def row_new{h:Heap}{k:RK}:k.It (h.push (k.itO a)) h.objs.size a 0:=by
 cases k with
 |lst=>exact⟨_,Qqc _ rfl,rfl,rfl⟩
 |tup=>exact⟨_,Qqc _ rfl,rfl,rfl⟩
noncomputable abbrev zh1(k1:RK)(h:Heap)(l1:Ya):Heap:=h.push (k1.itO l1)
noncomputable abbrev zh2(k1 k2:RK)(h:Heap)(l1 l2:Ya):Heap:=(zh1 k1 h l1).push (k2.itO l2)
noncomputable abbrev zh3(k1 k2:RK)(h:Heap)(l1 l2:Ya):Heap:=(zh2 k1 k2 h l1 l2).push { cls:=.type "tuple",data:=.seq #[.ref h.objs.size,.ref (zh1 k1 h l1).objs.size] }
noncomputable abbrev zh4(k1 k2:RK)(h:Heap)(l1 l2:Ya):Heap:=(zh3 k1 k2 h l1 l2).push { cls:=.type "tuple",data:=.seq #[.none,.none] }
noncomputable abbrev zh5(k1 k2:RK)(h:Heap)(l1 l2:Ya):Heap:=(zh4 k1 k2 h l1 l2).push { cls:=.type "zip",data:=.fields #[.none,.bool Y1,.bool Y1,.ref (zh2 k1 k2 h l1 l2).objs.size,.ref (zh3 k1 k2 h l1 l2).objs.size] }
def qft(J F)(z q)(xs ys):Meets (Q0.«zip.__new__» ⟨[.type "zip",.ref z,.ref q],[]⟩) (λ_ R s=>J.Sq s.heap z xs/\F.Sq s.heap q ys/\R (.ok (.ret (.ref (zh4 J F s.heap z q).objs.size))) { s with heap:=zh5 J F s.heap z q }):=
 .of_wp λprog w A R s h=>by
  obtain⟨Y,g,d,tk,os⟩:=s;obtain⟨U,O,h⟩:=h;have L:=sub_zip;have Z:=U;have L2:F.Sq (Shared.heap ⟨Y.push (J.itO z),g,d,tk,os⟩) q ys:=O.on λo e=>Qqx _ e
  wp_walk using qjk Z,qjk L2
  exact⟨_,rfl,h⟩
def ZipAt(k1 k2:RK)(n l1 l2:Nat)(i:Nat)(h:Heap):Prop:=
 l1<n/\l2<n/\IsZip h (n+4) (n+2) (n+3) .none/\IsPair h (n+2) (.ref n) (.ref (n+1))/\(∃a b,IsPair h (n+3) a b)/\k1.It h n l1 i/\k2.It h (n+1) l2 i
def qe8(q1:J.Sq s.heap q xs)(q2:L.Sq s.heap z ys)(b1:q<s.heap.objs.size)(b2:z<s.heap.objs.size)(h:∀h',ZipAt J L s.heap.objs.size q z 0 h'->(∀c o,s.heap.get? c=Y2 o->h'.get? c=Y2 o)->Q (.ref (s.heap.objs.size+4)) { s with heap:=h' }):wpAny (model prog w) A (call (.type "zip") [.ref q,.ref z]) Q E s:=by
 refine callType_new F.called_zip (by decide) (F.typeCall_zip_2 _ _) (F.newCall_zip_2 _ _) (λobj=>F.args_object_init_3 obj _ _) F.entry_zip_new (qft J L q z xs ys) ⟨q1,q2,?_⟩;have Y:(zh1 J s.heap q).objs.size=s.heap.objs.size+1:=Qz0 ..;have U:(zh2 J L s.heap q z).objs.size=s.heap.objs.size+2:=by rw[Qz0,Y]
 have O:(zh3 J L s.heap q z).objs.size=s.heap.objs.size+3:=by rw[Qz0,U]
 have z4:(zh4 J L s.heap q z).objs.size=s.heap.objs.size+4:=by rw[Qz0,O]
 have Z:(zh5 J L s.heap q z).get? (zh4 J L s.heap q z).objs.size=Y2 _:=Qqc _ rfl;have g4:(zh5 J L s.heap q z).get? (zh3 J L s.heap q z).objs.size=Y2 _:=Qqx _ (Qqc _ rfl);have g3:(zh5 J L s.heap q z).get? (zh2 J L s.heap q z).objs.size=Y2 _:=Qqx _ (Qqx _ (Qqc _ rfl));have g2:L.It (zh5 J L s.heap q z) (zh1 J s.heap q).objs.size z 0:=row_new.on λo e=>Qqx _ (Qqx _ (Qqx _ e));have g1:J.It (zh5 J L s.heap q z) s.heap.objs.size q 0:=row_new.on λo e=>Qqx _ (Qqx _ (Qqx _ (Qqx _ e)));rw[U,O,z4]at Z;rw[Y,U]at g3;rw[O]at g4;rw[Y]at g2;rw[z4];exact⟨⟨_,Z,rfl⟩,h _ ⟨b1,b2,Z,g3,⟨_,_,g4⟩,g1,g2⟩ λc o x=>Qqx _ (Qqx _ (Qqx _ (Qqx _ (Qqx _ x))))⟩
def RK.sq(k:RK)(K:Qqq)(H:Hp)(a:Ya)(xs:List V):Prop:=match k with
 |.lst=>SqL K H a xs
 |.tup=>SqT K H a xs
noncomputable def Itz(K:Qqq)(k1 k2:RK)(a b:Ya):It:=
 ⟨λi H=>∃xs ys x y,k1.sq K H a xs/\k2.sq K H b ys/\xs[i]?=Y2 x/\ys[i]?=Y2 y,
  λi H v H'=>∃p x y,v=.ref p/\H p=Y3/\H'=upd H p (.tup [x,y])/\(∀xs,k1.sq K H a xs->xs[i]?=Y2 x)/\∀ys,k2.sq K H b ys->ys[i]?=Y2 y,
  λi H=>∃xs ys,k1.sq K H a xs/\k2.sq K H b ys/\(xs.length<=i\/ys.length<=i)⟩
section
def qq5{k:RK}(I:Inv X pins σ H s)(q:k.sq X.K H a xs):∃z,Vals xs z/\k.Sq s.heap a z.toArray:=by
 cases k with
 |lst=>obtain⟨z,F,p,J⟩:=I.list q; exact⟨z,F,p.isList⟩
 |tup=>obtain⟨z,F,p,J⟩:=I.tuple q; exact⟨z,F,show s.heap.IsTuple a z.toArray from p⟩
def qvz{k:RK}(I:Inv X pins σ H s)(q:k.sq X.K H a xs)(z:k.sq X.K H a ys):xs=ys:=by
 cases k with
 |lst=>exact I.list_inj q z
 |tup=>exact I.tuple_inj q z
end
noncomputable def fpZ(n:Nat):List Ya:=[n+4,n+2,n+3,n,n+1]
def qf0{K:Qqq}(k1 k2)(n a b):Turn P w K (.Tuple Z c pos) (Itz K k1 k2 a b) (fpZ n) (n+4) (ZipAt k1 k2 n a b) where
 mem:=by simp[fpZ]
 obj:=λi h st e he=>by
  obtain⟨b1,b2,L,O,⟨x,y,hO⟩,h1,h2⟩:=st;simp only[fpZ,Qqa,Qzx,or_false]at he;rcases he with rfl|rfl|rfl|rfl|rfl
  ·exact⟨_,L,λv z=>nomatch z⟩
  ·exact⟨_,O,λv z=>nomatch z⟩
  ·exact⟨_,hO,λv z=>nomatch z⟩
  ·exact h1.obj
  ·exact h2.obj
 keep:=λi h h' st k=>by
  obtain⟨b1,b2,L,O,⟨x,y,hO⟩,h1,h2⟩:=st;exact⟨b1,b2,k _ (by simp[fpZ]) _ L,k _ (by simp[fpZ]) _ O,⟨x,y,k _ (by simp[fpZ]) _ hO⟩,h1.on λo e=>k _ (by simp[fpZ]) o e,h2.on λo e=>k _ (by simp[fpZ]) o e⟩
 item:=by
  intro X hP hw hK hc i pins s σ H E I hf st hg;subst hP hw hK;obtain⟨xs,ys,x,y,qx,qy,ex,ey⟩:=hg;obtain⟨b1,b2,L,O,⟨ua,ub,hO⟩,h1,h2⟩:=st;obtain⟨vx,rx,sx⟩:=qq5 I qx;obtain⟨vy,ry,sy⟩:=qq5 I qy;obtain⟨u1,a9,a7⟩:=rx.get ex;obtain⟨u2,a8,a0⟩:=ry.get ey;refine zip_get b1 b2 L O hO h1 h2 sx sy (by simpa using a9) (by simpa using a8) λh' a1 a2 a3 a4 a5 a6 kp=>⟨_,rfl,?_⟩
  refine wpAny_letOwnedTupleGo_zip a1 λh9 c1 c2=>?_;have J:=c2.extBut;have lt:∀b∈fpZ n,b≠s.heap.objs.size:=λb F z=>by
   have q:b<s.heap.objs.size:=by
    simp only[fpZ,Qqa,Qzx,or_false]at F;rcases F with rfl|rfl|rfl|rfl|rfl
    ·exact Qqe L
    ·exact Qqe O
    ·exact Qqe hO
    ·obtain⟨o,e,_⟩:=h1.obj; exact Qqe e
    ·obtain⟨o,e,_⟩:=h2.obj; exact Qqe e
   rw[z]at q;exact Qz6 _ q
  have nz:s.heap.objs.size≠n+4:=λz=>lt (n+4) (by simp[fpZ]) z.symm;have I1:Inv X pins σ H { s with heap:=h9,toks:=s.toks }:=Inv.turnedL I (λb o F e=>J _ _ (λz=>F (by simp[fpZ,z])) (kp b o (λz=>F (by simp[fpZ,z])) (λz=>F (by simp[fpZ,z])) (λz=>F (by simp[fpZ,z])) (λz=>F (by simp[fpZ,z])) e)) hf;have fr:=I.hok.fresh (Qqj _);have I2:Inv X pins σ (upd H s.heap.objs.size (.tup [x,y])) { s with heap:=h9,toks:=s.toks }:=Inv.track I1 (I.fpOk (Qqj _) fr) ⟨by show 2<=sizeLine; decide,[u1,u2],.cons a7 (.cons a0 .nil),⟨_,J _ _ nz a6,rfl,_,rfl⟩⟩;refine⟨.ref s.heap.objs.size,upd H s.heap.objs.size (.tup [x,y]),I2,rfl,⟨_,x,y,rfl,fr,rfl,λzs U=>?_,λzs U=>?_⟩,⟨b1,b2,c1,J _ _ (by show @Ne Nat _ _; lia) a2,⟨_,_,J _ _ (by show @Ne Nat _ _; lia) a3⟩,a4.on λo e=>J _ o (by show @Ne Nat _ _; lia) e,a5.on λo e=>J _ o (by show @Ne Nat _ _; lia) e⟩,λb F=>?_⟩
  ·rw[qvz I U qx]; exact ex
  ·rw[qvz I U qy]; exact ey
  ·rw[qzq (lt b F)]; exact(hf b F).1
 done:=by
  intro X hP hw hK hc i pins s σ H E I hf st hg;subst hP hw hK;obtain⟨xs,ys,qx,qy,Y⟩:=hg;obtain⟨b1,b2,L,O,⟨ua,ub,hO⟩,h1,h2⟩:=st;obtain⟨vx,rx,sx⟩:=qq5 I qx;obtain⟨vy,ry,sy⟩:=qq5 I qy;have lx:=rx.length;have ly:=ry.length;refine qfs (I.ok.hd hc) b1 b2 L O hO h1 h2 sx sy ?_ λh' kp=>⟨rfl,Inv.turnedL I (λb o F e=>kp b o (λz=>F (by simp[fpZ,z])) (λz=>F (by simp[fpZ,z])) (λz=>F (by simp[fpZ,z])) (λz=>F (by simp[fpZ,z])) e) hf⟩
  rcases Y with h|h
  ·exact .inl (by simp; lia)
  ·exact .inr (by simp; lia)
 self:=λ_ _ _ _ _ st h=>wpAny_pyIter_zip st.2.2.1 h
noncomputable def iZip(K:Qqq)(ta:TA):TI:=λσ H R=>ta σ H λvs H1=>∃(k1 k2:RK) (a b:Ya),vs=[.ref a,.ref b]/\(∃xs,k1.sq K H1 a xs)/\(∃ys,k2.sq K H1 b ys)/\R (Itz K k1 k2 a b) H1
def pi_zip(hg:Gl X "zip")(hm:X.mg "zip" = Y3)(ha:PA X [a,b] Y)(hs:starEach [a,b] X.env=[(Y1,Qa a X.env),(Y1,Qa b X.env)]:=by rfl)(J:starEach [b] X.env=[(Y1,Qa b X.env)]:=by rfl):
  PI X (.Tuple L c z) (.Call (.Name "zip" p) [a,b] [] pos) (iZip X.K Y):=by
 intro pins s σ H R I h;refine Call_ (qx8 I hg hm boot_zip (PyProof.Rows.callWith_type1 (thn (ha pos pins s σ H _ I h) λus F ⟨vs,H1,O,r1,q1⟩=>?_) (by rw[hs,J]) (by rw[J]; rfl)));obtain⟨k1,k2,a,b,e,⟨xs,qx⟩,⟨ys,qy⟩,q⟩:=q1;subst e
 cases r1 with
 |cons r U=>
  cases U with
  |cons r' U=>
   cases U;cases r;cases r';obtain⟨vx,rx,sx⟩:=qq5 O qx;obtain⟨vy,ry,Z⟩:=qq5 O qy;have la:a<F.heap.objs.size:=by
    cases k1<;>(obtain⟨o,e,_⟩:=sx; exact Qqe e)
   have lb:b<F.heap.objs.size:=by
    cases k2<;>(obtain⟨o,e,_⟩:=Z; exact Qqe e)
   refine qe8 sx Z la lb λh' st kp=>wpAny_pyIter_zip st.2.2.1 ?_;refine⟨F.heap.objs.size+4,fpZ F.heap.objs.size,_,_,H1,rfl,O.kept kp,qf0 k1 k2 _ a b,st,λd hd=>?_,q⟩;have ld:F.heap.objs.size<=d:=by
    simp only[fpZ,Qqa,Qzx,or_false]at hd;rcases hd with rfl|rfl|rfl|rfl|rfl<;>(show @LE.le Nat _ _ _; lia)
   exact O.fpOk ld (O.hok.fresh ld)
section
end
inductive EntOk (prm:Qs):List Qp->List Yb->List Yv->Prop
 |nil:EntOk prm [] [] []
 |cons {k:Yb}{t:Tok}{u:Yv}{es:List Qp}{ks:List Yb}{us:List Yv}(h:EntOk prm es ks us):EntOk prm (⟨PyData.keyHash prm k,.str k t,u⟩::es) (k::ks) (u::us)
structure FDict (prm:Qs) (K:Qqq) (a:Ya) (ks:List Yb) (ds:List M.D):Prop where
 ex:∃(us:List Yv) (vs:List V) (es:Array Qp) (ep:Nat),K.lookup a=Y2 { cls:=.type "dict",data:=.dict es ep }/\EntOk prm es.toList ks us/\Vals vs us/\∀m H,IsDs K m H ds vs
 nd:ks.Nodup
 ne:(a==Qm)=Y1
noncomputable def kzip{α:Type}(ks:List Yb)(us:List α):List (Key×α):=(ks.map λk=>(Sum.inr k:Key)).zip us
theorem qa2:∀{es}{z}{us},EntOk w.params es z us->(∀e∈es,∃k,(mixKind P w).is k e.key=Y0/\e.hash=(mixKind P w).hash k)/\PySem.Pairs (mixKind P w) es (kzip z us)/\(kzip z us).map (·.1)=z.map λk=>(Sum.inr k:Key)
 |_,_,_,.nil=>⟨(λe h=>nomatch h),.nil,rfl⟩
 |_,_,_,.cons (k:=k) (t:=t) h=>by
  obtain⟨h1,h2,J⟩:=qa2 h;refine⟨λe F=>?_,?_,?_⟩
  ·rcases Qqa.mp F with q|q
   ·subst q;exact⟨.inr k,qxz P w k t,rfl⟩
   ·exact h1 e q
  ·exact .cons (qxz P w k t) rfl h2
  ·exact congrArg (List.cons (Sum.inr k:Key)) J
def qel(I:Inv X F O H s)(h:FDict X.w.params X.K a z ds):
  ∃(us:List Yv) (vs:List V),s.heap.DictOf (mixKind X.prog X.w) a (kzip z us)/\Vals vs us/\(∀m H,IsDs X.K m H ds vs)/\z.length=us.length:=by
 obtain⟨us,vs,es,ep,e1,L,e3,e4⟩:=h.ex;obtain⟨h1,h2,h3⟩:=qa2 L;refine⟨us,vs,⟨_,es,ep,I.kIn a _ e1,⟨rfl,rfl,rfl⟩,rfl,λe Z=>h1 e (by simpa using Z),h2,?_⟩,e3,e4,?_⟩
 ·rw[h3];exact(List.pairwise_map.mpr (h.nd.imp λJ Y=>J (Sum.inr.inj Y)))
 ·have:∀{es:List Qp}{z:List Yb}{us:List Yv},EntOk X.w.params es z us->z.length=us.length:=by
   intro es z us q
   induction q with
   |nil=>rfl
   |cons _ U=>rw[Qqg,Qqg,U]
  exact this L
theorem qnv(z):∀(F:List Yb) (us:List α),((kzip F us).find? λp=>decide (p.1=Sum.inr z)).map (·.2)=((F.zip us).find? λq=>q.1==z).map (·.2)
 |[],us=>rfl
 |k::F,[]=>rfl
 |k::F,u::us=>by
  have J:=qnv z F us;show((((Sum.inr k:Key),u)::kzip F us).find? λp=>decide (p.1=Sum.inr z)).map (·.2)=(((k,u)::F.zip us).find? λq=>q.1==z).map (·.2);rw[Qqu,Qqu]
  by_cases h:k=z
  ·have h1:decide ((Sum.inr k:Key)=Sum.inr z)=true:=by rw[h]; simp
   have h2:(k==z)=true:=by rw[h]; simp
   simp only[h1,h2]
   rfl
  ·have h1:decide ((Sum.inr k:Key)=Sum.inr z)=false:=Z8 λq=>h (Sum.inr.inj q);have h2:(k==z)=false:=by simpa using h
   simp only[h1,h2];exact J
theorem qed{K:Qqq}(z):∀{F:List Yb}{ds:List M.D}{vs:List V}{us:List Yv},(∀m H,IsDs K m H ds vs)->Vals vs us->F.length=us.length->
  (((F.zip ds).find? λq=>q.1==z)=Y3/\((F.zip us).find? λq=>q.1==z)=Y3/\F.contains z=Y1)\/∃k d v u,((F.zip ds).find? λq=>q.1==z)=Y2 (k,d)/\((F.zip us).find? λq=>q.1==z)=Y2 (k,u)/\(∀m H,MS.IsD K m H d v)/\RelV v u/\F.contains z=Y0
 |[],ds,vs,us,i,r,h=>.inl ⟨rfl,rfl,rfl⟩
 |k::F,[],vs,us,i,r,h=>by
  rw[(i [] λ_=>Y3).nil]at r;cases r;cases h
 |k::F,d::ds,vs,us,i,r,h=>by
  obtain⟨v,vr,e,_,_⟩:=(i [] λ_=>Y3).cons;subst e;have i1:∀m H,MS.IsD K m H d v:=λm H=>by
   obtain⟨O,J,e,q,_⟩:=(i m H).cons;cases e;exact q
  have i2:∀m H,IsDs K m H ds vr:=λm H=>by
   obtain⟨O,J,e,_,q⟩:=(i m H).cons;cases e;exact q
  cases r with
  |cons Y U=>
   rename_i u us
   by_cases L:k=z
   ·subst L;refine .inr ⟨k,d,v,u,by simp,by simp,i1,Y,by simp⟩
   ·have h2:(k==z)=false:=by simpa using L
    have h3:(z==k)=false:=by simpa using Ne.symm L
    have Z:=qed z i2 U (by simpa using h);rw[List.zip_cons_cons,List.zip_cons_cons,Qqu,Qqu,List.contains_cons];simp only[h2,h3];exact Z
section
def qmh(hg:Gl X x)(hm:X.mg x=Y2 (.ref a))(hF:FDict X.w.params X.K a J ds)(hd:(x==("__debug__" : Yb))=Y1)(hb:PE X b tb)(hs:NoSl b):
  PE X (.Subscript (.Name x p0) b pos) (λσ H Q=>tb σ H λy H2=>∃z d,y=.str z/\(∃k,((J.zip ds).find? λq=>q.1==z)=Y2 (k,d))/\∀v,(∀m,MS.IsD X.K m H2 d v)->Q v H2):=by
 intro pins s σ H Q I h;refine qcl PySem.F.slot_dict_getitem.lookup hs (thn (qyj hg hm (show RelV (.ref a) (.ref a) from rfl) hd pins s σ H (λx H1=>x=.ref a/\tb σ H1 _) I ⟨rfl,h⟩) λu Z ⟨x',H1,I1,rx,ex,q1⟩=>?_);subst ex;cases rx;refine thn (hb pins Z σ H1 _ I1 q1) λiv s2 ⟨y,H2,U,ry,z,d,ey,⟨k,F⟩,q2⟩=>?_;subst ey;obtain⟨Y,vs,O,rv,hI,hl⟩:=qel U hF;refine⟨O.typeIs,?_⟩;rcases qed z hI rv hl with⟨n1,_,_⟩|⟨k',d',L,u',f1,f2,f3,f4,_⟩
 ·rw[n1]at F; cases F
 ·rw[f1]at F;cases F;have hw:valueAt (kzip J Y) (Sum.inr z)=Y2 u':=by
   unfold valueAt;rw[qnv,f2]
   rfl
  exact wpAny_getItem_of (qj0 (k:=.inr z) ry) O.mapOf hw ⟨L,H2,U.tok _,f4,q2 L λm=>f3 m H2⟩
def gd_has(I:Inv X q L H s)(hF:FDict X.w.params X.K a J ds)(z):
  ∃F,s.heap.DictOf (mixKind X.prog X.w) a (kzip J F)/\(valueAt (kzip J F) (Sum.inr z)).isSome=J.contains z:=by
 obtain⟨F,vs,dd,O,hI,Z⟩:=qel I hF;refine⟨F,dd,?_⟩;unfold valueAt;rw[qnv];rcases qed z hI O Z with⟨_,Y,U⟩|⟨k',d',v',u',f1,f2,f3,f4,f5⟩
 ·rw[Y,U]; rfl
 ·rw[f2,f5]; rfl
def pc_gin(neg)(hg:Gl X x)(hm:X.mg x=Y2 (.ref a))(F:FDict X.w.params X.K a q ds)(hd:(x==("__debug__" : Yb))=Y1)(hb:PE X b tb):
  PC X (if neg then .NotIn else .In) b (.Name x p0) (λσ H Q=>tb σ H λy H2=>∃z,y=.str z/\Q (.bl (q.contains z != neg)) H2):=by
 intro pins s σ H Q I h;refine thn (hb pins s σ H _ I h) λiv Z ⟨y,H1,I1,L,z,ey,q1⟩=>?_;subst ey;refine thn (qyj hg hm (show RelV (.ref a) (.ref a) from rfl) hd pins Z σ H1 (λx H2=>x=.ref a/\Q (.bl (q.contains z != neg)) H2) I1 ⟨rfl,q1⟩) λu s2 ⟨x',H2,J,rx,ex,O⟩=>?_;subst ex;cases rx;obtain⟨us,Y,U⟩:=gd_has J F z
 cases neg with
 |false=>
  refine wpAny_in_of (qj0 (k:=.inr z) L) F.ne Y.mapOf ?_;rw[U];refine⟨.bl _,H2,J.tok _,rfl,?_⟩;simpa using O
 |true=>
  refine wpAny_notIn_of (qj0 (k:=.inr z) L) F.ne Y.mapOf ?_;rw[U];refine⟨.bl _,H2,J.tok _,rfl,?_⟩;simpa using O
open M (D Yc Yo Sl)
def qdd(neg)(U:Gl X x)(O:X.mg x=Y2 (.ref a))(Z:FDict X.w.params X.K a F ds)(hd:(x==("__debug__" : Yb))=Y1)(Y:PE X b (tD X.K J)):
  PC X (if neg then .NotIn else .In) b (.Name x p0) (tD X.K λτ st=>(J τ st).bind λp=>match p.1 with
   |.str z=>Y2 (.bl (F.contains z != neg),p.2)
   |_=>Y3):=by
 intro pins s σ H Q I h;refine pc_gin neg U O Z hd Y pins s σ H Q I ?_;refine h.el λm st τ d st' R0 S0 e q=>qzj e λd1 s1 e1 e=>rsI R0 S0 e1 λy m1 H1 b1 t1 R1 L=>?_
 cases d1 with
 |str z=>
  have q:=q.of e;exact⟨z,L.str,q _ m1 H1 b1 t1 R1 (mkBl _)⟩
 |_=>exact nn e
def qg3(Z:Gl X x)(Y:X.mg x=Y2 (.ref a))(hF:FDict X.w.params X.K a F ds)(hd:(x==("__debug__" : Yb))=Y1)(hb:PE X b (tD X.K J))(U:NoSl b):
  PE X (.Subscript (.Name x p0) b pos) (tD X.K λτ st=>(J τ st).bind λp=>match p.1 with
   |.str z=>((F.zip ds).find? λq=>q.1==z).map λq=>(q.2,p.2)
   |_=>Y3):=by
 refine(qmh Z Y hF hd hb U).imp λσ H Q h=>h.el λm st τ d st' R0 S0 e q=>qzj e λd1 s1 e1 e=>rsI R0 S0 e1 λy m1 H1 b1 t1 R1 L=>?_
 cases d1 with
 |str z=>
  refine qze e λw e2 e3=>?_;cases e3;exact⟨z,w.2,L.str,⟨w.1,e2⟩,λv O=>q _ m1 H1 b1 t1 R1 (O m1)⟩
 |_=>exact nn e
def qyl{K:Qqq}(O:M.isKey z=Y0)(F:IsKV K m H kvs xs)(U:Rd H a (.dK xs))(J:MS.IsD K m H z y):
  ∃o,DGet H a y o/\((M.dget kvs z=Y3/\o=Y3)\/∃d v,M.dget kvs z=Y2 d/\o=Y2 v/\MS.IsD K m H d v):=by
 obtain⟨k,q⟩:=qqr O;have L:=qnw q J;subst L;refine⟨valV xs k,.inl ⟨xs,k,U,rfl,rfl⟩,?_⟩;rcases F.get q with⟨h1,h2⟩|⟨d,v,h1,h2,Y⟩
 ·exact .inl ⟨h1,h2⟩
 ·exact .inr ⟨d,v,h1,h2,Y⟩
def qde(U:X.A.units+1<cLine)(neg)(Z:PE X a (tD X.K L))(Y:PE X b (tD X.K J)):
  PC X (if neg then .NotIn else .In) a b (tD X.K λτ st=>(L τ st).bind λp=>(J τ p.2).bind λq=>match q.1 with
   |.loc l=>(M.dicAt q.2 l).bind λkvs=>if M.isKey p.1 then Y2 (.bl ((M.dget kvs p.1).isSome != neg),q.2) else Y3
   |_=>Y3):=by
 have F:∀{σ:L2.St}{H:Hp}{Q:VK},tD X.K (λτ st=>(L τ st).bind λp=>(J τ p.2).bind λq=>match q.1 with
   |.loc l=>(M.dicAt q.2 l).bind λkvs=>if M.isKey p.1 then Y2 (.bl ((M.dget kvs p.1).isSome != neg),q.2) else Y3
   |_=>Y3) σ H Q->tD X.K L σ H λy H1=>tD X.K J σ H1 λx H2=>∃a o,x=.ref a/\DGet H2 a y o/\Q (.bl (o.isSome != neg)) H2:=by
  intro σ H Q h;refine h.el λm st τ d st' R0 S0 e q=>qzj e λd1 s1 e1 e=>qzj e λd2 s2 e2 e=>rsI R0 S0 e1 λy m1 H1 b1 t1 R1 i1=>rsI R1 (S0.mono b1 t1) e2 λz m2 H2 b2 t2 R2 i2=>?_
  cases d2 with
  |loc l=>
   refine qzx e λkvs e3 e=>?_
   split at e
   ·rename_i hk;have q:=q.of e;obtain⟨a',xs,_,rfl,hH,O⟩:=R2.dict e3 i2;obtain⟨o,g,hg⟩:=qyl hk O hH (qzv b2 t2 _ _ i1);refine⟨a',o,rfl,g,?_⟩;have e4:o.isSome=(M.dget kvs d1).isSome:=by
     rcases hg with⟨h1,h2⟩|⟨d,v,h1,h2,_⟩
     ·rw[h1,h2]; rfl
     ·rw[h1,h2]; rfl
    rw[e4];exact q _ m2 H2 (b1.trans b2) (t1.trans t2) R2 (mkBl _)
   ·exact nn e
  |_=>exact nn e
 cases neg with
 |false=>
  intro pins s σ H Q I h;refine qie U Z Y pins s σ H Q I ?_;have:=F h;simpa only[tDIn,Bool.bne_false] using this
 |true=>
  intro pins s σ H Q I h;refine qwz U Z Y pins s σ H Q I ?_;have:=F h;simpa only[qw8,Bool.bne_true] using this
def qg4(hu:X.A.units+1<cLine)(ha:PE X a (tD X.K O))(hb:PE X b (tD X.K L))(hs:NoSl b):
  PE X (.Subscript a b pos) (tD X.K λτ st=>(O τ st).bind λp=>(L τ p.2).bind λq=>match p.1 with
   |.loc l=>(M.dicAt q.2 l).bind λkvs=>if M.isKey q.1 then(M.dget kvs q.1).map λd=>(d,q.2) else Y3
   |_=>Y3):=by
 refine(qdy hu ha hb hs).imp λσ H Q h=>h.el λm st τ d st' R0 U e q=>qzj e λd1 s1 e1 e=>qzj e λd2 s2 e2 e=>rsI R0 U e1 λy m1 H1 b1 t1 R1 i1=>rsI R1 (U.mono b1 t1) e2 λz Y H2 b2 t2 R2 Z=>?_
 cases d1 with
 |loc l=>
  refine qzx e λkvs e3 e=>?_
  split at e
  ·rename_i hk;refine qze e λw F e5=>?_;cases e5;obtain⟨a',xs,_,rfl,hH,J⟩:=R2.dict e3 (qzv b2 t2 _ _ i1);obtain⟨o,g,hg⟩:=qyl hk J hH Z;rcases hg with⟨h1,h2⟩|⟨d,v,h1,h2,h3⟩
   ·rw[h1]at F; cases F
   ·rw[h1]at F;cases F;subst h2;exact⟨a',v,rfl,g,q _ Y H2 (b1.trans b2) (t1.trans t2) R2 h3⟩
  ·exact nn e
 |_=>exact nn e
def qml(hu:X.A.units+1<cLine)(ha:PE X a (tD X.K fa))(hb:PE X b (tD X.K Z))(hm:M1 X a "get" J b F):
  PE X (.Call (.Attribute a "get" J) [b] [] F) (tD X.K λτ st=>(fa τ st).bind λp=>match p.1 with
   |.loc l=>(M.dicAt p.2 l).bind λ_=>(Z τ p.2).bind λq=>(M.dicAt q.2 l).bind λkvs=>if M.isKey q.1 then Y2 ((M.dget kvs q.1).getD .non,q.2) else Y3
   |_=>Y3):=by
 refine(qg6 hu ha hb hm).imp λσ H Q h=>h.el λm st τ d st' R0 S0 e q=>qzj e λd1 s1 e1 e=>rsI R0 S0 e1 λy m1 H1 b1 t1 R1 Y=>?_
 cases d1 with
 |loc l=>
  refine qzx e λa2 e0 e=>qzj e λd2 s2 e2 e=>qzx e λkvs e3 e=>?_
  split at e
  ·rename_i hk;have q:=q.of e;obtain⟨a0,a1,a3,rfl,O,_⟩:=R1.dict e0 Y;refine⟨a0,rfl,.inl ⟨_,O⟩,rsI R1 (S0.mono b1 t1) e2 λz U H2 b2 t2 R2 i2=>?_⟩;obtain⟨a',xs,_,ea,hH,L⟩:=R2.dict e3 (qzv b2 t2 _ _ Y);cases ea;obtain⟨o,g,hg⟩:=qyl hk L hH i2;refine⟨o,g,?_⟩;rcases hg with⟨h1,h2⟩|⟨d,v,h1,h2,h3⟩
   ·rw[h1]at q;subst h2;exact q _ U H2 (b1.trans b2) (t1.trans t2) R2 qvj
   ·rw[h1]at q;subst h2;exact q _ U H2 (b1.trans b2) (t1.trans t2) R2 h3
  ·exact nn e
 |_=>exact nn e
end
section
end
section
open M (D Yc Yo Sl)
end
end MS
end
section
namespace MS
open PySem PySem.Spec PyProof.Rows L2
open M (D Yc Yo Sl)
section
variable {K:Qqq}{m m1:List Ya}{H1:Hp}
mutual
theorem qev:∀(d:D) (v:V),M.noLoc d=Y0->MS.IsD K m1 H1 d v->MS.IsD K m H1 d v
 |.non,_,_,h=>by rw[h.non]; exact qvj
 |.bl _,_,_,h=>by rw[h.bl]; exact mkBl _
 |.int _,_,_,h=>by rw[h.int]; exact mkInt _
 |.str _,_,_,h=>by rw[h.str]; exact mkStr _
 |.tup ds,_,n,h=>by
  obtain⟨a,xs,rfl,q,r⟩:=h.tup;unfold M.noLoc at n;exact qq3 q (qj4 ds xs n r)
 |.lst ds,_,n,h=>by
  obtain⟨a,xs,rfl,q,r⟩:=h.lst;unfold M.noLoc at n;exact qbi q (qj4 ds xs n r)
 |.loc l,_,n,h=>by unfold M.noLoc at n; cases n
 |.fup ks,_,_,h=>by obtain⟨a,rfl,e⟩:=h.fup; exact qbl e
theorem qj4:∀(ds:List D) (xs:List V),M.noLocs ds=Y0->IsDs K m1 H1 ds xs->IsDs K m H1 ds xs
 |[],_,_,h=>by rw[h.nil]; exact qqx
 |d::ds,_,n,h=>by
  obtain⟨x,r,rfl,q,t⟩:=h.cons;unfold M.noLocs at n;rw[Qqo]at n;exact qzm (qev d x n.1 q) (qj4 ds r n.2 t)
end
mutual
theorem qxi(s:Sub m m1):∀(d:D) (v L:V),MS.IsD K m H d v->MS.IsD K m1 H1 d L->MS.IsD K m H1 d L
 |.non,_,_,_,h=>by rw[h.non]; exact qvj
 |.bl _,_,_,_,h=>by rw[h.bl]; exact mkBl _
 |.int _,_,_,_,h=>by rw[h.int]; exact mkInt _
 |.str _,_,_,_,h=>by rw[h.str]; exact mkStr _
 |.tup ds,_,_,h0,h=>by
  obtain⟨a,xs,rfl,q,r⟩:=h.tup;obtain⟨J,z,_,_,F⟩:=h0.tup;exact qq3 q (qqs s ds z xs F r)
 |.lst ds,_,_,h0,h=>by
  obtain⟨a,xs,rfl,q,r⟩:=h.lst;obtain⟨J,z,_,_,F⟩:=h0.lst;exact qbi q (qqs s ds z xs F r)
 |.loc l,_,_,h0,h=>by
  obtain⟨J,O,_⟩:=h0.loc;obtain⟨a,e,rfl⟩:=h.loc;have:=s l J O;rw[e]at this;cases this;exact qhv O
 |.fup ks,_,_,_,h=>by obtain⟨a,rfl,e⟩:=h.fup; exact qbl e
theorem qqs(s:Sub m m1):∀(ds:List D) (xs z:List V),IsDs K m H ds xs->IsDs K m1 H1 ds z->IsDs K m H1 ds z
 |[],_,_,_,h=>by rw[h.nil]; exact qqx
 |d::ds,_,_,h0,h=>by
  obtain⟨x,r,rfl,q,t⟩:=h.cons;obtain⟨F,L,rfl,O,J⟩:=h0.cons;exact qzm (qxi s d F x O q) (qqs s ds L r J t)
end
theorem qj2(s:Sub m m1):∀(kvs:List (D×D)) (xs q:List (Key×V)),IsKV K m H kvs xs->IsKV K m1 H1 kvs q->IsKV K m H1 kvs q
 |[],_,_,_,h=>h
 |p::r,_,_,⟨k0,v0,J,e0,Y,z,F⟩,⟨k,v,L,e,Z,O,U⟩=>⟨k,v,L,e,Z,qxi s _ _ _ z O,qj2 s r _ _ F U⟩
theorem qj3(s:Sub m m1):∀(kvs:List (List Int×D)) (xs q:List (List Key×V)),IsKT K m H kvs xs->IsKT K m1 H1 kvs q->IsKT K m H1 kvs q
 |[],_,_,_,h=>h
 |p::r,_,_,⟨v0,J,Y,z,F⟩,⟨v,L,e,O,U⟩=>⟨v,L,e,qxi s _ _ _ z O,qj3 s r _ _ F U⟩
theorem qwd(s:Sub m m1):∀(fs:List (Yb×D)) (ys q:List (Yb×V)),IsFs K m H fs ys->IsFs K m1 H1 fs q->IsFs K m H1 fs q
 |[],_,_,_,h=>h
 |p::r,_,_,⟨v0,J,Y,z,F⟩,⟨v,L,e,O,U⟩=>⟨v,L,e,qxi s _ _ _ z O,qwd s r _ _ F U⟩
def qhb(s:Sub m m1)(J:IsC K m H c a)(h:IsC K m1 H1 c a):IsC K m H1 c a:=by
 cases c with
 |lst w ds=>
  cases w with
  |true=>
   obtain⟨xs,e,q⟩:=h;obtain⟨F,_,z⟩:=J;exact⟨xs,e,qqs s _ _ _ z q⟩
  |false=>
   obtain⟨xs,e,q⟩:=h;obtain⟨F,_,z⟩:=J;exact⟨xs,e,qqs s _ _ _ z q⟩
 |dic w kvs=>
  cases w with
  |true=>
   obtain⟨xs,e,q⟩:=h;obtain⟨F,_,z⟩:=J;exact⟨xs,e,qj2 s _ _ _ z q⟩
  |false=>
   obtain⟨o,xs,e,q⟩:=h;obtain⟨_,F,_,z⟩:=J;exact⟨o,xs,e,qj2 s _ _ _ z q⟩
 |obj C fs=>
  obtain⟨dx,ys,e,q⟩:=h;obtain⟨_,L,_,z⟩:=J;exact⟨dx,ys,e,qwd s _ _ _ z q⟩
 |tdc w kvs=>
  cases w with
  |true=>
   obtain⟨xs,e,q⟩:=h;obtain⟨F,_,z⟩:=J;exact⟨xs,e,qj3 s _ _ _ z q⟩
  |false=>
   obtain⟨o,xs,e,q⟩:=h;obtain⟨_,F,_,z⟩:=J;exact⟨o,xs,e,qj3 s _ _ _ z q⟩
def pre_at{st q:Yo}(h:q.take st.length=st){l:Nat}(e:st[l]?=Y2 c):q[l]?=Y2 c:=by
 have z:=(Qqk.mp e).1;rw[<- h,Qx2,Xq z]at e;exact e
def Rel.cutBack{st:Yo}(F:Rel K m st H)(L:Rel K m1 q H1)(s:Sub m m1)(h:q.take st.length=st)(t:Tr H1 H2)(J:∀(l:Nat) (c:Yc) (a:Ya),st[l]?=Y2 c->m[l]?=Y2 a->Wr c=Y0->H2 a=H1 a):Rel K m st H2:=
 ⟨F.len,F.nd,λl c a e z=>qjv (Sub.refl m) t (qhb s (F.cell l c a e z) (L.cell l c a (pre_at h e) (s l a z))) λw=>J l c a e z w⟩
mutual
theorem qvc(s:Sub m m1):∀(d:D) (v:V),M.lt m.length d=Y0->IsD K m1 H d v->IsD K m H d v
 |.non,_,_,h=>h
 |.bl _,_,_,h=>h
 |.int _,_,_,h=>h
 |.str _,_,_,h=>h
 |.tup ds,_,z,h=>by
  unfold M.lt at z;obtain⟨a,xs,rfl,q,r⟩:=h.tup;exact qq3 q (qxg s ds xs z r)
 |.lst ds,_,z,h=>by
  unfold M.lt at z;obtain⟨a,xs,rfl,q,r⟩:=h.lst;exact qbi q (qxg s ds xs z r)
 |.loc l,_,z,h=>by
  unfold M.lt at z;obtain⟨a,e,rfl⟩:=h.loc;have z:l<m.length:=by simpa[Nat.blt_eq] using z
  have J:m[l]?=Y2 m[l]:=by simp
  have F:=s l _ J;rw[e]at F;cases F;exact qhv J
 |.fup ks,_,_,h=>by obtain⟨a,rfl,e⟩:=h.fup; exact qbl e
theorem qxg(s:Sub m m1):∀(ds:List D) (xs:List V),M.lts m.length ds=Y0->IsDs K m1 H ds xs->IsDs K m H ds xs
 |[],_,_,h=>h
 |d::ds,_,z,h=>by
  unfold M.lts at z;rw[Qqo]at z;obtain⟨x,r,rfl,q,t⟩:=h.cons;exact qzm (qvc s d x z.1 q) (qxg s ds r z.2 t)
end
theorem qva(s:Sub m m1):∀(kvs:List (D×D)) (xs:List (Key×V)),(kvs.all λp=>M.lt m.length p.2)=Y0->IsKV K m1 H kvs xs->IsKV K m H kvs xs
 |[],_,_,h=>h
 |p::r,_,q,⟨k,v,z,e,L,F,J⟩=>by
  rw[Qzn,Qqo]at q;exact⟨k,v,z,e,L,qvc s _ _ q.1 F,qva s r z q.2 J⟩
theorem qvb(s:Sub m m1):∀(kvs:List (List Int×D)) (xs:List (List Key×V)),(kvs.all λp=>M.lt m.length p.2)=Y0->IsKT K m1 H kvs xs->IsKT K m H kvs xs
 |[],_,_,h=>h
 |p::r,_,q,⟨v,z,e,F,J⟩=>by
  rw[Qzn,Qqo]at q;exact⟨v,z,e,qvc s _ _ q.1 F,qvb s r z q.2 J⟩
theorem qar(s:Sub m m1):∀(fs:List (Yb×D)) (ys:List (Yb×V)),(fs.all λp=>M.lt m.length p.2)=Y0->IsFs K m1 H fs ys->IsFs K m H fs ys
 |[],_,_,h=>h
 |p::r,_,q,⟨v,z,e,F,J⟩=>by
  rw[Qzn,Qqo]at q;exact⟨v,z,e,qvc s _ _ q.1 F,qar s r z q.2 J⟩
def qng(s:Sub m m1)(z:M.ltC m.length c=Y0)(h:IsC K m1 H c a):IsC K m H c a:=by
 cases c with
 |lst w ds=>
  cases w with
  |true=>obtain⟨xs,e,q⟩:=h; exact⟨xs,e,qxg s _ _ z q⟩
  |false=>obtain⟨xs,e,q⟩:=h; exact⟨xs,e,qxg s _ _ z q⟩
 |dic w kvs=>
  cases w with
  |true=>obtain⟨xs,e,q⟩:=h; exact⟨xs,e,qva s _ _ z q⟩
  |false=>obtain⟨o,xs,e,q⟩:=h; exact⟨o,xs,e,qva s _ _ z q⟩
 |obj C fs=>obtain⟨dx,ys,e,q⟩:=h; exact⟨dx,ys,e,qar s _ _ z q⟩
 |tdc w kvs=>
  cases w with
  |true=>obtain⟨xs,e,q⟩:=h; exact⟨xs,e,qvb s _ _ z q⟩
  |false=>obtain⟨o,xs,e,q⟩:=h; exact⟨o,xs,e,qvb s _ _ z q⟩
def GcOk(st st0:Yo):Prop:=(st0.take st.length).all (M.ltC st.length)=Y0\/st0.take st.length=st
def gc_el{st:Yo}(e:M.gcD st p=q):p=q\/(GcOk st p.2/\M.gcX st.length p=q):=by
 unfold M.gcD at e
 split at e
 ·rename_i h; exact .inr ⟨.inl h,e⟩
 ·split at e
  ·rename_i h; exact .inr ⟨.inr h,e⟩
  ·exact .inl e
def qjb{q:Yo}(e:(q.take n)[l]?=Y2 c):l<n/\q[l]?=Y2 c:=by
 rw[Qx2]at e
 split at e
 ·rename_i h; exact⟨h,e⟩
 ·exact nn e
def Rel.cut{st:Yo}(U:Rel K m st H)(J:Rel K m1 q H1)(s:Sub m m1)(h:GcOk st q)(t:Tr H1 H2)(O:∀(l:Nat) (c:Yc) (a:Ya),(q.take st.length)[l]?=Y2 c->m[l]?=Y2 a->Wr c=Y0->H2 a=H1 a):Rel K m (q.take st.length) H2:=by
 rcases h with h|h
 ·have hm:=U.len;have a0:m.length<=m1.length:=by
   rcases Qz5 m1.length m.length with z|z
   ·have L:m[m1.length]?=Y2 (m[m1.length]'z):=by simp
    have:=(Qqk.mp (s _ _ L)).1
    lia
   ·exact z
  have h1:=J.len;refine⟨by rw[Qzz]; lia,λl Z a c c' e1 L e3 e4 w Y=>J.nd l Z a c c' (s _ _ e1) (s _ _ L) (qjb e3).2 (qjb e4).2 w Y,λl c a e F=>?_⟩;refine qjv (Sub.refl m) t (qng s ?_ (J.cell l c a (qjb e).2 (s l a F))) λw=>O l c a e F w;have:=Qq8.mp h c (Qqm e);rw[hm]; exact this
 ·rw[h];exact U.cutBack J s h t λl c a e F w=>O l c a (by rw[h]; exact e) F w
end
section
def qko(I:Inv X F L H s)(h:H a=Y2 (.lst xs)):∃o,Inv X F L (upd H a (.frz o (.lst xs))) s:=by
 obtain⟨z,J,n,r,e⟩:=id (I.hok a _ h);refine⟨{ cls:=.type "list",data:=.seq J.toArray n },I.un ⟨λb o q _ _ _=>q,λb o q _ _ _=>⟨o.slots,q⟩,λb o q hn _=>?_,λb o q _=>⟨o,q⟩,λb ys q=>?_,λb o u q=>?_,λb ps q=>⟨#[],?_⟩⟩ ?_⟩
 ·rw[qzq (λz=>by subst z; rw[h]at hn; cases hn)];exact hn
 ·rw[qzq (qzo q h (by intro z; cases z))]; exact q
 ·rw[qzq (qzo q h (by intro z; cases z))]; exact q
 ·rw[qzq (qzo q h (by intro z; cases z)),q]; simp
 ·intro b u q
  by_cases O:b=a
  ·subst O;rw[qzk]at q;cases q;exact⟨e,z,J,n,r,e⟩
  ·rw[qzq O]at q;refine(I.hok b u q).stay (λc v _ w=>w) (λc w=>?_) λc ys w=>?_
   ·rw[qzq (qzo w h (by intro z; cases z))]; exact w
   ·rw[qzq (qzo w h (by intro z; cases z))]; exact w
inductive Di:HO->Prop
 |k (xs:List (Key×V)):Di (.dK xs)
 |t (xs:List (List Key×V)):Di (.dT xs)
def Di.ne(h:Di u):(∀ys,HO.tup ys≠u)/\(∀o v,HO.frz o v≠u)/\(∀p,HO.own p≠u)/\∀ps,HO.tbl ps≠u:=by
 cases h<;>exact⟨λ_ z=>(by cases z),λ_ _ z=>(by cases z),λ_ z=>(by cases z),λ_ z=>(by cases z)⟩
def qey(U:Di u)(I:Inv X F L H s)(h:H a=Y2 u):∃o,s.heap.get? a=Y2 o/\Inv X F L (upd H a (.frz o u)) s:=by
 obtain⟨O,n2,n3,Z⟩:=U.ne;have ok:=I.hok a _ h;obtain⟨o,J⟩:∃o,s.heap.get? a=Y2 o:=by
  cases U<;>(obtain⟨_,_,vs,_,o,es,ep,J,_⟩:=ok; exact⟨o,J⟩)
 have st:∀{b:Ya}{v:HO},ObjOk X.prog X.w H s.heap b v->ObjOk X.prog X.w (upd H a (.frz o u)) s.heap b v:=λk=>k.stay (λc v _ w=>w) (λc w=>by rw[qzq (qzo w h (n3 _))]; exact w) λc ys w=>by rw[qzq (qzo w h (O _))]; exact w
 refine⟨o,J,I.un ⟨λb o q _ _ _=>q,λb o q _ _ _=>⟨o.slots,q⟩,λb o q hn _=>?_,λb o q _=>⟨o,q⟩,λb ys q=>?_,λb o u q=>?_,λb ps q=>⟨#[],?_⟩⟩ ?_⟩
 ·rw[qzq (λz=>by subst z; rw[h]at hn; cases hn)];exact hn
 ·rw[qzq (qzo q h (O _))]; exact q
 ·rw[qzq (qzo q h (n2 _ _))]; exact q
 ·rw[qzq (qzo q h (Z _)),q]; simp
 ·intro b u q
  by_cases Y:b=a
  ·subst Y;rw[qzk]at q;cases q;exact⟨J,st ok⟩
  ·rw[qzq Y]at q;exact st (I.hok b u q)
def NoFz(X:Cx)(a:Ya):Prop:=∀o u,X.H₀ a≠Y2 (.frz o u)
def qdo(J:Di u)(I:Inv X q F H s)(h:H a=Y2 u):NoFz X a:=λo v z=>by
 have:=I.base.frzs a o v z;rw[h]at this;exact absurd (Option.some.inj this).symm (J.ne.2.1 o v)
def qvd(I:Inv X J O H s)(Y:NoFz X a)(h:H a=Y2 (.frz o u)):Inv X J O (upd H a u) s:=by
 have ok:=I.hok a _ h;have F:∀{b:Ya},H b=Y3->(upd H a u) b=none:=λ{b} q=>by
  rw[qzq (λz=>by subst z; rw[h]at q; cases q)];exact q
 have st:∀{b:Ya}{v:HO},ObjOk X.prog X.w H s.heap b v->ObjOk X.prog X.w (upd H a u) s.heap b v:=λk=>k.stay (λc v _ w=>w) (λc w=>by rw[qzq (qzo w h (by intro z; cases z))]; exact w) λc ys w=>by rw[qzq (qzo w h (by intro z; cases z))]; exact w
 refine⟨I.ok,I.os,I.bare,⟨I.base.keep,I.base.slot,λb o q hn Z=>F (I.base.free b o q hn Z),I.base.there,λb ys q=>?_,λb o u q=>?_,λb ps q=>?_⟩,I.loc,I.cell,F I.free,λx c q=>F (I.freeC x c q),λp hp=>?_,?_,I.len⟩
 ·have:=I.base.tups b ys q;rw[qzq (qzo this h (by intro z; cases z))]; exact this
 ·have:=I.base.frzs b o u q
  by_cases L:b=a
  ·subst L; exact absurd q (Y o u)
  ·rw[qzq L]; exact this
 ·obtain⟨more,this⟩:=I.base.tbls b ps q;exact⟨more,by rw[qzq (qzo this h (by intro z; cases z))]; exact this⟩
 ·obtain⟨p1,p2,U⟩:=I.pin p hp;exact⟨p1,F p2,U⟩
 ·intro b u q
  by_cases L:b=a
  ·subst L;rw[qzk]at q;cases q;exact st ok.2
  ·rw[qzq L]at q;exact st (I.hok b u q)
def Tr.lay(q:H a=Y2 (.lst xs)):Tr H (upd H a (.frz o (.lst xs))):=
 ⟨λb zs e=>by rw[qzq (qzo e q (by intro z; cases z))]; exact e,λb o u e=>by rw[qzq (qzo e q (by intro z; cases z))]; exact e⟩
def pe_gc(he:PE X p (tD X.K f)):PE X p (tD X.K λτ st=>(f τ st).map λq=>M.gcD st q):=by
 intro pins s σ H Q I h;refine h.el λm st τ d st' U S0 e q=>?_;obtain⟨⟨d0,J⟩,e1,e2⟩:=mapD e;refine thn (he pins s σ H (λv H1=>∃m1,Sub m m1/\Tr H H1/\Rel X.K m1 J H1/\MS.IsD X.K m1 H1 d0 v) I (rsI U S0 e1 λv m1 H1 b1 t1 F L=>⟨m1,b1,t1,F,L⟩)) λv s1 ⟨x,H1,Y,O,m1,b1,t1,F,L⟩=>?_;have plain:(d0,J)=(d,st')->EP X pins σ Q v s1:=λz=>by
  cases z;exact⟨x,H1,Y,O,q x m1 H1 b1 t1 F L⟩
 rcases gc_el e2 with z|⟨ok,z⟩
 ·exact plain z
 ·unfold M.gcX at z
  split at z
  ·rename_i hn;cases z;exact⟨x,H1,Y,O,q x m H1 (Sub.refl m) t1 (U.cut F b1 ok (Tr.refl H1) λ_ _ _ _ _ _=>rfl) (qev _ _ hn L)⟩
  ·split at z
   ·rename_i l hd;simp only at hd
    split at z
    ·rename_i hl
     split at z
     ·rename_i ds hc
      split at z
      ·rename_i hn;cases z;subst hd;obtain⟨a,ha,rfl⟩:=L.loc;obtain⟨xs,hx,ix⟩:=F.cell l _ a hc ha;obtain⟨o,I2⟩:=qko Y hx;have t2:=Tr.lay (o:=o) hx;refine⟨.ref a,_,I2,O,q _ m _ (Sub.refl m) (t1.trans t2) (U.cut F b1 ok t2 λZ c a' e ea w=>?_) ?_⟩
       ·refine qzq λz=>?_;subst z;have h3:=qjb e;have:=F.nd Z l a' c _ (b1 Z a' ea) ha h3.2 hc w rfl
        lia
       ·exact qbi (.inl ⟨o,qzk⟩) (qj4 _ _ hn (qzb (Sub.refl m1) t2 _ _ ix))
      ·exact plain z
     ·exact plain z
    ·exact plain z
   ·exact plain z
end
end MS
end
section
namespace MS
open PySem PySem.Spec PyProof.Rows L2
open M (D Yc Yo Sl)
def qwy(l)(q)(n)(b)(items2)(O)(J)(z)(Z:¬(!q.isEmpty&&Builtin.List.listTooLong (q.size+items2.size))=Y0)(Y:q.size<=sizeLine)(F:q.size+items2.size<=sizeLine+1):
  Meets (Q0.«list.extend» ⟨[.ref l,.ref b],[]⟩) (λ_ R s=>s.heap.get? l=Y2 { cls:=.type "list",dict:=Y3,data:=.seq q n,slots:=#[] }/\s.heap.get? b=Y2 { cls:=.type "list",dict:=J,data:=.seq items2 O,slots:=z }/\R (.ok (.ret Value.none)) { s with heap:=s.heap.update l (Obj.mapSeq λx=>x++items2),toks:=s.toks }):=
 .of_wp λprog w A R s h=>by
  obtain⟨hp,g,d,tk,os⟩:=s; obtain⟨L,hb,h⟩:=h; have f1:=AutoSeq1.idx_int; have f2:=AutoSeq1.sub_tuple_tuple; have f3:=AutoSeq1.sub_list_list; have f4:=AutoSeq1.sub_tuple_list; have f5:=AutoSeq1.sub_list_tuple;have U:(q++items2).size<=sizeLine+1:=by rw[Qjt]; exact F
  wp_walk using (wpAny_updateSeq L rfl),Zd L,Zd hb; exact⟨_,rfl,h⟩
def qwa(l)(q)(n)(b)(items2)(O)(J)(z)(Z:¬(!q.isEmpty&&Builtin.List.listTooLong (q.size+items2.size))=Y0)(Y:q.size<=sizeLine)(F:q.size+items2.size<=sizeLine+1):
  Meets (Q0.«list.extend» ⟨[.ref l,.ref b],[]⟩) (λ_ R s=>s.heap.get? l=Y2 { cls:=.type "list",dict:=Y3,data:=.seq q n,slots:=#[] }/\s.heap.get? b=Y2 { cls:=.type "tuple",dict:=J,data:=.seq items2 O,slots:=z }/\R (.ok (.ret Value.none)) { s with heap:=s.heap.update l (Obj.mapSeq λx=>x++items2),toks:=s.toks }):=
 .of_wp λprog w A R s h=>by
  obtain⟨hp,g,d,tk,os⟩:=s; obtain⟨L,hb,h⟩:=h; have f1:=AutoSeq1.idx_int; have f2:=AutoSeq1.sub_tuple_tuple; have f3:=AutoSeq1.sub_list_list; have f4:=AutoSeq1.sub_tuple_list; have f5:=AutoSeq1.sub_list_tuple;have U:(q++items2).size<=sizeLine+1:=by rw[Qjt]; exact F
  wp_walk using (wpAny_updateSeq L rfl),Zd L,Zd hb; exact⟨_,rfl,h⟩
section
def qbg:MtM X "list.extend" (λx xs H Q=>∃m st a ds d st',Rel X.K m st H/\MS.IsD X.K m H a x/\IsDs X.K m H ds xs/\M.mExtend st a ds=Y2 (d,st')/\Post X.K m H d st' Q):=by
 intro pins s σ H x xs v us Q I rx rs h;obtain⟨m,st,a,ds,d,st',R0,i1,i2,e,q⟩:=h;unfold M.mExtend at e
 split at e
 ·refine qzx e λa3 e1 e=>qzx e λes e2 e=>?_
  split at e
  ·rename_i hl;have q:=q.of e;obtain⟨p,ys,hm,rfl,Y,ix,hs⟩:=R0.wlist e1 i1;obtain⟨y,rfl,iy⟩:=i2.one;have l1:=ix.length;have l2:=qqk;cases rx;obtain⟨u,rfl,ru⟩:=rs.one;obtain⟨z,J,n,r,a2,eo⟩:=I.lstM Y
   split at e2
   ·rename_i ts;cases e2;obtain⟨b,zs,rfl,hq,iz⟩:=iy.tup;cases ru;obtain⟨its2,r2,⟨⟨a1,Z,a0,O⟩,h1,h2,n2,h3⟩,_⟩:=I.tuple hq;simp only at h2 h3;subst h2 h3;have l3:=iz.length;have l4:=r2.length;have U:J.toArray.size+its2.toArray.size<=sizeLine:=by rw[Qqd,Qqd]; lia
    have L:¬ (!J.toArray.isEmpty&&Builtin.List.listTooLong (J.toArray.size+its2.toArray.size))=true:=by
     rw[qac U,Bool.and_false];exact Qq7
    refine Q3 F.slot_list_extend ⟨_,eo,rfl⟩ F.entry_list_extend (F.args_list_extend_2 _ _) (qwa p J.toArray n b its2.toArray n2 Z O L (by rw[Qqd]; lia) (by lia)) ⟨eo,h1,?_⟩;refine⟨.non,_,I.lset Y eo (by simp) (r.append r2) ?_,rfl,?_⟩
    ·rw[Qqi]; lia
    ·exact q _ m _ (Sub.refl m) (Tr.put Y) (R0.put hs hm Y (ix.append iz)) qvj
   ·obtain⟨b,zs,_,rfl,hq,iz⟩:=R0.seq e2 iy;cases ru;obtain⟨its2,r2,⟨⟨a1,Z,a0,O⟩,n2,h1,h2,h4,h3⟩,_⟩:=I.list hq;simp only at h2 h3;subst h2 h3;have l3:=iz.length;have l4:=r2.length;have U:J.toArray.size+its2.toArray.size<=sizeLine:=by rw[Qqd,Qqd]; lia
    have L:¬ (!J.toArray.isEmpty&&Builtin.List.listTooLong (J.toArray.size+its2.toArray.size))=true:=by
     rw[qac U,Bool.and_false];exact Qq7
    refine Q3 F.slot_list_extend ⟨_,eo,rfl⟩ F.entry_list_extend (F.args_list_extend_2 _ _) (qwy p J.toArray n b its2.toArray n2 Z O L (by rw[Qqd]; lia) (by lia)) ⟨eo,h1,?_⟩;refine⟨.non,_,I.lset Y eo (by simp) (r.append r2) ?_,rfl,?_⟩
    ·rw[Qqi]; lia
    ·exact q _ m _ (Sub.refl m) (Tr.put Y) (R0.put hs hm Y (ix.append iz)) qvj
  ·exact nn e
 ·exact nn e
def qdr(hu:X.A.units+64<cLine):MtM X "list.index" (λx xs H Q=>∃m st a ds d st',Rel X.K m st H/\MS.IsD X.K m H a x/\IsDs X.K m H ds xs/\M.mIndex st a ds=Y2 (d,st')/\Post X.K m H d st' Q):=by
 intro pins s σ H x xs v us Q I rx rs h;obtain⟨m,st,a,ds,d,st',R0,i1,i2,e,q⟩:=h;unfold M.mIndex at e
 split at e
 ·rename_i x0;refine qzx e λJ e1 e=>?_
  split at e
  ·rename_i hf;rw[Qqo]at hf;refine qze e λj e2 e3=>?_;cases e3;obtain⟨y,rfl,iy⟩:=i2.one;obtain⟨u,rfl,ru⟩:=rs.one;obtain⟨b,zs,_,rfl,hq,L⟩:=R0.seq e1 i1;cases rx;obtain⟨z,r,⟨⟨cls,dd,a0,sl⟩,n,h1,h2,h4,h3⟩,hz⟩:=I.list hq;simp only at h2 h3;subst h2 h3;have l3:=L.length;have l4:=r.length;obtain⟨hj,U,Y⟩:=List.findIdx?_eq_some_iff_getElem.mp e2;have a1:(sizeLine:Nat)<2 ^ 40:=by decide
   have O:X.A.in1.units+9<cLine:=by have hz:X.A.in1.units=X.A.units+1:=rfl; lia
   obtain⟨ef,ha⟩:=qfo I X.A.in1 O hf.1 iy ru;obtain⟨k1,k2⟩:=ha J zs z hf.2 L r;have at_:∀k (hk:k<z.length),ef z[k]=M.eqT J[k] x0:=λk hk=>by
    have g1:J[k]?=Y2 J[k]:=by simp
    obtain⟨x1,w1,q1⟩:=L.get g1;obtain⟨u1,w2,q2⟩:=r.get w1;have e5:z[k]=u1:=by
     have:z[k]?=Y2 z[k]:=by simp
     rw[w2]at this;exact(Option.some.inj this).symm
    rw[e5];obtain⟨_,k3⟩:=ha [J[k]] [x1] [u1] (by simp[Qq8.mp hf.2 _ (Qqm g1)]) (qzm q1 qqx) (.cons q2 .nil);simpa using k3
   refine Q3 F.slot_list_index ⟨_,h1,rfl⟩ F.entry_list_index (F.args_list_index_2 _ _) (SeqAt.list_indexAt b z.toArray n dd sl u ef j (by rw[Qqd]; lia) (by lia) ?_ ?_) ⟨h1,λy hy=>k1 y (by simpa using hy),?_⟩
   ·rw[Qjc,at_ j (by lia)];exact U
   ·intro k hk Z;rw[Qjc,at_ k (by simpa using hk)];simpa using Y k Z
   ·exact⟨.int j,H,I.tok _,⟨_,rfl⟩,q.here R0 (mkInt _)⟩
  ·exact nn e
 ·exact nn e
def qbf:MtM X "list.insert" (λx xs H Q=>∃m st a ds d st',Rel X.K m st H/\MS.IsD X.K m H a x/\IsDs X.K m H ds xs/\M.mInsert st a ds=Y2 (d,st')/\Post X.K m H d st' Q):=by
 intro pins s σ H x xs v us Q I rx rs h;obtain⟨m,st,a,ds,d,st',R0,i1,i2,e,q⟩:=h;unfold M.mInsert at e
 split at e
 ·rename_i l i d0;refine qzx e λa3 e1 e=>?_
  split at e
  ·rename_i hl;have q:=q.of e;obtain⟨p,ys,hm,rfl,O,ix,hs⟩:=R0.wlist e1 i1;obtain⟨y1,y2,rfl,a0,Z⟩:=i2.two;cases a0.int;have l1:=ix.length;have l2:=qqk;cases rx;obtain⟨u1,u2,rfl,Y,U⟩:=rs.two;obtain⟨t,rfl⟩:=Y;obtain⟨z,J,n,r,a2,eo⟩:=I.lstM O;have a1:(sizeLine:Nat)<2 ^ 40:=by decide
   have L:¬ (!Builtin.List.listFitsIndex i)=true:=by
    have h1:=hl.1;have h2:i<2 ^ 62:=by lia
    simp only[Builtin.List.listFitsIndex,Bool.not_eq_true',Bool.not_eq_false];have:i<9223372036854775808:=by lia
    have:(-9223372036854775808:Int)<=i:=by lia
    simp[*]
   refine Q3 F.slot_list_insert ⟨_,eo,rfl⟩ F.entry_list_insert (F.args_list_insert_3 _ _ _) (AutoSeq1.list_insert_list_int_val_1 p J.toArray n i t u2 L (by rw[Qqd]; lia)) ⟨eo,?_⟩;refine⟨.non,_,I.lset (its':=J.take i.toNat++u2::J.drop i.toNat) O eo ?_ ((r.take _).append (.cons U (r.drop _))) ?_,rfl,?_⟩
   ·have h0:¬ i<0:=by lia
    have h3:min i.toNat J.length=i.toNat:=by lia
    rw[Z9 h0,Qqd,h3];apply Array.ext';simp;exact Qxv (by rw[Qxn]; lia)
   ·rw[Qqi,Qqg,Qzz,Qxn]; lia
   ·exact q _ m _ (Sub.refl m) (Tr.put O) (R0.put hs hm O ((ix.take _).append (qzm Z (ix.drop _)))) qvj
  ·exact nn e
 ·exact nn e
end
section
noncomputable def Itd(a:Ya)(o:Obj)(xs:List (Key×V)):It:=
 ⟨λi H=>H a=Y2 (.frz o (.dK xs))/\i<xs.length,λi H x H'=>H'=H/\∃p,xs[i]?=Y2 p/\x=kV p.1,λi H=>H a=Y2 (.frz o (.dK xs))/\xs.length<=i⟩
def qau(I:Inv X q F H s)(h:H a=Y2 (.frz o (.dK xs)))(hd:o.data=.dict es ep):∃vs,KV xs vs/\s.heap.DictAt (mixKind X.prog X.w) a vs ep:=by
 obtain⟨h1,_,_,vs,J,o',O,U,h2,L,z,r⟩:=I.hok a _ h;rw[h1]at h2;cases h2;rw[hd]at z;cases z;exact⟨vs,J,o,es,h1,L,hd,r⟩
def qcw{K:Qqq}(a it)(o)(xs)(hd:o.data=.dict es ep):Turn P w K tg (Itd a o xs) [it] it (λi h=>h.IsKeyIter it a i xs.length ep) where
 mem:=by simp
 obj:=λi h st b F=>by
  have e:b=it:=by simpa using F
  subst e;obtain⟨o,e,c,d⟩:=st;exact⟨o,e,λv z=>by rw[d]at z; cases z⟩
 keep:=λi h h' st k=>st.at λo e=>k it (by simp) o e
 item:=by
  intro X hP Z hK hc i pins s σ H E I hf st hg;subst hP Z hK;obtain⟨hH,hi⟩:=hg;obtain⟨vs,O,da⟩:=qau I hH hd;obtain⟨f0,f1,f2,f3,f4,f5⟩:=hf it (by simp);have U:=O.length;obtain⟨⟨k,u⟩,hx⟩:∃q,vs[i]?=Y2 q:=⟨vs[i]'(by lia),by simp⟩
  have hp:xs[i]?=Y2 xs[i]:=by simp
  have hk:xs[i].1=k:=by
   have J:=congrArg (λl:List Key=>l[i]?) O.keys;simp only[Qqv,hx,hp,oMs,Option.some.injEq]at J;exact J
  rw[U]at st;refine wpAny_pyNext_dict_item st da hx λY h' L st' sb=>?_;have I1:=I.turned (t':=s.toks) (λb o F e=>(sb.2 b F).trans e) f0 f1 f3 f4 f5;obtain⟨o1,e,c,d⟩:=id st';rw[<- U]at st';refine⟨Y,rfl,qbs e c d (by decide) ⟨kV xs[i].1,H,I1,?_,⟨rfl,xs[i],hp,rfl⟩,st',λb F=>(hf b F).1⟩⟩;rw[hk];rcases qzg L with⟨j,t,J,e2⟩|⟨z,t,J,e2⟩
  ·subst J e2; exact⟨t,rfl⟩
  ·subst J e2; exact⟨t,rfl⟩
 done:=by
  intro X hP Z hK hc i pins s σ H E I hf st hg;subst hP Z hK;obtain⟨hH,hi⟩:=hg;obtain⟨vs,O,da⟩:=qau I hH hd;obtain⟨f0,f1,f2,f3,f4,f5⟩:=hf it (by simp);have U:=O.length;rw[U]at st;exact wpAny_pyNext_dict_end (I.ok.hd hc) st da (Qza.mpr (by lia)) λh' eb=>⟨rfl,I.turned (λb o F e=>eb b o F e) f0 f1 f3 f4 f5⟩
 self:=λ_ _ _ _ _ st h=>wpAny_pyIter_keyiter st h
noncomputable def iDict(X:Cx)(tl:TE):TI:=λσ H R=>tl σ H λx H1=>∃a xs,x=.ref a/\H1 a=Y2 (.dK xs)/\∀o,NoFz X a->R (Itd a o xs) (upd H1 a (.frz o (.dK xs)))
def qmy(Z:PE X l tl):PI X tg l (iDict X tl):=by
 intro pins s σ H R I h;refine thn (Z pins s σ H _ I h) λv z ⟨x,H1,L,U,a,xs,e,F,q⟩=>?_;subst e;cases U;obtain⟨o,O,J⟩:=qey (.k _) L F;obtain⟨_,lo,vs,Y,o',es,ep,h2,h3,hd,r⟩:=L.hok a _ F;rw[O]at h2;cases h2;have hn:=Y.length;refine wpAny_pyIter_dict lo ⟨o,es,O,h3,hd,r⟩ ?_;refine⟨z.heap.objs.size,[z.heap.objs.size],_,_,_,rfl,J.kept λb o e=>Qqx _ e,qcw a _ o xs hd,⟨_,Qqc _ rfl,rfl,by rw[hn]; rfl⟩,λb hb=>?_,q o (qdo (.k _) L F)⟩;have e:b=z.heap.objs.size:=by simpa using hb
 subst e;exact J.fpOk (Qqj _) (J.hok.fresh (Qqj _))
noncomputable def thawE(X:Cx)(Dn:Ends):Ends:=
 ⟨λσ H=>∃a o xs,NoFz X a/\H a=Y2 (.frz o (.dK xs))/\Dn.nx σ (upd H a (.dK xs)),λv H=>∃a o xs,NoFz X a/\H a=Y2 (.frz o (.dK xs))/\Dn.rt v (upd H a (.dK xs)),λ_ _=>False,λ_ _=>False⟩
def qmz(Y:PassesOwn (model X.prog X.w) X.A X.env X.xe)(hc:X.calm=Y0)(Z:PE X l tl)(hg:PG X tg g)(hb:PSs X body tb)(U:∀x,foldedSetIterable l X.env x=pure x):
  PS X (.For tg l body [] pos) (λO σ H=>tFor (iDict X tl) g tb (thawE X O) σ H):=by
 intro pins s σ H O I h;refine thn (qic Y hc (qmy Z) hg hb U pins s σ H (thawE X O) I h) λfl s1 q=>?_
 cases fl with
 |next=>
  obtain⟨F,H1,L,a,o,xs,J,e,q⟩:=q;exact⟨F,_,qvd L J e,q⟩
 |ret u=>
  obtain⟨v,F,H1,L,r,a,o,xs,J,e,q⟩:=q;exact⟨v,F,_,qvd L J e,r,q⟩
 |brk=>obtain⟨_,_,_,z⟩:=q; exact z.elim
 |cont=>obtain⟨_,_,_,z⟩:=q; exact z.elim
end
end MS
end
section
namespace MS
open PySem PySem.Spec PyProof.Rows L2
section
def qhm{k:RK}{i:Nat}(he:IsEnum s.heap (n+1) n i old)(h1:k.It s.heap n l i)(s1:k.Sq s.heap l xs)(hx:xs[i]?=Y2 x)(hQ:∀h',IsEnumOut h' (n+1) n ((i:Int)+1) x s.heap.objs.size->k.It h' n l (i+1)->IsPair h' s.heap.objs.size (.int i s.toks) x->
   (∀c o,c≠n+1->c≠n->s.heap.get? c=Y2 o->h'.get? c=Y2 o)->Q (Y2 (.ref s.heap.objs.size)) { s with heap:=h',toks:=s.toks+1 }):
  wpAny (model prog w) A (pyNext (.ref (n+1))) Q E s:=by
 have hT:s.TypeIs (.ref (n+1)) "enumerate":=⟨_,he,rfl⟩
 have q:=Qq1 (Qzb n);unfold pyNext;refine Qq (Qt (Qy hT F.slot_enumerate_next (Qc F.slot_enumerate_next hT F.entry_enumerate_next ?_ (F.args_enumerate_next_1 _))));show wpAny _ _ (field (.ref (n+1)) 2 >>= _) _ _ _;refine Qq (Qw he rfl rfl ?_);refine Qq (qxm h1 s1 hx λg1 i1 v1 c1=>?_);have z1:=v1 _ _ q.symm he;refine Qq (Qw z1 rfl rfl ?_);refine Qq (Qw z1 rfl rfl ?_);refine Qq (wpAny_mkInt ?_);refine Qq (Qb z1 (by simp) λg2 Z u2=>?_)
 replace Z:IsEnum g2 (n+1) n ((i:Int)+1) old:=Z
 refine Qq (Qb Z (by simp) λz L u3=>?_)
 replace L:IsEnum z (n+1) n ((i:Int)+1) old:=L
 refine Qq (wpAny_newTuple ?_);have sz:=u3.1.trans (u2.1.trans c1);have a0:∀c o,c≠n+1->c≠n->s.heap.get? c=Y2 o->z.get? c=Y2 o:=λc o a b e=>u3.extBut _ _ a (u2.extBut _ _ a (v1 _ _ b e));have j3:=i1.on λo e=>u3.extBut _ _ q (u2.extBut _ _ q e);have lz:=Qqe L;have Y:IsEnum (z.push { cls:=.type "tuple",data:=.seq #[.int i s.toks,x] }) (n+1) n ((i:Int)+1) old:=Qqx _ L;refine Qq ?_;unfold Builtin.SmallTypes.ownedTupleIsFree;refine Qq (Qw Y rfl rfl (Qx ?_));simp only[if_true];refine Qq (Zw ?_);refine Qq (Qw Y rfl rfl ?_);refine Qq (Qb Y (by simp) λg5 U u5=>?_)
 replace U:IsEnum g5 (n+1) n ((i:Int)+1) x:=U
 refine Qq ?_;unfold Builtin.SmallTypes.ownedTupleHandOut;refine Qq (Qb U (by simp) λg6 O u6=>?_)
 replace O:IsEnumOut g6 (n+1) n ((i:Int)+1) x z.objs.size:=O
 refine Qb O (by simp) λg7 J u7=>?_
 replace J:IsEnumOut g7 (n+1) n ((i:Int)+1) x z.objs.size:=J
 have up:∀c o,c≠n+1->z.get? c=Y2 o->g7.get? c=Y2 o:=λc o a e=>u7.extBut _ _ a (u6.extBut _ _ a (u5.extBut _ _ a (Qqx _ e)));have t7:=u7.extBut _ _ (Qxw lz) (u6.extBut _ _ (Qxw lz) (u5.extBut _ _ (Qxw lz) (Qqc _ rfl)));rw[sz]at J t7;refine Qq (wpAny_letGo (Qx ⟨_,rfl,Qx ?_⟩));rw[sz];exact hQ g7 J (j3.on λo e=>up _ o q e) t7 λc o a b e=>up c o a (a0 c o a b e)
def qer{k:RK}{i:Nat}(Y:A.handled=Y3)(z:IsEnum s.heap (n+1) n i old)(h1:k.It s.heap n l i)(O:k.Sq s.heap l xs)(U:xs[i]?=Y3)(hQ:∀h',(∀c o,c≠n->s.heap.get? c=Y2 o->h'.get? c=Y2 o)->Q Y3 { s with heap:=h' }):wpAny (model prog w) A (pyNext (.ref (n+1))) Q E s:=by
 have J:s.TypeIs (.ref (n+1)) "enumerate":=⟨_,z,rfl⟩
 unfold pyNext;refine Qq (Qt (Qy J F.slot_enumerate_next (Qc F.slot_enumerate_next J F.entry_enumerate_next ?_ (F.args_enumerate_next_1 _))));show wpAny _ _ (field (.ref (n+1)) 2 >>= _) _ _ _;refine Qq (Qw z rfl rfl ?_);refine Qq (qj7 Y h1 O U λg1 e L q=>?_);obtain⟨o,q,Z⟩:=q;exact Qq (Zy ⟨o,q,Z⟩ Z3 (Qx (hQ _ L)))
end
noncomputable abbrev eh1(k:RK)(h:Heap)(l:Ya):Heap:=h.push (k.itO l)
noncomputable abbrev eh2(k:RK)(h:Heap)(l:Ya):Heap:=(eh1 k h l).push { cls:=.type "enumerate",data:=.fields #[.none,.bool Y1,.ref h.objs.size,rawInt 0,.none,.none] }
def wp_two[Decidable c]{p q:Sem α}{Q:α->Qz->Prop}(F:wpAny M A p Q E s)(z:wpAny M A q Q E s):wpAny M A (if c then p else q) Q E s:=by
 split
 ·exact F
 ·exact z
def qes(k)(l)(xs):Meets (Q0.«enumerate.__new__» ⟨[.type "enumerate",.ref l],[]⟩) (λ_ R s=>k.Sq s.heap l xs/\R (.ok (.ret (.ref (eh1 k s.heap l).objs.size))) { s with heap:=eh2 k s.heap l }):=
 .of_wp λprog w A R s h=>by
  obtain⟨L,g,d,tk,os⟩:=s;obtain⟨J,h⟩:=h;have q:=sub_enumerate;have F:=J
  wp_walk using qjk F
  refine wpAny_stack_any λz=>Qx ?_;refine wp_two ?_ ?_<;>(wp_walk using qjk F; exact⟨_,rfl,h⟩)
def EnAt(k:RK)(n l:Nat)(i:Nat)(h:Heap):Prop:=l<n/\(∃old,IsEnum h (n+1) n i old)/\k.It h n l i
def qb5(J:k.Sq s.heap l xs)(b1:l<s.heap.objs.size)(h:∀h',EnAt k s.heap.objs.size l 0 h'->(∀c o,s.heap.get? c=Y2 o->h'.get? c=Y2 o)->Q (.ref (s.heap.objs.size+1)) { s with heap:=h' }):wpAny (model prog w) A (call (.type "enumerate") [.ref l]) Q E s:=by
 refine callType_new F.called_enumerate (by decide) (F.typeCall_enumerate_1 _) (F.newCall_enumerate_1 _) (λobj=>F.args_object_init_2 obj _) F.entry_enumerate_new (qes k l xs) ⟨J,?_⟩;have z:(eh1 k s.heap l).objs.size=s.heap.objs.size+1:=Qz0 ..;have q:(eh2 k s.heap l).get? (eh1 k s.heap l).objs.size=Y2 _:=Qqc _ rfl;have L:k.It (eh2 k s.heap l) s.heap.objs.size l 0:=row_new.on λo e=>Qqx _ e;rw[z]at q;rw[z];exact⟨⟨_,q,rfl⟩,h _ ⟨b1,⟨_,q⟩,L⟩ λc o x=>Qqx _ (Qqx _ x)⟩
noncomputable def Ite(K:Qqq)(k:RK)(a:Ya):It:=
 ⟨λi H=>∃xs x,k.sq K H a xs/\xs[i]?=Y2 x,
  λi H v H'=>∃p x,v=.ref p/\H p=Y3/\H'=upd H p (.tup [.int i,x])/\∀xs,k.sq K H a xs->xs[i]?=Y2 x,
  λi H=>∃xs,k.sq K H a xs/\xs.length<=i⟩
noncomputable def fpE(n:Nat):List Ya:=[n+1,n]
def qcv{K:Qqq}(k)(n a):Turn P w K (.Tuple O c pos) (Ite K k a) (fpE n) (n+1) (EnAt k n a) where
 mem:=by simp[fpE]
 obj:=λi h st e he=>by
  obtain⟨b1,⟨old,J⟩,h1⟩:=st;simp only[fpE,Qqa,Qzx,or_false]at he;rcases he with rfl|rfl
  ·exact⟨_,J,λv z=>nomatch z⟩
  ·exact h1.obj
 keep:=λi h h' st q=>by
  obtain⟨b1,⟨old,J⟩,h1⟩:=st;exact⟨b1,⟨old,q _ (by simp[fpE]) _ J⟩,h1.on λo e=>q _ (by simp[fpE]) o e⟩
 item:=by
  intro X hP hw hK hc i pins s σ H E I hf st hg;subst hP hw hK;obtain⟨xs,x,U,ex⟩:=hg;obtain⟨b1,⟨old,J⟩,h1⟩:=st;obtain⟨vx,Z,Y⟩:=qq5 I U;obtain⟨u1,a5,a0⟩:=Z.get ex;refine qhm J h1 Y (by simpa using a5) λh' a1 a2 a3 kp=>⟨_,rfl,?_⟩
  refine wpAny_letOwnedTupleGo_enum a1 λh9 c1 c2=>?_;have L:=c2.extBut;have lt:∀b∈fpE n,b≠s.heap.objs.size:=λb F z=>by
   have q:b<s.heap.objs.size:=by
    simp only[fpE,Qqa,Qzx,or_false]at F;rcases F with rfl|rfl
    ·exact Qqe J
    ·obtain⟨o,e,_⟩:=h1.obj; exact Qqe e
   rw[z]at q;exact Qz6 _ q
  have nz:s.heap.objs.size≠n+1:=λz=>lt (n+1) (by simp[fpE]) z.symm;have I1:Inv X pins σ H { s with heap:=h9,toks:=s.toks+1 }:=Inv.turnedL I (λb o F e=>L _ _ (λz=>F (by simp[fpE,z])) (kp b o (λz=>F (by simp[fpE,z])) (λz=>F (by simp[fpE,z])) e)) hf;have fr:=I.hok.fresh (Qqj _);have I2:Inv X pins σ (upd H s.heap.objs.size (.tup [.int i,x])) { s with heap:=h9,toks:=s.toks+1 }:=Inv.track I1 (I.fpOk (Qqj _) fr) ⟨by show 2<=sizeLine; decide,[.int i s.toks,u1],.cons ⟨_,rfl⟩ (.cons a0 .nil),⟨_,L _ _ nz a3,rfl,_,rfl⟩⟩;refine⟨.ref s.heap.objs.size,upd H s.heap.objs.size (.tup [.int i,x]),I2,rfl,⟨_,x,rfl,fr,rfl,λzs a4=>?_⟩,⟨b1,⟨_,c1⟩,a2.on λo e=>L _ o (Qq1 (Qzb n)) e⟩,λb F=>?_⟩
  ·rw[qvz I a4 U]; exact ex
  ·rw[qzq (lt b F)]; exact(hf b F).1
 done:=by
  intro X hP hw hK hc i pins s σ H E I hf st hg;subst hP hw hK;obtain⟨xs,U,a6⟩:=hg;obtain⟨b1,⟨old,J⟩,h1⟩:=st;obtain⟨vx,Z,Y⟩:=qq5 I U;have lx:=Z.length;exact qer (I.ok.hd hc) J h1 Y (by simp; lia) λh' kp=>⟨rfl,Inv.turnedL I (λb o F e=>kp b o (λz=>F (by simp[fpE,z])) e) hf⟩
 self:=λ_ _ _ _ _ st h=>by
  obtain⟨_,⟨old,J⟩,_⟩:=st;exact wpAny_pyIter_enum J h
noncomputable def iEnum(K:Qqq)(ta:TA):TI:=λσ H R=>ta σ H λvs H1=>∃(k:RK) (a:Ya),vs=[.ref a]/\(∃xs,k.sq K H1 a xs)/\R (Ite K k a) H1
def qmw(hg:Gl X "enumerate")(hm:X.mg "enumerate" = Y3)(ha:PA X [a] O)(hs:starEach [a] X.env=[(Y1,Qa a X.env)]:=by rfl):
  PI X (.Tuple F c z) (.Call (.Name "enumerate" p) [a] [] pos) (iEnum X.K O):=by
 intro pins s σ H R I h;refine Call_ (qx8 I hg hm boot_enumerate (PyProof.Rows.callWith_type1 (thn (ha pos pins s σ H _ I h) λus J ⟨vs,H1,L,r1,q1⟩=>?_) hs rfl));obtain⟨k,a,e,⟨xs,qx⟩,q⟩:=q1;subst e
 cases r1 with
 |cons r Z=>
  cases Z;cases r;obtain⟨vx,rx,U⟩:=qq5 L qx;have la:a<J.heap.objs.size:=by
   cases k<;>(obtain⟨o,e,_⟩:=U; exact Qqe e)
  refine qb5 U la λh' st kp=>?_;obtain⟨b1,⟨old,hz⟩,h1⟩:=id st;refine wpAny_pyIter_enum hz ?_;refine⟨J.heap.objs.size+1,fpE J.heap.objs.size,_,_,H1,rfl,L.kept kp,qcv k _ a,st,λd hd=>?_,q⟩;have Y:J.heap.objs.size<=d:=by
   simp only[fpE,Qqa,Qzx,or_false]at hd;rcases hd with rfl|rfl
   ·exact Qxq _
   ·exact Qqj _
  exact L.fpOk Y (L.hok.fresh Y)
def rv_next:Slot "reversed" "__next__" "reversed.__next__":=.of (owner:="reversed") (n:="__next__") (by rw[Zu,Zv]; kernel_rfl) (by decide +kernel) (by decide +kernel) (by decide +kernel) (.inl (by decide +kernel)) (by rw[Zl]; kernel_rfl)
def qc2:Slot "reversed" "__iter__" "reversed.__iter__":=.of (owner:="reversed") (n:="__iter__") (by rw[Zu,Zv]; kernel_rfl) (by decide +kernel) (by decide +kernel) (by decide +kernel) (.inl (by decide +kernel)) (by rw[Zl]; kernel_rfl)
def ql1:Slot "reversed" "__init__" "object.__init__":=.of (owner:="object") (n:="__init__") (by rw[Zu,Zv]; kernel_rfl) (by decide +kernel) (by decide +kernel) (by decide +kernel) (.inl (by decide +kernel)) (by rw[Zl]; kernel_rfl)
def qaq:entryFor table "reversed.__next__" = Y2 Q0.«reversed.__next__»:=entryFor_of_tree (by kernel_rfl)
def qge:entryFor table "reversed.__iter__" = Y2 Q0.«dict_keyiterator.__iter__»:=entryFor_alias (id':="dict_keyiterator.__iter__") (by kernel_rfl) (by first|rfl|decide +kernel) (by decide +kernel) (by kernel_rfl)
def qax(a):argsOk "reversed.__next__" ⟨[a],[]⟩:=by unfold argsOk; kernel_rfl
def qgf(a):argsOk "reversed.__iter__" ⟨[a],[]⟩:=by unfold argsOk; kernel_rfl
def qc3:TypeCalled "reversed" "reversed.__new__" "object.__init__":=⟨by decide +kernel,by decide +kernel,⟨_,_,F.mro_reversed⟩,F.made_reversed,by decide +kernel,F.sub_reversed_self,ql1⟩
def qcy:typeLookup (.type "tuple") "__reversed__" = pure none:=by rw[Zu,Zv]; kernel_rfl
abbrev IsRv(h:Heap)(it a:Ya)(i:Int):Prop:=h.get? it=Y2 { cls:=.type "reversed",data:=.fields #[.ref a,rawInt i] }
def qgi(a)(xs)(F:(xs.size:Int)<2 ^ 63):Meets (Q0.«reversed.__new__» ⟨[.type "reversed",.ref a],[]⟩) (λ_ R s=>s.heap.IsTuple a xs/\∀t,R (.ok (.ret (.ref s.heap.objs.size))) { s with heap:=s.heap.push { cls:=.type "reversed",data:=.fields #[.ref a,rawInt ((xs.size:Int) - 1)] },toks:=t }):=
 .of_wp λprog w A R s h=>by
  obtain⟨J,g,d,tk,os⟩:=s;obtain⟨z,h⟩:=h;have q:Shared.TypeIs ⟨J,g,d,tk,os⟩ (.ref a) "tuple":=by obtain⟨o,e,c,_⟩:=z; exact⟨o,e,c⟩
  unfold Q0.«reversed.__new__»;refine Qq (Zz (newClass_reversed _) ?_)
  try dsimp only
  refine Qq (Zz (by first|rfl|kernel_rfl) ?_);refine Qq (Zz (by first|rfl|kernel_rfl) ?_)
  try dsimp only
  refine Qq (Ze q qcy ?_)
  try dsimp only
  refine Qq ?_;refine Qq (Zy q PySem.F.sub_tuple_dict ?_);refine Qq (Ze q PySem.F.slot_tuple_getitem.lookup ?_);refine Zz (by rfl) ?_;refine Qq (PyProof.Rows.len_tuple z F ?_);refine Qq (Zz (by rfl) ?_)
  wp_walk
  exact⟨_,rfl,h _⟩
def RvAt(n l:Nat)(m i:Nat)(h:Heap):Prop:=l<n/\IsRv h n l ((m:Int) - 1 - i)
section
def qfq(q:s.heap.IsTuple l xs)(z:(xs.size:Int)<2 ^ 63)(b1:l<s.heap.objs.size)(h:∀h' t,RvAt s.heap.objs.size l xs.size 0 h'->(∀c o,s.heap.get? c=Y2 o->h'.get? c=Y2 o)->Q (.ref s.heap.objs.size) { s with heap:=h',toks:=t }):wpAny (model prog w) A (call (.type "reversed") [.ref l]) Q E s:=by
 refine callType_new qc3 (by decide) (F.typeCall_reversed_1 _) (F.newCall_reversed_1 _) (λobj=>F.args_object_init_2 obj _) F.entry_reversed_new (qgi l xs z) ⟨q,λt=>?_⟩;have g:IsRv (s.heap.push { cls:=.type "reversed",data:=.fields #[.ref l,rawInt ((xs.size:Int) - 1)] }) s.heap.objs.size l ((xs.size:Int) - 1):=Qqc _ rfl;exact⟨⟨_,g,rfl⟩,h _ t ⟨b1,by rw[show((xs.size:Int) - 1 - ((0:Nat):Int))=(xs.size:Int) - 1 by lia]; exact g⟩ λc o x=>Qqx _ x⟩
def ql4{i:Nat}(q:IsRv s.heap n l i)(F:s.heap.IsTuple l xs)(Y:(xs.size:Int)<2 ^ 63)(J:xs[i]?=Y2 x)(U:∀h' t,IsRv h' n l ((i:Int) - 1)->(∀c o,c≠n->s.heap.get? c=Y2 o->h'.get? c=Y2 o)->Q (Y2 x) { s with heap:=h',toks:=t }):wpAny (model prog w) A (pyNext (.ref n)) Q E s:=by
 have L:s.TypeIs (.ref n) "reversed":=⟨_,q,rfl⟩
 have O:s.TypeIs (.ref l) "tuple":=by obtain⟨o,e,c,_⟩:=F; exact⟨o,e,c⟩
 have hi:=(Qze.mp J).1;unfold pyNext;refine Qq (Qt (Qy L rv_next (Qc rv_next L qaq ?_ (qax _))));show wpAny _ _ (field (.ref n) 0 >>= _) _ _ _;refine Qq (Qw q rfl rfl ?_);refine Qq (Qw q rfl rfl ?_);show wpAny _ _ (if (i:Int)<0 then _ else _) _ _ _;rw[Z9 (by lia)];refine Qq (Ze O PySem.F.slot_tuple_getitem.lookup ?_);refine Qq (wpAny_mkInt ?_);refine Qq (Qt (getItem_tuple F (by lia) (by lia) (seqIndex_of (by lia) (by lia)) J ?_));refine Qq (Qw q rfl rfl ?_);refine Qq (Qb q (by simp) λg z u=>?_);exact Qx ⟨_,rfl,Qx (U g _ z u.extBut)⟩
def qgh(z:A.handled=Y3)(q:IsRv s.heap n l (-1))(U:∀h',(∀c o,c≠n->s.heap.get? c=Y2 o->h'.get? c=Y2 o)->Q Y3 { s with heap:=h' }):wpAny (model prog w) A (pyNext (.ref n)) Q E s:=by
 have F:s.TypeIs (.ref n) "reversed":=⟨_,q,rfl⟩
 unfold pyNext;refine Qq (Qt (Qy F rv_next (Qc rv_next F qaq ?_ (qax _))));show wpAny _ _ (field (.ref n) 0 >>= _) _ _ _;refine Qq (Qw q rfl rfl ?_);refine Qq (Qw q rfl rfl ?_);show wpAny _ _ (if (-1:Int)<0 then _ else _) _ _ _;rw[Xq (by decide)];refine Qq (Zw ?_);refine Qq ?_;refine Qq (Qb q (by simp) λg1 J O=>?_);refine Qb J (by simp) λZ Y L=>?_;refine Qq ?_;refine Qq ?_; simp only[ newTuple];refine Qq (Qf ?_ (by size_fits)); refine Qq (Zz (by first|rfl|(simp only[firstArgMember]; rfl)) ?_);refine Qf ?_ (by size_fits); simp only[raiseNew];refine Qq (wpAny_handled ?_)
 first|rw[show A.in1.handled=Y3 from z]|(rw[z])
 refine Qq (Qx (wpAny_throw ?_));refine Qq (Zy ⟨_,Qqc _ rfl,rfl⟩ Z3 ?_);exact Qx (U _ λc o a e=>Qqx _ (Qqx _ (L.extBut _ _ a (O.extBut _ _ a e))))
end
noncomputable def Itv(K:Qqq)(a:Ya)(m:Nat):It:=
 ⟨λi H=>∃xs x,SqT K H a xs/\xs.length=m/\i<m/\xs[m - 1 - i]?=Y2 x,
  λi H v H'=>H'=H/\∀xs,SqT K H a xs->xs[m - 1 - i]?=Y2 v,
  λi H=>m<=i⟩
def qf1{K:Qqq}(n a m:Nat)(hz:(m:Int)<2 ^ 63):Turn P w K tg (Itv K a m) [n] n (λi h=>i<=m/\RvAt n a m i h) where
 mem:=by simp
 obj:=λi h st e F=>by
  simp only[Qqy]at F;subst F;exact⟨_,st.2.2,λv z=>nomatch z⟩
 keep:=λi h h' st q=>⟨st.1,st.2.1,q _ (by simp) _ st.2.2⟩
 item:=by
  intro X hP O hK hc i pins s σ H E I hf st Y;subst hP O hK;obtain⟨xs,x,qx,el,lt,ex⟩:=Y;obtain⟨im,b1,F⟩:=st;obtain⟨vx,rx,sx⟩:=qq5 (k:=.tup) I qx;obtain⟨u1,U,L⟩:=rx.get ex;have lx:=rx.length;obtain⟨f0,f1,f2,f3,f4,f5⟩:=hf n (by simp);rw[show(m:Int) - 1 - (i:Int)=((m - 1 - i:Nat):Int) by lia]at F;refine ql4 F sx (by simp; lia) (by simpa using U) λh' t z kp=>⟨u1,rfl,?_⟩
  have z':IsRv h' n a ((m:Int) - 1 - ((i+1:Nat):Int)):=by
   rw[show(m:Int) - 1 - ((i+1:Nat):Int)=((m - 1 - i:Nat):Int) - 1 by lia];exact z
  have I1:Inv X pins σ H { s with heap:=h',toks:=t }:=I.turned (λb o J e=>kp b o J e) f0 f1 f3 f4 f5;refine qbs z rfl rfl (by decide) ⟨x,H,I1,L,⟨rfl,λys hy=>by rw[qvz (k:=.tup) I hy qx]; exact ex⟩,⟨by lia,b1,z'⟩,λb J=>(hf b J).1⟩
 done:=by
  intro X hP O hK hc i pins s σ H E I hf st Y;subst hP O hK;obtain⟨im,b1,F⟩:=st;have hi:m<=i:=Y;obtain⟨f0,f1,f2,f3,f4,f5⟩:=hf n (by simp);rw[show(m:Int) - 1 - (i:Int)=-1 by lia]at F;exact qgh (I.ok.hd hc) F λh' kp=>⟨rfl,I.turned (λb o J e=>kp b o J e) f0 f1 f3 f4 f5⟩
 self:=λ_ _ s _ _ st h=>by
  have Z:s.TypeIs (.ref n) "reversed":=⟨_,st.2.2,rfl⟩
  refine wpAny_pyIter_slot Z qc2 (Qc qc2 Z qge ?_ (qgf _));exact Qx ⟨_,rfl,"reversed",_,Z,rv_next.lookup,h⟩
noncomputable def iRev(K:Qqq)(ta:TA):TI:=λσ H R=>ta σ H λvs H1=>∃(a:Ya) (xs:List V),vs=[.ref a]/\SqT K H1 a xs/\R (Itv K a xs.length) H1
def pi_rev(hg:Gl X "reversed")(hm:X.mg "reversed" = Y3)(ha:PA X [a] L)(hs:starEach [a] X.env=[(Y1,Qa a X.env)]:=by rfl):
  PI X tg (.Call (.Name "reversed" p) [a] [] pos) (iRev X.K L):=by
 intro pins s σ H R I h;refine Call_ (qx8 I hg hm boot_reversed (PyProof.Rows.callWith_type1 (thn (ha pos pins s σ H _ I h) λus z ⟨vs,H1,F,r1,q1⟩=>?_) hs rfl));obtain⟨a,xs,e,qx,q⟩:=q1;subst e
 cases r1 with
 |cons r Z=>
  cases Z;cases r;obtain⟨J,Y,O,hz⟩:=F.tuple qx;have la:a<z.heap.objs.size:=by obtain⟨o,e,_⟩:=O; exact Qqe e
  have lx:=Y.length;have U:(J.toArray.size:Int)<2 ^ 63:=by simp; unfold sizeLine at hz; lia
  refine qfq (O) U la λh' t st kp=>?_;have st':RvAt z.heap.objs.size a xs.length 0 h':=by rw[lx]; simpa using st
  have T:=qf1 (P:=X.prog) (w:=X.w) (K:=X.K) (tg:=tg) z.heap.objs.size a xs.length (by simp at U; lia);refine T.self _ 0 { z with heap:=h',toks:=t } _ _ ⟨Qzq _,st'⟩ ?_;refine⟨z.heap.objs.size,[z.heap.objs.size],_,_,H1,rfl,F.kept kp,T,⟨Qzq _,st'⟩,λd hd=>?_,q⟩;simp only[Qqy]at hd;subst hd;exact F.fpOk (Qqj _) (F.hok.fresh (Qqj _))
end MS
end
section
namespace MS
open PySem PySem.Spec PyProof.Rows L2
open M (D Yc Yo Sl)
def qyd(k:List Int):(k.map (Sum.inl:Int->Key)).map kV=k.map V.int:=by rw[Qq5]; rfl
theorem qih{K:Qqq}:∀k:List Int,IsDs K m H (k.map .int) (k.map V.int)
 |[]=>qqx
 |_::r=>qzm (mkInt _) (qih r)
def qw7{K:Qqq}(q:IsKT K m H kvs xs)(J:Rd H a (.dT xs))(z:MS.IsD K m H (.fup k) y):
  ∃o,DGet H a y o/\((M.tget kvs k=Y3/\o=Y3)\/∃d v,M.tget kvs k=Y2 d/\o=Y2 v/\MS.IsD K m H d v):=by
 obtain⟨b,rfl,F⟩:=z.fup;refine⟨valV xs (k.map Sum.inl),.inr ⟨xs,k.map Sum.inl,b,J,rfl,by rw[qyd]; exact F,rfl⟩,?_⟩;rcases q.get k with⟨h1,h2⟩|⟨d,v,h1,h2,L⟩
 ·exact .inl ⟨h1,h2⟩
 ·exact .inr ⟨d,v,h1,h2,L⟩
def Tr.putT(q:H p=Y2 (.dT xs)):Tr H (upd H p (.dT ys)):=
 ⟨λb zs e=>by rw[qzq (qzo e q (by intro z; cases z))]; exact e,λb o u e=>by rw[qzq (qzo e q (by intro z; cases z))]; exact e⟩
section
def qdc(Y:X.A.units+1<cLine)(neg)(ha:PE X a (tD X.K L))(Z:PE X b (tD X.K J)):
  PC X (if neg then .NotIn else .In) a b (tD X.K λτ st=>(L τ st).bind λp=>(J τ p.2).bind λq=>match p.1,q.1 with
   |.fup k,.loc l=>(M.tdcAt q.2 l).map λkvs=>(.bl ((M.tget kvs k).isSome != neg),q.2)
   |_,_=>Y3):=by
 have F:∀{σ:L2.St}{H:Hp}{Q:VK},tD X.K (λτ st=>(L τ st).bind λp=>(J τ p.2).bind λq=>match p.1,q.1 with
   |.fup k,.loc l=>(M.tdcAt q.2 l).map λkvs=>(.bl ((M.tget kvs k).isSome != neg),q.2)
   |_,_=>Y3) σ H Q->tD X.K L σ H λy H1=>tD X.K J σ H1 λx H2=>∃a o,x=.ref a/\DGet H2 a y o/\Q (.bl (o.isSome != neg)) H2:=by
  intro σ H Q h;refine h.el λm st τ d st' R0 S0 e q=>qzj e λd1 s1 e1 e=>qzj e λd2 s2 e2 e=>rsI R0 S0 e1 λy m1 H1 b1 t1 R1 i1=>rsI R1 (S0.mono b1 t1) e2 λz m2 H2 b2 t2 R2 i2=>?_
  cases d1 with
  |fup k=>
   cases d2 with
   |loc l=>
    refine qze e λkvs e3 U=>?_;cases U;obtain⟨a',xs,_,rfl,hH,O⟩:=R2.tdict e3 i2;obtain⟨o,g,hg⟩:=qw7 O hH (qzv b2 t2 _ _ i1);refine⟨a',o,rfl,g,?_⟩;have U:o.isSome=(M.tget kvs k).isSome:=by
     rcases hg with⟨h1,h2⟩|⟨d,v,h1,h2,_⟩
     ·rw[h1,h2]; rfl
     ·rw[h1,h2]; rfl
    rw[U];exact q _ m2 H2 (b1.trans b2) (t1.trans t2) R2 (mkBl _)
   |_=>exact nn e
  |_=>exact nn e
 cases neg with
 |false=>
  intro pins s σ H Q I h;refine qie Y ha Z pins s σ H Q I ?_;have:=F h;simpa only[tDIn,Bool.bne_false] using this
 |true=>
  intro pins s σ H Q I h;refine qwz Y ha Z pins s σ H Q I ?_;have:=F h;simpa only[qw8,Bool.bne_true] using this
def qmd(hu:X.A.units+1<cLine)(ha:PE X a (tD X.K O))(hb:PE X b (tD X.K L))(hs:NoSl b):
  PE X (.Subscript a b pos) (tD X.K λτ st=>(O τ st).bind λp=>(L τ p.2).bind λq=>match p.1,q.1 with
   |.loc l,.fup k=>(M.tdcAt q.2 l).bind λkvs=>(M.tget kvs k).map λd=>(d,q.2)
   |_,_=>Y3):=by
 refine(qdy hu ha hb hs).imp λσ H Q h=>h.el λm st τ d st' R0 U e q=>qzj e λd1 s1 e1 e=>qzj e λd2 s2 e2 e=>rsI R0 U e1 λy m1 H1 b1 t1 R1 i1=>rsI R1 (U.mono b1 t1) e2 λz Y H2 b2 t2 R2 Z=>?_
 cases d1 with
 |loc l=>
  cases d2 with
  |fup k=>
   refine qzx e λkvs e3 e=>qze e λw F e5=>?_;cases e5;obtain⟨a',xs,_,rfl,hH,J⟩:=R2.tdict e3 (qzv b2 t2 _ _ i1);obtain⟨o,g,hg⟩:=qw7 J hH Z;rcases hg with⟨h1,h2⟩|⟨d,v,h1,h2,h3⟩
   ·rw[h1]at F; cases F
   ·rw[h1]at F;cases F;subst h2;exact⟨a',v,rfl,g,q _ Y H2 (b1.trans b2) (t1.trans t2) R2 h3⟩
  |_=>exact nn e
 |_=>exact nn e
def qme(hu:X.A.units+1<cLine)(ha:PE X a (tD X.K fa))(hb:PE X b (tD X.K fb))(hc:PE X c (tD X.K fc))(hm:M2 X a "get" J b c F):
  PE X (.Call (.Attribute a "get" J) [b,c] [] F) (tD X.K λτ st=>(fa τ st).bind λp=>match p.1 with
   |.loc l=>(M.tdcAt p.2 l).bind λ_=>(fb τ p.2).bind λq=>(fc τ q.2).bind λu=>match q.1 with
    |.fup k=>(M.tdcAt u.2 l).map λkvs=>((M.tget kvs k).getD u.1,u.2)
    |_=>Y3
   |_=>Y3):=by
 refine(qg5 hu ha hb hc hm).imp λσ H Q h=>h.el λm st τ d st' R0 Y e q=>qzj e λd1 s1 e1 e=>rsI R0 Y e1 λy m1 H1 b1 t1 R1 i1=>?_
 cases d1 with
 |loc l=>
  refine qzx e λa2 e0 e=>qzj e λd2 s2 e2 e=>qzj e λd3 s3 e3 e=>?_
  cases d2 with
  |fup k=>
   refine qze e λkvs e4 e5=>?_;cases e5;obtain⟨a0,a1,a3,rfl,U,_⟩:=R1.tdict e0 i1;refine⟨a0,rfl,.inr ⟨_,U⟩,rsI R1 (Y.mono b1 t1) e2 λz m2 H2 b2 t2 R2 i2=>rsI R2 (Y.mono (b1.trans b2) (t1.trans t2)) e3 λw m3 H3 b3 L Z i3=>?_⟩;obtain⟨a',xs,_,ea,hH,O⟩:=Z.tdict e4 (qzv (b2.trans b3) (t2.trans L) _ _ i1);cases ea;obtain⟨o,g,hg⟩:=qw7 O hH (qzv b3 L _ _ i2);refine⟨o,g,?_⟩;rcases hg with⟨h1,h2⟩|⟨d,v,h1,h2,h4⟩
   ·rw[h1]at q;subst h2;exact q _ m3 H3 (b1.trans (b2.trans b3)) (t1.trans (t2.trans L)) Z i3
   ·rw[h1]at q;subst h2;exact q _ m3 H3 (b1.trans (b2.trans b3)) (t1.trans (t2.trans L)) Z h4
  |_=>exact nn e
 |_=>exact nn e
def qmb(J:PE X b (tD X.K z)):PE X b (tD X.K λτ st=>(z τ st).bind λp=>match p.1 with
   |.fup ks=>Y2 (.tup (ks.map .int),p.2)
   |_=>Y3):=by
 refine J.imp λσ H Q h=>h.el λm st τ d st' R0 Y e q=>qzj e λU s1 O e=>rsI R0 Y O λy m1 H1 b1 t1 Z F=>?_
 cases U with
 |fup ks=>
  have q:=q.of e;obtain⟨a,rfl,L⟩:=F.fup;exact q _ m1 H1 b1 t1 Z (qq3 (SqT.of L) (qih ks))
 |_=>exact nn e
def rSlT'(K:Qqq):V->Option Int->Option Int->Hp->VK->Prop:=λx lo hi H Q=>∃m st ds ks,Rel K m st H/\MS.IsD K m H (.tup ds) x/\M.asInts (M.cut ds lo hi)=Y2 ks/\ks.length<ds.length/\Post K m H (.fup ks) st Q
def sl_T:SlR X (rSlT' X.K):=by
 intro pins s σ H x v vl O lo hi sl Q I U hs pl Y h;obtain⟨m,st,ds,ks,R0,i1,e,hl,q⟩:=h;obtain⟨p,xs,rfl,hx,J⟩:=i1.tup;have ic:=qe2 J lo hi;obtain⟨z,_⟩:=ints_of e ic;have Z:=J.length;refine qiy pins s σ H _ v vl O lo hi sl Q I U hs pl Y ⟨p,xs,rfl,hx,λL=>?_,λp' hp=>?_⟩
 ·have e1:cutV xs lo hi=xs:=by
   unfold cutV;rw[L.1,L.2];simp
  rw[e1]at z;rw[z,Qqz]at Z
  lia
 ·rw[z];have F:=qzw (o:=.tup (ks.map V.int)) hp;exact q _ m _ (Sub.refl m) (Tr.of_same F) (R0.same F) (qbl qzk)
end
section
def qn8(hd:(d==Qm)=Y1)(z:s.heap.get? d=Y2 o)(L:o.ExactDict)(q:o.data=.dict es ep)(O:Q (.ref s.heap.objs.size) { s with heap:=s.heap.push { cls:=.type "dict_keyiterator",data:=.fields #[.ref d,.int 0 0,.int es.size 0,.int ep 0] } }):wpAny (model prog w) A (pyIter (.ref d)) Q E s:=by
 have J:s.TypeIs (.ref d) "dict":=⟨o,z,L.1⟩
 refine wpAny_pyIter_slot J F.slot_dict_iter (Qc F.slot_dict_iter J F.entry_dict_iter ?_ (F.args_dict_iter_1 _));unfold Q0.«dict.__iter__»;refine Qq ?_;unfold Builtin.Dict.dictSlotNone;refine Qq (wpAny_notOrdered_dict J ?_);refine Qx ?_;show wpAny _ _ (Builtin.Dict.showsAll d >>= _) _ _ s;unfold Builtin.Dict.showsAll;rw[Z9 (by rw[hd]; nofun)];refine Qq (Qx (Qq (wpAny_dictEntries z q (Qq (wpAny_dictEpoch z q ?_)))));exact Qq (Qf (Qx ⟨_,rfl,"dict_keyiterator",_,⟨_,Qqc _ rfl,rfl⟩,F.slot_dict_keyiterator_next.lookup,O⟩))
def qn7(hit:s.heap.IsKeyIter it d i es.size ep)(L:s.heap.get? d=Y2 o)(O:o.data=.dict es ep)(Y:i<es.size)(hQ:∀h',h'.IsKeyIter it d (i+1) es.size ep->Heap.SameBut it s.heap h'->Q (Y2 es[i].key) { s with heap:=h' }):wpAny (model prog w) A (pyNext (.ref it)) Q E s:=by
 obtain⟨q,U,Z,hd⟩:=id hit;unfold pyNext;refine Qq (Qt (Qy hit.typeIs F.slot_dict_keyiterator_next (Qc F.slot_dict_keyiterator_next hit.typeIs F.entry_dict_keyiterator_next ?_ (F.args_dict_keyiterator_next_1 _))));refine Qq (Qx (Qq (Qq ?_)))
 first|refine Qq (Qu hit.typeIs (Qx ?_))|refine Qq (Q7 hit.typeIs (Qx ?_))
 refine Qq (wpAny_fieldsOf U hd ?_);simp only[show Builtin.Dict_items.ownsTuple "dict_keyiterator" = Y1 by decide,Qzk,if_false];show wpAny _ _ (if (Value.ref d==Value.none)=Y0 then _ else _) _ _ s;rw[Z9 (λz=>nomatch z)];refine Qq (Qx (Qq (wpAny_dictEntries L O ?_)));rw[Z9 (by simp)];refine Qq (Qx (Qq (wpAny_dictEpoch L O ?_)));rw[Z9 (by simp)];refine Qx ?_;simp only[show ¬ ((i:Int)<0) from by lia,if_false,Int.toNat_natCast,Qq3 Y];refine Qq ?_
 first|refine Qq (Qu hit.typeIs (Qx ?_))|refine Qq (Q7 hit.typeIs (Qx ?_))
 refine Qq (wpAny_isOneOf_keyiter hit.typeIs ?_);show wpAny _ _ (setField (.ref it) 1 (rawInt ((i:Int)+1)) >>= _) _ _ s;refine Qq (Z2 U hd (by simp) ?_);have J:(s.heap.update it (Obj.mapFields (·.setIfInBounds 1 (rawInt ((i:Int)+1))))).IsKeyIter it d (i+1) es.size ep:=
  ⟨_,Qxm _ U (Obj.isFreed_of_fields (Obj.data_mapFields hd _)),(Obj.cls_mapFields ..).trans Z,by rw[Obj.data_mapFields hd]; simp[rawInt]⟩
 refine Qq (Q2 (Qq (wpAny_isOneOf_keyiter J.typeIs ?_)));exact Qx (Qx ⟨_,rfl,Qx (hQ _ J (Heap.SameBut.update ..))⟩)
def di_end(U:A.handled=Y3)(hit:s.heap.IsKeyIter it d i es.size ep)(J:s.heap.get? d=Y2 o)(L:o.data=.dict es ep)(Y:es.size<=i)(Z:∀h',Heap.ExtBut it s.heap h'->Q Y3 { s with heap:=h' }):wpAny (model prog w) A (pyNext (.ref it)) Q E s:=by
 obtain⟨q,O,hc,hd⟩:=id hit;unfold pyNext;refine Qq (Qt (Qy hit.typeIs F.slot_dict_keyiterator_next (Qc F.slot_dict_keyiterator_next hit.typeIs F.entry_dict_keyiterator_next ?_ (F.args_dict_keyiterator_next_1 _))));refine Qq (Qx (Qq (Qq ?_)))
 first|refine Qq (Qu hit.typeIs (Qx ?_))|refine Qq (Q7 hit.typeIs (Qx ?_))
 refine Qq (wpAny_fieldsOf O hd ?_);simp only[show Builtin.Dict_items.ownsTuple "dict_keyiterator" = Y1 by decide,Qzk,if_false];show wpAny _ _ (if (Value.ref d==Value.none)=Y0 then _ else _) _ _ s;rw[Z9 (λz=>nomatch z)];refine Qq (Qx (Qq (wpAny_dictEntries J L ?_)));rw[Z9 (by simp)];refine Qq (Qx (Qq (wpAny_dictEpoch J L ?_)));rw[Z9 (by simp)];refine Qx ?_;simp only[show ¬ ((i:Int)<0) from by lia,if_false,Int.toNat_natCast,Qjq Y];refine Qq ?_
 first|refine Qq (Qu hit.typeIs (Qx ?_))|refine Qq (Q7 hit.typeIs (Qx ?_))
 show wpAny _ _ (setField (.ref it) 0 .none >>= _) _ _ s;refine Qq (Z2 O hd (by simp) ?_);refine Qq ?_; simp only[newExc,newTuple];refine Qq (Qf ?_ (by size_fits)); refine Qq (Zz (by first|rfl|(simp only[firstArgMember]; rfl)) ?_);refine Qf ?_ (by size_fits); simp only[raiseNew];refine Qq (wpAny_handled ?_)
 first|rw[show A.in1.handled=Y3 from U]|(rw[U])
 refine Qq (Qx (wpAny_throw ?_));refine Qq (Zy ⟨_,Qqc _ rfl,rfl⟩ Z3 ?_);exact Qx (Z _ (((Heap.SameBut.update ..).extBut.push _).push _))
end
def Paired.at{R:α->q->Prop}{xs:List α}{ys:List q}(h:Paired R xs ys):∀{i:Nat}{x:α}{y:q},xs[i]?=Y2 x->ys[i]?=Y2 y->R x y:=by
 induction h with
 |nil=>intro i x y e; cases e
 |cons r _ J=>
  intro i x y F z
  cases i with
  |zero=>cases F; cases z; exact r
  |succ i=>exact J F z
section
noncomputable def Itk(a:Ya)(o:Obj)(xs:List (List Key×V)):It:=
 ⟨λi H=>H a=Y2 (.frz o (.dT xs))/\i<xs.length,λi H x H'=>H'=H/\∃p b,xs[i]?=Y2 p/\x=.ref b/\H b=Y2 (.tup (p.1.map kV)),λi H=>H a=Y2 (.frz o (.dT xs))/\xs.length<=i⟩
def qwh(I:Inv X q U H s)(h:H a=Y2 (.frz o (.dT xs)))(hd:o.data=.dict es ep):
  s.heap.get? a=Y2 o/\es.size=xs.length/\∀i (hi:i<es.size),∃p b,xs[i]?=Y2 p/\es[i].key=.ref b/\H b=Y2 (.tup (p.1.map kV)):=by
 obtain⟨h1,_,_,ys,z,o',Z,a0,h2,h3,O,L,_⟩:=I.hok a _ h;rw[h1]at h2;cases h2;rw[hd]at O;cases O;have l1:=Paired.length z;have Y:=congrArg List.length L;rw[Qqz,Qzf]at Y;refine⟨h1,by lia,λi hi=>?_⟩;obtain⟨y,F⟩:∃y,ys[i]?=Y2 y:=⟨ys[i]'(by lia),by simp⟩
 obtain⟨p,J⟩:∃p,xs[i]?=Y2 p:=⟨xs[i]'(by lia),by simp⟩
 have r:=Paired.at z J F;refine⟨p,y.2.1,J,?_,r.2.1⟩;have e:=congrArg (λl:List Qp=>l[i]?) L;simp only[Qqv,F,oMs,Qq0,Qq3 hi,Option.some.injEq]at e;rw[e]
 rfl
def qbq{K:Qqq}(a it)(o)(xs)(hd:o.data=.dict es ep):Turn P w K tg (Itk a o xs) [it] it (λi h=>h.IsKeyIter it a i es.size ep) where
 mem:=by simp
 obj:=λi h st b q=>by
  have e:b=it:=by simpa using q
  subst e;obtain⟨o,e,c,d⟩:=st;exact⟨o,e,λv z=>by rw[d]at z; cases z⟩
 keep:=λi h h' st k=>st.at λo e=>k it (by simp) o e
 item:=by
  intro X O J U hc i pins s σ H E I hf st L;subst O J U;obtain⟨Y,hi⟩:=L;obtain⟨h1,h2,h3⟩:=qwh I Y hd;obtain⟨f0,f1,f2,f3,f4,Z⟩:=hf it (by simp);have F:i<es.size:=by lia
  obtain⟨p,b,e1,e2,e3⟩:=h3 i F;refine qn7 st h1 hd F λh' st' sb=>?_;have I1:=I.turned (t':=s.toks) (λb o q e=>(sb.2 b q).trans e) f0 f1 f3 f4 Z;obtain⟨o1,e,c,d⟩:=id st';exact⟨_,rfl,qbs e c d (by decide) ⟨.ref b,H,I1,e2,⟨rfl,p,b,e1,rfl,e3⟩,st',λb q=>(hf b q).1⟩⟩
 done:=by
  intro X O J U hc i pins s σ H E I hf st L;subst O J U;obtain⟨Y,hi⟩:=L;obtain⟨h1,h2,_⟩:=qwh I Y hd;obtain⟨f0,f1,f2,f3,f4,Z⟩:=hf it (by simp);exact di_end (I.ok.hd hc) st h1 hd (by lia) λh' eb=>⟨rfl,I.turned (λb o q e=>eb b o q e) f0 f1 f3 f4 Z⟩
 self:=λ_ _ _ _ _ st h=>wpAny_pyIter_keyiter st h
noncomputable def qis(X:Cx)(tl:TE):TI:=λσ H R=>tl σ H λx H1=>∃a xs,x=.ref a/\H1 a=Y2 (.dT xs)/\∀o,NoFz X a->R (Itk a o xs) (upd H1 a (.frz o (.dT xs)))
def qgu(Y:PE X l tl):PI X tg l (qis X tl):=by
 intro pins s σ H R I h;refine thn (Y pins s σ H _ I h) λv z ⟨x,H1,L,U,a,xs,e,F,q⟩=>?_;subst e;cases U;obtain⟨o,O,J⟩:=qey (.t _) L F;obtain⟨_,lo,ys,pr,o',es,ep,h2,h3,hd,r⟩:=L.hok a _ F;rw[O]at h2;cases h2;refine qn8 lo O h3 hd ?_;refine⟨z.heap.objs.size,[z.heap.objs.size],_,_,_,rfl,J.kept λb o e=>Qqx _ e,qbq a _ o xs hd,⟨_,Qqc _ rfl,rfl,rfl⟩,λb Z=>?_,q o (qdo (.t _) L F)⟩;have e:b=z.heap.objs.size:=by simpa using Z
 subst e;exact J.fpOk (Qqj _) (J.hok.fresh (Qqj _))
def qmc(h:PE X e t):PE X e (λσ H Q=>t σ H λv H1=>∃a o xs,NoFz X a/\H1 a=Y2 (.frz o (.dT xs))/\Q v (upd H1 a (.dT xs))):=by
 intro pins s σ H Q I q;exact thn (h pins s σ H _ I q) λv L ⟨x,H1,J,z,a,o,xs,F,e,q⟩=>⟨x,_,qvd J F e,z,q⟩
end
end MS
end
section
namespace ST
open PySem SetTable
noncomputable def adv(m:Nat)(p:Probe):Probe:=
 if p.more > 0 then { p with j:=p.j+1,more:=p.more - 1 } else
 { p with j:=(leap m p.i p.perturb).1,more:=runEnd m (leap m p.i p.perturb).1 - (leap m p.i p.perturb).1,i:=(leap m p.i p.perturb).1,perturb:=(leap m p.i p.perturb).2 }
noncomputable def qzr(m:Nat)(h:Int):Probe:={ j:=bits h % (m+1),more:=runEnd m (bits h % (m+1)) - bits h % (m+1),i:=bits h % (m+1),perturb:=bits h,dummy:=Y3 }
noncomputable def stp(m:Nat):Nat->Probe->Probe
 |0,p=>p
 |n+1,p=>stp m n (adv m p)
theorem qqc(m):∀(a b:Nat) (p:Probe),stp m (a+b) p=stp m b (stp m a p)
 |0,b,p=>by rw[Qx3]; rfl
 |a+1,b,p=>by rw[Nat.add_right_comm]; exact qqc m a b (adv m p)
def qgy(m n)(p):stp m (n+1) p=adv m (stp m n p):=by rw[qqc]; rfl
noncomputable def runP(m i pt:Nat)(d:Option Nat):Probe:={ j:=i,more:=runEnd m i - i,i:=i,perturb:=pt,dummy:=d }
theorem qkh(m):∀(k:Nat) (p:Probe),p.more=k->stp m (k+1) p=runP m (leap m p.i p.perturb).1 (leap m p.i p.perturb).2 p.dummy
 |0,p,h=>by
  show adv m p=_;unfold adv;rw[Z9 (by lia)]; rfl
 |k+1,p,h=>by
  show stp m (k+1) (adv m p)=_;have e:adv m p={ p with j:=p.j+1,more:=p.more - 1 }:=by unfold adv; rw[Xq (by lia)]
  rw[e,qkh m k _ (by show p.more - 1=k; lia)]
noncomputable def lp(m:Nat):Nat->Nat×Nat->Nat×Nat
 |0,q=>q
 |n+1,q=>lp m n (leap m q.1 q.2)
def more_le(m i):runEnd m i - i<=9:=by unfold runEnd; split<;>lia
theorem qaj(m)(d):∀(n i pt:Nat),∃N,N<=10*n/\stp m N (runP m i pt d)=runP m (lp m n (i,pt)).1 (lp m n (i,pt)).2 d
 |0,i,pt=>⟨0,Qqj _,rfl⟩
 |n+1,i,pt=>by
  obtain⟨N,q,e⟩:=qaj m d n (leap m i pt).1 (leap m i pt).2;refine⟨(runP m i pt d).more+1+N,?_,?_⟩
  ·have:=more_le m i;show runEnd m i - i+1+N<=_
   lia
  ·rw[qqc,qkh m _ _ rfl];exact e
theorem lp_pt(m):∀(n i pt:Nat),(lp m n (i,pt)).2=pt / 32 ^ n
 |0,i,pt=>by simp[lp]
 |n+1,i,pt=>by
  show(lp m n (leap m i pt)).2=_;have:leap m i pt=((leap m i pt).1,pt / 32):=rfl;rw[this,lp_pt m n,Nat.div_div_eq_div_mul,Nat.pow_succ,Nat.mul_comm]
theorem qii(m):∀(a b:Nat) (q:Nat×Nat),lp m (a+b) q=lp m b (lp m a q)
 |0,b,q=>by rw[Qx3]; rfl
 |a+1,b,q=>by rw[Nat.add_right_comm]; exact qii m a b _
theorem lp_le(m):∀(n i pt:Nat),i<=m->(lp m n (i,pt)).1<=m
 |0,i,pt,h=>h
 |n+1,i,pt,h=>by
  exact lp_le m n _ _ (Qxb (Qjd _ (Qx4 _)))
noncomputable def lcg(m:Nat):Nat->Nat->Nat
 |0,i=>i
 |n+1,i=>lcg m n ((i*5+1) % (m+1))
theorem qd0(m):∀(n i:Nat),(lp m n (i,0)).1=lcg m n i
 |0,i=>rfl
 |n+1,i=>by
  show(lp m n (leap m i 0)).1=_;have:leap m i 0=((i*5+1) % (m+1),0):=by simp[leap]
  rw[this,qd0 m n]; rfl
def onto7:∀i,i<8->∀e,e<8->∃r,r<8/\lcg 7 r i=e:=by decide +kernel
def onto31:∀i,i<32->∀e,e<32->∃r,r<32/\lcg 31 r i=e:=by decide +kernel
def onto(z:m=7\/m=31)(F:i<=m)(J:e<=m):∃r,r<=m/\lcg m r i=e:=by
 rcases z with rfl|rfl
 ·obtain⟨r,h,q⟩:=onto7 i (by lia) e (by lia); exact⟨r,by lia,q⟩
 ·obtain⟨r,h,q⟩:=onto31 i (by lia) e (by lia); exact⟨r,by lia,q⟩
def qak(L:m=7\/m=31)(d)(O:i<=m)(J:pt<2 ^ 64)(U:e<=m):∃n N,n<=m+13/\N<=10*n/\stp m N (runP m i pt d)=runP m e (lp m n (i,pt)).2 d/\(lp m n (i,pt)).1=e:=by
 have F:(lp m 13 (i,pt)).2=0:=by
  rw[lp_pt]; exact Nat.div_eq_of_lt (Qq4 J (by decide))
 obtain⟨r,hr,Z⟩:=onto L (lp_le m 13 i pt O) U;have z:(lp m (13+r) (i,pt)).1=e:=by
  rw[qii];have:lp m 13 (i,pt)=((lp m 13 (i,pt)).1,0):=by rw[<- F]
  rw[this,qd0]; exact Z
 obtain⟨N,Y,q⟩:=qaj m d (13+r) i pt;rw[z]at q;exact⟨13+r,N,by lia,Y,q,z⟩
structure Okp (m:Nat) (p:Probe):Prop where
 i:p.i<=m
 pt:p.perturb<2 ^ 64
 more:p.more<=9
 dm:p.dummy=Y3
def Okp.start(h):Okp m (qzr m h):=by
 refine⟨Qxb (Qjd _ (Qx4 _)),?_,more_le _ _,rfl⟩;show bits h<2 ^ 64;unfold bits
 lia
def Okp.next(h:Okp m p):Okp m (adv m p):=by
 unfold adv
 split
 ·exact⟨h.i,h.pt,by have:=h.more; show p.more - 1<=9; lia,h.dm⟩
 ·refine⟨by unfold leap; exact Qxb (Qjd _ (Qx4 _)),?_,more_le _ _,h.dm⟩;exact Nat.lt_of_le_of_lt (Nat.div_le_self _ _) h.pt
theorem Okp.stp:∀(n:Nat){p:Probe},Okp m p->Okp m (stp m n p)
 |0,_,h=>h
 |n+1,_,h=>Okp.stp n h.next
def hits(q:m=7\/m=31)(h:Okp m p)(z:e<=m):∃N,N<10*turns m/\(stp m N p).j=e:=by
 have h1:=(h.stp (p.more+1))
 rw[qkh m _ p rfl]at h1;obtain⟨n,N,hn,J,F,_⟩:=qak q p.dummy h1.i h1.pt z;refine⟨p.more+1+N,?_,?_⟩
 ·have:=h.more;unfold turns; lia
 ·rw[qqc,qkh m _ p rfl];exact congrArg Probe.j F
def Up(xs:Array Nat):Prop:=∀(i k a b:Nat),i<k->xs[i]?=Y2 a->xs[k]?=Y2 b->a<b
theorem qvo(J:Up xs):∀(q lo hi:Nat),hi<=xs.size->lo<=hi->hi - lo<=q->(∀(i a:Nat),i<lo->xs[i]?=Y2 a->a<j)->(∀(i a:Nat),hi<=i->xs[i]?=Y2 a->j<=a)->
  (∀(i a:Nat),i<below.go xs j q lo hi->xs[i]?=Y2 a->a<j)/\(∀(i a:Nat),below.go xs j q lo hi<=i->xs[i]?=Y2 a->j<=a)/\below.go xs j q lo hi<=xs.size
 |0,lo,hi,h1,h2,h3,O,L=>by
  have:lo=hi:=by lia
  subst this;exact⟨O,L,h1⟩
 |q+1,lo,hi,h1,h2,h3,O,L=>by
  unfold below.go
  by_cases F:lo<hi
  ·rw[Xq F];have Z:(lo+hi) / 2<xs.size:=by lia
   have e:=Qq3 Z;have eg:xs.getD ((lo+hi) / 2) j=xs[(lo+hi) / 2]:=by rw[Qz2,e]; rfl
   simp only[eg]
   split
   ·rename_i Y;refine qvo J q _ _ h1 (by lia) (by lia) (λi a U z=>?_) L;rcases Qz5 i ((lo+hi) / 2) with h|h
    ·exact Nat.lt_trans (J i _ a _ h z e) Y
    ·have:i=(lo+hi) / 2:=by lia
     subst this;rw[e]at z; cases z; exact Y
   ·rename_i Y;refine qvo J q _ _ (by lia) (by lia) (by lia) O (λi a U z=>?_);rcases Qz5 ((lo+hi) / 2) i with h|h
    ·have:=J _ i _ a h e z; lia
    ·have:i=(lo+hi) / 2:=by lia
     subst this;rw[e]at z; cases z; lia
  ·rw[Z9 F];have:lo=hi:=by lia
   subst this;exact⟨O,L,h1⟩
def qx4(q:Up xs):(∀(i a:Nat),i<below xs j->xs[i]?=Y2 a->a<j)/\(∀(i a:Nat),below xs j<=i->xs[i]?=Y2 a->j<=a)/\below xs j<=xs.size:=
 qvo q xs.size 0 xs.size (Qqj _) (Qzq _) (by lia) (λi a h=>by lia) λi a h e=>by
  have:=(Qze.mp e).1; lia
def below_at(q:Up xs)(h:xs[i]?=Y2 j):below xs j=i:=by
 obtain⟨b1,b2,b3⟩:=qx4 q;rcases Qju (below xs j) i with h1|h1|h1
 ·have z:=Nat.lt_trans h1 (Qze.mp h).1;have e:=Qq3 z;have:=b2 _ _ (Qqj _) e;have:=q _ _ _ _ h1 e h
  lia
 ·exact h1
 ·have:=b1 _ _ h1 h; lia
structure Tb (t:Qd):Prop where
 mask:t.mask=7\/t.mask=31
 dum:t.dummies=#[]
 up:Up t.place
 le:∀(i j:Nat),t.place[i]?=Y2 j->j<=t.mask
 few:t.place.size<=t.mask
def Occ(t:Qd)(j:Nat):Prop:=∃i:Nat,t.place[i]?=Y2 j
def qjg(T:Tb t)(h:t.place[i]?=Y2 j):t.slot j=.live i:=by
 unfold slot;simp only[below_at T.up h,h,beq_self_eq_true,if_true]
def qbw(T:Tb t)(h:¬ Occ t j):t.slot j=.empty:=by
 unfold slot;have:(t.place[below t.place j]?==Y2 j)=false:=by
  cases e:t.place[below t.place j]?==Y2 j with
  |false=>rfl
  |true=>exact absurd ⟨_,beq_iff_eq.mp e⟩ h
 have hd:has t.dummies j=false:=by rw[T.dum]; unfold has; simp
 simp[this,hd]
theorem qkp:∀(l:List Nat) (lo:Nat),l.Pairwise (· < ·)->(∀a∈l,lo<=a)->(∀e,lo<=e->e<=m->e∈l)->lo<=m+1->m+1<=lo+l.length
 |[],lo,_,_,z,L=>by
  rcases Qz5 m lo with h|h
  ·simp; lia
  ·exact absurd (z lo (Qqj _) h) (by simp)
 |a::l,lo,h1,h2,z,L=>by
  rcases Qz5 m lo with h|h
  ·lia
  ·obtain⟨p1,p2⟩:=Qxh.mp h1;have J:a=lo:=by
    rcases Qqa.mp (z lo (Qqj _) h) with e|e
    ·exact e.symm
    ·have:=p1 lo e;have:=h2 a Qq6
     lia
   subst J
   have:=qkp l (a+1) p2 (λb F=>p1 b F) (λe U O=>by
    rcases Qqa.mp (z e (by lia) O) with q|q
    ·lia
    ·exact q) (by lia)
   simp only[Qqg]
   lia
def Up.pairwise(h:Up xs):xs.toList.Pairwise (· < ·):=by
 rw[Qxt];intro i j hi z q;exact h i j _ _ q (by rw[<- Qq0,Qql hi]) (by rw[<- Qq0,Qql z])
def some_free(T:Tb t):∃e,e<=t.mask/\¬ Occ t e:=by
 apply Classical.byContradiction;intro hn;have all:=λe q=>Classical.byContradiction λz=>hn ⟨e,q,z⟩
 have:=qkp t.place.toList 0 T.up.pairwise (λa _=>Qzq _) (λe _ q=>by
  obtain⟨i,hi⟩:=all e q
  exact Qqm (by rw[Qq0]; exact hi)) (Qzq _)
 have:=T.few;rw[Qzf]at *
 lia
theorem qef(T:Tb t):∀(z:Nat) (p:Probe) (N:Nat),p.dummy=Y3->N<z->¬ Occ t (stp t.mask N p).j->
  ∃n,(∀m,m<n->∃i:Nat,t.place[i]?=Y2 (stp t.mask m p).j/\q i≠h)/\
   ((¬ Occ t (stp t.mask n p).j/\probe.go t q h z p=Y2 (.empty (stp t.mask n p).j Y3))\/
    (∃i:Nat,t.place[i]?=Y2 (stp t.mask n p).j/\q i=h/\probe.go t q h z p=Y2 (.candidate (stp t.mask n p).j i (stp t.mask (n+1) p))))
 |0,p,N,_,hN,_=>by lia
 |z+1,p,N,hd,hN,U=>by
  by_cases J:Occ t p.j
  ·obtain⟨i,hi⟩:=J
   by_cases F:q i=h
   ·refine⟨0,λm O=>by lia,.inr ⟨i,hi,F,?_⟩⟩;unfold probe.go;rw[qjg T hi];simp only[F,beq_self_eq_true]
    rfl
   ·cases N with
    |zero=>exact absurd ⟨i,hi⟩ U
    |succ N=>
     have L:(adv t.mask p).dummy=none:=by unfold adv; split<;>exact hd
     obtain⟨n,Z,Y⟩:=qef T z (adv t.mask p) N L (by lia) U;have eg:probe.go t q h (z+1) p=probe.go t q h z (adv t.mask p):=by
      conv=>lhs; unfold probe.go
      rw[qjg T hi];have:(q i==h)=false:=by simpa using F
      simp only[this,if_false]
      rfl
     refine⟨n+1,λm O=>?_,?_⟩
     ·cases m with
      |zero=>exact⟨i,hi,F⟩
      |succ m=>exact Z m (by lia)
     ·rw[eg];exact Y
  ·refine⟨0,λm O=>by lia,.inl ⟨J,?_⟩⟩;unfold probe.go;rw[qbw T J];rw[hd]; rfl
def qbd(T:Tb t)(z:Okp t.mask p):
  ∃n,(∀m,m<n->∃i:Nat,t.place[i]?=Y2 (stp t.mask m p).j/\q i≠h)/\
   ((¬ Occ t (stp t.mask n p).j/\t.probe q h p=Y2 (.empty (stp t.mask n p).j Y3))\/
    (∃i:Nat,t.place[i]?=Y2 (stp t.mask n p).j/\q i=h/\t.probe q h p=Y2 (.candidate (stp t.mask n p).j i (stp t.mask (n+1) p)))):=by
 obtain⟨e,F,hf⟩:=some_free T;obtain⟨N,J,L⟩:=hits T.mask z F;exact qef T _ p N z.dm J (by rw[L]; exact hf)
section
def qqy(xs:Array α)(p)(x)(z:p<=xs.size)(i):(insertAt xs p x)[i]?=if i<p then xs[i]? else if i=p then Y2 x else xs[i - 1]?:=by
 unfold insertAt;rw[Array.getElem?_append,Array.getElem?_push,Qkq,Qkq];simp only[Array.size_push,Array.size_extract];have e:min p xs.size=p:=by lia
 simp only[e,Nat.sub_zero,Qx3]
 by_cases h1:i<p
 ·rw[Xq (by lia),Z9 (by lia),Xq h1,Xq h1]
 ·by_cases h2:i=p
  ·subst h2;rw[Xq (by lia),Xq rfl,Z9 h1,Xq rfl]
  ·rw[Z9 (by lia),Z9 h1,Z9 h2]
   by_cases q:i - (p+1)<min xs.size xs.size - p
   ·rw[Xq q]; congr 1; lia
   ·rw[Z9 q];exact(Qjq (by lia)).symm
def qjw(xs:Array α)(p)(x)(q:p<=xs.size):(insertAt xs p x).size=xs.size+1:=by
 unfold insertAt;simp only[Qjt,Array.size_push,Array.size_extract]
 lia
def qni(z:p<=xs.size):y∈(insertAt xs p x).toList↔y∈xs.toList\/y=x:=by
 unfold insertAt;simp only[Array.toList_append,Array.toList_push,Array.toList_extract,Qqh,Qqy,List.extract_eq_drop_take,Nat.sub_zero,List.drop_zero];have e:xs.toList.take p++xs.toList.drop p=xs.toList:=Qjy p _;have q:(xs.toList.drop p).take (xs.size - p)=xs.toList.drop p:=Qxv (by simp);rw[q]
 conv=>rhs; rw[<- e,Qqh]
 constructor
 ·rintro ((h|h)|h)
  ·exact .inl (.inl h)
  ·exact .inr h
  ·exact .inl (.inr h)
 ·rintro ((h|h)|h)
  ·exact .inl (.inl h)
  ·exact .inr h
  ·exact .inl (.inr h)
end
def Reach(t:Qd)(h:Int)(j:Nat):Prop:=∃n,(stp t.mask n (qzr t.mask h)).j=j/\∀m,m<n->Occ t (stp t.mask m (qzr t.mask h)).j
structure SI {α:Type}(t:Qd) (es:Array (Int×α)):Prop where
 tb:Tb t
 sz:t.place.size=es.size
 reach:∀(i j:Nat) (e:Int×α),t.place[i]?=Y2 j->es[i]?=Y2 e->Reach t e.1 j
def qc8(T:Tb t)(j):t.put j=({ t with place:=insertAt t.place (below t.place j) j },below t.place j):=by
 unfold put;have hd:has t.dummies j=false:=by rw[T.dum]; unfold has; simp
 simp only[hd,Qzk,if_false]
def put_ok{es:Array (Int×α)}(I:SI t es){x:α}(hj:j<=t.mask)(hf:¬ Occ t j)(hr:Reach t h j)(hs:es.size+1<=t.mask):
  SI (t.put j).1 (insertAt es (t.put j).2 (h,x)):=by
 obtain⟨b1,b2,b3⟩:=qx4 I.tb.up;have U:below t.place j<=es.size:=by rw[<- I.sz]; exact b3
 rw[qc8 I.tb];have oc:∀j',Occ t j'->Occ { t with place:=insertAt t.place (below t.place j) j } j':=λj' ⟨i,hi⟩=>by
  by_cases h1:i<below t.place j
  ·exact⟨i,by rw[qqy _ _ _ b3,Xq h1]; exact hi⟩
  ·exact⟨i+1,by rw[qqy _ _ _ b3,Z9 (by lia),Z9 (by lia)]; exact hi⟩
 have Y:∀h' j',Reach t h' j'->Reach { t with place:=insertAt t.place (below t.place j) j } h' j':=λh' j' ⟨n,e,q⟩=>⟨n,e,λm hm=>oc _ (q m hm)⟩
 refine⟨⟨I.tb.mask,I.tb.dum,?_,?_,?_⟩,?_,?_⟩
 ·intro i k a b a0 J F;have J:=J;have F:=F;rw[qqy _ _ _ b3]at J F;have ne:∀(Z c:Nat),t.place[Z]?=Y2 c->c≠j:=λZ c e z=>hf ⟨Z,by rw[<- z]; exact e⟩
  split at J
  ·split at F
   ·exact I.tb.up _ _ _ _ a0 J F
   ·split at F
    ·cases F; exact b1 _ _ (by assumption) J
    ·exact I.tb.up _ _ _ _ (by lia) J F
  ·split at J
   ·cases J;rw[Z9 (by lia),Z9 (by lia)]at F;have:=b2 _ _ (by lia) F;have:=ne _ _ F
    lia
   ·rw[Z9 (by lia),Z9 (by lia)]at F;exact I.tb.up _ _ _ _ (by lia) J F
 ·intro i j' e;have e:=e;rw[qqy _ _ _ b3]at e
  split at e
  ·exact I.tb.le _ _ e
  ·split at e
   ·cases e; exact hj
   ·exact I.tb.le _ _ e
 ·rw[qjw _ _ _ b3,I.sz]; exact hs
 ·rw[qjw _ _ _ b3,qjw _ _ _ U,I.sz]
 ·intro i j' e O L;have O:=O;have L:=L;rw[qqy _ _ _ b3]at O;rw[qqy _ _ _ U]at L
  split at O
  ·rename_i h1;rw[Xq h1]at L;exact Y _ _ (I.reach _ _ _ O L)
  ·rename_i h1;rw[Z9 h1]at L
   split at O
   ·rename_i h2;rw[Xq h2]at L;cases O; cases L;exact Y _ _ hr
   ·rename_i h2;rw[Z9 h2]at L;exact Y _ _ (I.reach _ _ _ O L)
def qfr{es:Array (Int×α)}(I:SI t es){bad:Nat->Prop}(hb:∀m,m<n->∃i:Nat,t.place[i]?=Y2 (stp t.mask m (qzr t.mask h)).j/\bad i)(L:¬ Occ t (stp t.mask n (qzr t.mask h)).j):
  ∀(i:Nat) (e:Int×α),es[i]?=Y2 e->e.1=h->bad i:=λi e O Z=>by
 have hi:i<t.place.size:=by rw[I.sz]; exact(Qze.mp O).1
 have z:=Qq3 hi;obtain⟨J,q,F⟩:=I.reach _ _ _ z O;rw[Z]at q F;rcases Qju n J with h1|h1|h1
 ·exact absurd (F n h1) L
 ·subst h1; exact absurd ⟨i,by rw[q]; exact z⟩ L
 ·obtain⟨Y,U,b⟩:=hb J h1;rw[q]at U;have:Y=i:=(below_at I.tb.up U).symm.trans (below_at I.tb.up z);rw[<- this]; exact b
def qhg(q):SI (α:=α) (PySem.SetTable.fresh 0 0 q) #[]:=
 ⟨⟨.inl rfl,rfl,λi k a b _ h=>by simp[PySem.SetTable.fresh]at h,λi j h=>by simp[PySem.SetTable.fresh]at h,by simp[PySem.SetTable.fresh]⟩,rfl,λi j e h=>by simp[PySem.SetTable.fresh]at h⟩
def OcO(ow:Array (Option Nat))(j:Nat):Prop:=∃k,ow[j]?=Y2 (Y2 k)
def getD_none(q:j<ow.size):(ow.getD j (Y2 0)).isNone=Y0↔¬ OcO ow j:=by
 have e:=Qq3 q;rw[Qz2,e]
 cases h:ow[j] with
 |none=>simp[OcO,e,h]
 |some k=>simp[OcO,e,h]
theorem qk9(m i pt)(d):∀k,k<=runEnd m i - i->(stp m k (runP m i pt d)).j=i+k/\(stp m k (runP m i pt d)).more=runEnd m i - i - k
 |0,_=>⟨rfl,rfl⟩
 |k+1,h=>by
  obtain⟨h1,h2⟩:=qk9 m i pt d k (by lia);rw[qgy];have e:adv m (stp m k (runP m i pt d))={ stp m k (runP m i pt d) with j:=(stp m k (runP m i pt d)).j+1,more:=(stp m k (runP m i pt d)).more - 1 }:=by
   conv=>lhs; unfold adv
   rw[Xq (by lia)]
  rw[e];exact⟨by show(stp m k (runP m i pt d)).j+1=_; lia,by show(stp m k (runP m i pt d)).more - 1=_; lia⟩
def qjl(h:i<=m):i<=runEnd m i/\runEnd m i<=m:=by unfold runEnd; split<;>lia
def qbu(h:(List.range n).find? p=Y2 k):k<n/\p k=Y0/\∀q,q<k->p q=false:=by
 have h1:=Qje h;have h2:=Qxe h;refine⟨Qz7.mp h2,h1,λq z=>?_⟩;rw[List.find?_range_eq_some]at h;have:=h.2.2 q z;simpa using this
theorem qeh(hs:ow.size=m+1):∀(q i pt z:Nat),i<=m->z<q->¬ OcO ow (lp m z (i,pt)).1->
  ∃n j,layClean.free m ow q i pt=Y2 j/\(stp m n (runP m i pt Y3)).j=j/\j<=m/\¬ OcO ow j/\∀k,k<n->OcO ow (stp m k (runP m i pt Y3)).j
 |0,i,pt,z,_,hn,_=>by lia
 |q+1,i,pt,z,hi,hn,he=>by
  unfold layClean.free;obtain⟨r1,r2⟩:=qjl hi
  cases hf:(List.range (runEnd m i+1 - i)).find? λk=>(ow.getD (i+k) (Y2 0)).isNone with
  |some k=>
   obtain⟨f1,f2,f3⟩:=qbu hf;refine⟨k,i+k,rfl,(qk9 m i pt Y3 k (by lia)).1,by lia,(getD_none (by lia)).mp f2,λL F=>?_⟩;rw[(qk9 m i pt Y3 L (by lia)).1];have:=f3 L F;apply Classical.byContradiction;intro J;rw[(getD_none (by lia)).mpr J]at this;cases this
  |none=>
   have all:=λk F=>by
    have:=List.find?_eq_none.mp hf k (Qz7.mpr F);apply Classical.byContradiction;intro J;exact this ((getD_none (by lia)).mpr J)
   cases z with
   |zero=>exact absurd (all 0 (by lia)) he
   |succ z=>
    have hl:(leap m i pt).1<=m:=Qxb (Qjd _ (Qx4 _));obtain⟨n,j,q1,Z,Y,U,O⟩:=qeh hs q (leap m i pt).1 (leap m i pt).2 z hl (by lia) he;refine⟨(runEnd m i - i)+1+n,j,q1,?_,Y,U,λk F=>?_⟩
    ·rw[qqc,qkh m (runEnd m i - i) (runP m i pt Y3) rfl]; exact Z
    ·rcases Qz5 k (runEnd m i - i+1) with h|h
     ·rw[(qk9 m i pt Y3 k (by lia)).1]; exact all k (by lia)
     ·have e:k=(runEnd m i - i)+1+(k - (runEnd m i - i+1)):=by lia
      rw[e,qqc,qkh m (runEnd m i - i) (runP m i pt Y3) rfl];exact O _ (by lia)
structure FI (m:Nat) (ow:Array (Option Nat)) (hs:List Int):Prop where
 size:ow.size=m+1
 val:∀(j k:Nat),ow[j]?=Y2 (Y2 k)->k<hs.length
 sur:∀k,k<hs.length->∃j:Nat,ow[j]?=Y2 (Y2 k)
 reach:∀(j k:Nat) (h:Int),ow[j]?=Y2 (Y2 k)->hs[k]?=Y2 h->∃n,(stp m n (qzr m h)).j=j/\∀q,q<n->OcO ow (stp m q (qzr m h)).j
 cnt:ow.toList.countP Option.isSome=hs.length
def FI.zero(m):FI m (Array.replicate (m+1) Y3) [] where
 size:=by simp
 val:=λj k h=>by
  rw[Qj4]at h
  split at h<;>simp at h
 sur:=λk h=>by simp at h
 reach:=λj k x h=>by
  rw[Qj4]at h
  split at h<;>simp at h
 cnt:=by rw[Array.toList_replicate]; simp
def FI.some_free(I:FI m ow z)(h:z.length<=m):∃e,e<=m/\¬ OcO ow e:=by
 apply Classical.byContradiction;intro hn;have all:∀x∈ow.toList,Option.isSome x=true:=λx J=>by
  obtain⟨j,L,e⟩:=Qz4 J;have q:j<ow.size:=by simpa using L
  have:OcO ow j:=Classical.byContradiction λO=>hn ⟨j,by have:=I.size; lia,O⟩;obtain⟨k,F⟩:=this;rw[Qq3 q]at F;rw[Array.getElem_toList]at e;rw[<- e,Option.some.inj F]; rfl
 have:=List.countP_eq_length.mpr all;have Y:=I.cnt;have U:=(Qzf).trans I.size
 lia
def FI.more(hm:m=7\/m=31)(I:FI m ow J)(hl:J.length<=m)(h):
  ∃j,layClean.free m ow (turns m) (bits h % (m+1)) (bits h)=Y2 j/\FI m (ow.setIfInBounds j (Y2 J.length)) (J++[h]):=by
 obtain⟨e,he,hf⟩:=I.some_free hl;have ok:=Okp.start (m:=m) h;obtain⟨n',_,a4,_,_,e1⟩:=qak hm Y3 ok.i ok.pt he;have e1:(lp m n' (bits h % (m+1),bits h)).1=e:=e1;obtain⟨n,j,q1,q2,q3,q4,q5⟩:=qeh I.size (turns m) (bits h % (m+1)) (bits h) n' ok.i (by unfold turns; lia) (by rw[e1]; exact hf);refine⟨j,q1,?_⟩;have U:j<ow.size:=by rw[I.size]; lia
 have Y:∀j',(ow.setIfInBounds j (Y2 J.length))[j']?=if j=j' then Y2 (Y2 J.length) else ow[j']?:=λj'=>by
  rw[Array.getElem?_setIfInBounds]
  by_cases h:j=j'
  ·subst h; rw[Xq rfl,Xq U,Xq rfl]
  ·rw[Z9 h,Z9 h]
 have oc:∀j',OcO ow j'->OcO (ow.setIfInBounds j (Y2 J.length)) j':=λj' ⟨k,F⟩=>by
  unfold OcO;rw[Y]
  by_cases h:j=j'
  ·exact⟨_,Xq h⟩
  ·rw[Z9 h]; exact⟨k,F⟩
 refine⟨by rw[Array.size_setIfInBounds]; exact I.size,λj' k F=>?_,λk F=>?_,λj' k h' F Z=>?_,?_⟩
 ·rw[Y]at F;rw[Qqi,Qz8]
  split at F
  ·cases F; lia
  ·have:=I.val _ _ F; lia
 ·rw[Qqi,Qz8]at F;rcases Qz5 k J.length with h1|h1
  ·obtain⟨j',O⟩:=I.sur k h1;refine⟨j',?_⟩;rw[Y,Z9 (λz=>q4 (by rw[z]; exact⟨k,O⟩))]; exact O
  ·have:k=J.length:=by lia
   subst this;exact⟨j,by rw[Y,Xq rfl]⟩
 ·rw[Y]at F
  split at F
  ·rename_i a3;cases F;rw[Qzm (Qqj _),Nat.sub_self]at Z;cases Z;exact⟨n,by rw[<- a3]; exact q2,λq hq=>oc _ (q5 q hq)⟩
  ·have a0:=I.val _ _ F;rw[Qq2 a0]at Z;obtain⟨n1,a1,a2⟩:=I.reach _ _ _ F Z;exact⟨n1,a1,λq hq=>oc _ (a2 q hq)⟩
 ·rw[Array.toList_setIfInBounds,List.countP_set (by simpa using U)];have L:(ow.toList[j]'(by simpa using U)).isSome=false:=by
   cases e:ow.toList[j]'(by simpa using U) with
   |none=>rfl
   |some k=>exact absurd ⟨k,by rw[<- Qq0,Qql (by simpa using U),e]⟩ q4
  simp only[L,I.cnt];simp
theorem qam(L:m=7\/m=31):∀(l:List Int) (ow:Array (Option Nat)) (q:List Int),FI m ow q->q.length+l.length<=m+1->
  ∃z,l.foldl (λF h=>do let (owner,k) <- F; let j <- layClean.free m owner (turns m) (bits h % (m+1)) (bits h); pure (owner.setIfInBounds j (Y2 k),k+1)) (Y2 (ow,q.length))=Y2 (z,q.length+l.length)/\FI m z (q++l)
 |[],ow,q,I,_=>⟨ow,rfl,by rw[Qzh]; exact I⟩
 |h::l,ow,q,I,O=>by
  simp only[Qqg]at O;obtain⟨j,e,Y⟩:=I.more L (by lia) h;obtain⟨z,U,J⟩:=qam L l _ _ Y (by simp; lia);refine⟨z,?_,by simpa using J⟩;rw[Qxy];have:(do let (owner,k) <- (Y2 (ow,q.length):Option (Array (Option Nat)×Nat)); let j <- layClean.free m owner (turns m) (bits h % (m+1)) (bits h); pure (owner.setIfInBounds j (Y2 k),k+1))=Y2 (ow.setIfInBounds j (Y2 q.length),q.length+1):=by
   show(layClean.free m ow (turns m) (bits h % (m+1)) (bits h)).bind _=_;rw[e]; rfl
  rw[this];have el:q.length+1=(q++[h]).length:=by simp
  rw[el,U];simp; lia
def lay_ok(z:m=7\/m=31)(q)(F:q.size<=m+1):∃ow,layClean m q=Y2 ow/\FI m ow q.toList:=by
 obtain⟨ow,e,I⟩:=qam z q.toList _ [] (FI.zero m) (by simpa using F);refine⟨ow,?_,by simpa using I⟩;unfold layClean;rw[<- Array.foldl_toList];exact congrArg (Option.map (·.1)) e
noncomputable def qz4(m:Nat)(ow:Array (Option Nat)):List (Nat×Nat):=(List.range (m+1)).filterMap λj=>(ow.getD j Y3).map (j,·)
def qxd(I:FI m ow J):q∈qz4 m ow↔ow[q.1]?=Y2 (Y2 q.2):=by
 unfold qz4;rw[Qxu];constructor
 ·rintro⟨j,F,e⟩;have z:j<ow.size:=by rw[I.size]; exact Qz7.mp F
  rw[Qz2,Qq3 z]at e
  cases h:ow[j] with
  |none=>rw[h]at e; cases e
  |some k=>
   rw[h]at e;cases e;rw[Qq3 z,h]
 ·intro e;have F:=(Qze.mp e).1;refine⟨q.1,Qz7.mpr (by rw[<- I.size]; exact F),?_⟩;rw[Qz2,e]
  rfl
def qnz(m)(ow):(qz4 m ow).Pairwise λa b=>a.1<b.1:=by
 unfold qz4;refine List.Pairwise.filterMap _ (λa J h b z O q=>?_) (List.pairwise_lt_range)
 cases e:ow.getD a Y3 with
 |none=>rw[e]at z; cases z
 |some k=>
  cases F:ow.getD J Y3 with
  |none=>rw[F]at q; cases q
  |some L=>
   rw[e]at z; rw[F]at q;cases z; cases q;exact h
def qvv(I:FI m ow q):(qz4 m ow).length=q.length:=by
 unfold qz4;rw[List.length_filterMap_eq_countP,<- I.cnt];have e:ow.toList=(List.range (m+1)).map λj=>ow.getD j none:=by
  apply Qj0;intro j;rw[Qq0,Qqv];rcases Qz5 j (m+1) with h|h
  ·rw[Qxk h];have z:j<ow.size:=by rw[I.size]; exact h
   rw[Qq3 z];show _=Y2 (ow.getD j Y3);rw[Qz2,Qq3 z]; rfl
  ·rw[Qjq (by rw[I.size]; exact h),Qzg (by simpa using h)]; rfl
 rw[e,List.countP_map];refine List.countP_congr λj _=>?_;simp
theorem qay{α:Type}(es:Array α):∀(l:List Nat),(∀k∈l,k<es.size)->(l.filterMap λk=>es[k]?).length=l.length/\∀i:Nat,(l.filterMap λk=>es[k]?)[i]?=l[i]?.bind λk=>es[k]?
 |[],_=>⟨rfl,λi=>by simp⟩
 |k::l,h=>by
  obtain⟨h1,h2⟩:=qay es l λz q=>h z (Qqt _ q);have q:=h k Qq6;have e:=Qq3 q;rw[Qz3,e];refine⟨by simp[h1],λi=>?_⟩
  cases i with
  |zero=>simp[e]
  |succ i=>simp only[Qj7]; exact h2 i
def qnk{led plain:Bool}(hm:m=7\/m=31)(es:Array (Int×α))(hl:es.size<=m):
  ∃t F,laid m f mv led plain (es.map (·.1))=Y2 (t,F)/\SI t (F.filterMap (es[·]?))/\(F.filterMap (es[·]?)).size=es.size/\(∀e,e∈(F.filterMap (es[·]?)).toList↔e∈es.toList)/\t.mask=m:=by
 obtain⟨ow,e,I⟩:=lay_ok hm (es.map (·.1)) (by rw[Array.size_map]; lia);have J:(es.map (·.1)).toList.length=es.size:=by simp
 have il:∀k∈(qz4 m ow).map (·.2),k<es.size:=λk O=>by
  obtain⟨q,Y,rfl⟩:=Qqw.mp O;rw[<- J];exact I.val _ _ ((qxd I).mp Y)
 obtain⟨p1,p2⟩:=qay es _ il;have tl:(((qz4 m ow).map (·.2)).toArray.filterMap (es[·]?)).toList=((qz4 m ow).map (·.2)).filterMap λk=>es[k]?:=by simp
 have at_:∀i:Nat,(((qz4 m ow).map (·.2)).toArray.filterMap (es[·]?))[i]?=((qz4 m ow)[i]?.map (·.2)).bind λk=>es[k]?:=λi=>by
  rw[<- Qq0,tl,p2,Qqv]
 have pl:∀i:Nat,((qz4 m ow).map (·.1)).toArray[i]?=(qz4 m ow)[i]?.map (·.1):=λi=>by simp
 have oc:∀j,OcO ow j->Occ { mask:=m,place:=((qz4 m ow).map (·.1)).toArray,dummies:=#[],finger:=f,led:=led,moves:=mv,plain:=plain } j:=λj ⟨k,O⟩=>by
  obtain⟨i,hi,e⟩:=Qz4 ((qxd I (q:=(j,k))).mpr O);refine⟨i,?_⟩;rw[pl,Qql hi,e]; rfl
 have ns:(((qz4 m ow).map (·.2)).toArray.filterMap (es[·]?)).size=es.size:=by
  rw[<- Qzf,tl,p1,Qqz,qvv I,J]
 refine⟨{ mask:=m,place:=((qz4 m ow).map (·.1)).toArray,dummies:=#[],finger:=f,led:=led,moves:=mv,plain:=plain },((qz4 m ow).map (·.2)).toArray,?_,⟨⟨hm,rfl,?_,?_,?_⟩,?_,?_⟩,ns,?_,rfl⟩
 ·unfold laid;rw[e]; rfl
 ·intro i k a b a0 ha hb;rw[pl]at ha hb;obtain⟨x,L,rfl⟩:=Qqf.mp ha;obtain⟨y,hy,rfl⟩:=Qqf.mp hb;obtain⟨h1,e1⟩:=Qqk.mp L;obtain⟨h2,e2⟩:=Qqk.mp hy;have:=Qxt.mp (qnz m ow) i k h1 h2 a0;rw[e1,e2]at this;exact this
 ·intro i j U;rw[pl]at U;obtain⟨x,L,rfl⟩:=Qqf.mp U;have:=(qxd I).mp (Qqm L);have:=(Qze.mp this).1;rw[I.size]at this;show x.1<=m
  lia
 ·rw[Qqd,Qqz,qvv I,J]; exact hl
 ·rw[Qqd,Qqz,qvv I,J,ns]
 ·intro i j x U L;rw[pl]at U;rw[at_]at L;obtain⟨q,Y,rfl⟩:=Qqf.mp U;rw[Y]at L;have L:es[q.2]?=Y2 x:=L;have ho:=(qxd I).mp (Qqm Y);obtain⟨n,a1,a2⟩:=I.reach q.1 q.2 x.1 ho (by rw[Qq0,Array.getElem?_map,L]; rfl);exact⟨n,a1,λz hz=>oc _ (a2 z hz)⟩
 ·intro x;rw[tl,Qxu];constructor
  ·rintro⟨k,_,O⟩;exact Qqm (by rw[Qq0]; exact O)
  ·intro L;obtain⟨k,O,e'⟩:=Qz4 L;have Z:k<(es.map (·.1)).toList.length:=by rw[J]; simpa using O
   obtain⟨j,U⟩:=I.sur k Z;refine⟨k,Qqw.mpr ⟨(j,k),(qxd I).mpr U,rfl⟩,?_⟩;rw[<- Qq0,Qql O,e']
def qdq(T:Tb t)(z:Okp t.mask p)(F:t.probe q h p=met):
  ∃n,(∀m,m<n->∃i:Nat,t.place[i]?=Y2 (stp t.mask m p).j/\q i≠h)/\
   ((¬ Occ t (stp t.mask n p).j/\met=Y2 (.empty (stp t.mask n p).j Y3))\/
    (∃i:Nat,t.place[i]?=Y2 (stp t.mask n p).j/\q i=h/\met=Y2 (.candidate (stp t.mask n p).j i (stp t.mask (n+1) p)))):=by
 subst F;exact qbd T z
theorem SI.fits(I:SI t es):t.fits es.size=true:=by
 unfold SetTable.fits SetTable.fill;rw[I.tb.dum];have:=I.tb.few;simp[I.sz];rw[<- I.sz]; exact this
def Tb.stays(T:Tb t):t.gaveWay=false:=by
 unfold SetTable.gaveWay;rcases T.mask with h|h<;>rw[h]<;>rfl
section
variable {prog:Program}{w:Qk}{A:Qv}{E:Yv->Qz->Prop}{s:Qz}[DecidableEq K]{knd:KeyKind prog w K}
def qkw(n)(h:carriedByValue v=Y0):Zm n v=pure false:=by
 cases v with
 |ref a=>simp[carriedByValue]at h
 |_=>unfold Zm; rfl
def qkb(L:IsTupleKey knd s.heap O b)(h:Q Y1 s):wpAny (model prog w) A (Zm 8 (.ref b)) Q E s:=by
 have Y:=L.typeIs;obtain⟨o,z,n,U,hc,hd,hi⟩:=L;unfold Zm;refine Qq (wpAny_typeOf Y ?_);refine Qq ?_;refine Qx ?_;simp only[ if_false];refine Qq (Qo U hd ?_);refine Qq ?_;rw[<- Array.forIn_toList];refine wpAny_forIn_list _ (λrest r s'=>r.1=Y3/\s'=s/\∀v∈rest,carriedByValue v=Y0) _ ?_ ?_ _ _ ⟨rfl,rfl,hi.byValue⟩
 ·rintro v rest r s' ⟨J,rfl,q⟩;rw[qkw _ (q v Qq6)];refine Qq (Qx ?_);simp only[Qzk];exact Qx ⟨rfl,rfl,λu F=>q u (Qqt _ F)⟩
 ·rintro⟨r1,Z⟩ s' ⟨J,rfl,_⟩;simp only at J;subst J;exact Qx h
def qi8(J:IsTupleKey knd s.heap U x)(Y:∀y∈l,∃b k,y=.ref b/\IsTupleKey knd s.heap k b)(h:Q Y1 s):
  wpAny (model prog w) A (searchCouldBeSeen (.ref x) l) Q E s:=by
 unfold searchCouldBeSeen;refine Qq ?_;refine wpAny_forIn_list _ (λrest r s'=>r.1=Y3/\s'=s/\∀y∈rest,∃b k,y=.ref b/\IsTupleKey knd s.heap k b) _ ?_ ?_ _ _ ⟨rfl,rfl,Y⟩
 ·rintro y rest r s' ⟨F,rfl,q⟩;obtain⟨b,k,rfl,O⟩:=q y Qq6;have Z:(carriedByValue (Value.ref x)&&carriedByValue (Value.ref b))=false:=rfl;simp only[Z,Bool.or_false]
  by_cases L:(x==b)=Y0
  ·rw[Xq L];exact Qx ⟨rfl,rfl,λu z=>q u (Qqt _ z)⟩
  ·rw[Z9 L];refine Qq (wpAny_eqIsQuiet_tuple J ?_);simp only[Qkv,if_false];refine Qq (wpAny_eqIsQuiet_tuple O ?_);simp only[Qkv,if_false];refine Qq (qkb J ?_);simp only[Qzk];refine Qq (qkb O ?_);simp only[Qzk];exact Qx ⟨rfl,rfl,λu z=>q u (Qqt _ z)⟩
 ·rintro⟨r1,r2⟩ s' ⟨F,rfl,_⟩;simp only at F;subst F;exact Qx h
end
section
def ints_of(h:ItemsAre (intKind prog w) z vs):∀v∈vs,∃i t,v=.int i t:=by
 induction h with
 |nil=>intro v q; simp at q
 |@cons k J z vs h1 _ F=>
  intro v q;rcases Qqa.mp q with rfl|q
  ·obtain⟨t,e⟩:=Value.isInt_shape (h1);exact⟨k,t,e⟩
  ·exact F v q
def qa9(O:IsTupleKey (intKind prog w) s.heap U b)(h:Q Y0 s):wpAny (model prog w) A (hashByValue 8 (.ref b)) Q E s:=by
 have Z:=O.typeIs;obtain⟨o,z,n,Y,hc,hd,hi⟩:=O;unfold hashByValue;refine Qq (Ze Z F.slot_tuple_hash.lookup ?_);refine Qq (Qo Y hd ?_);refine Qq ?_;show wpAny _ _ (forIn z _ _) _ _ s;rw[<- Array.forIn_toList];refine wpAny_forIn_list _ (λrest r s'=>r.1=Y3/\s'=s/\∀v∈rest,∃i t,v=.int i t) _ ?_ ?_ _ _ ⟨rfl,rfl,ints_of hi⟩
 ·rintro v rest r s' ⟨L,rfl,q⟩;obtain⟨i,t,rfl⟩:=q v Qq6;have e:hashByValue 7 (.int i t)=pure true:=by simp[hashByValue]
  rw[e];refine Qq (Qx ?_);simp only[ if_false];exact Qx ⟨rfl,rfl,λu J=>q u (Qqt _ J)⟩
 ·rintro⟨r1,r2⟩ s' ⟨L,rfl,_⟩;simp only at L;subst L;exact Qx h
def Els(prog:Program)(w:Qk)(h:Heap)(es:Array (Int×Yv)):Prop:=∀(i:Nat) (e:Int×Yv),es[i]?=Y2 e->∃b k,e=(tupleKeyHash (intKind prog w) k,.ref b)/\IsTupleKey (intKind prog w) h k b
def Bad(prog:Program)(w:Qk)(h:Heap)(es:Array (Int×Yv))(k:List Int)(i:Nat):Prop:=∀(e:Int×Yv) (b:Ya) (k':List Int),es[i]?=Y2 e->e.2=.ref b->IsTupleKey (intKind prog w) h k' b->k'≠k
theorem qv6(hu:A.units<cLine)(ho:s.heap.get? a=Y2 o)(hd:o.data=.set es ep t)(I:SI t es)(Z:Els prog w s.heap es)(hx:IsTupleKey (intKind prog w) s.heap k x)(hf:∀n,(∀m,m<n->∃i:Nat,t.place[i]?=Y2 (stp t.mask m (qzr t.mask (tupleKeyHash (intKind prog w) k))).j/\Bad prog w s.heap es k i)->¬ Occ t (stp t.mask n (qzr t.mask (tupleKeyHash (intKind prog w) k))).j->
   Q (.free (stp t.mask n (qzr t.mask (tupleKeyHash (intKind prog w) k))).j Y1) s)(ht:(∃(i:Nat) (b:Ya) (g:Int),es[i]?=Y2 (g,.ref b)/\IsTupleKey (intKind prog w) s.heap k b)->Q (.there Y3) s)(N)(hN:¬ Occ t (stp t.mask N (qzr t.mask (tupleKeyHash (intKind prog w) k))).j):
  ∀(J F:Nat) (L:Option Probe),L.getD (t.probeStart (tupleKeyHash (intKind prog w) k))=stp t.mask F (qzr t.mask (tupleKeyHash (intKind prog w) k))->F<=N->N - F<J->
   (∀m,m<F->∃i:Nat,t.place[i]?=Y2 (stp t.mask m (qzr t.mask (tupleKeyHash (intKind prog w) k))).j/\Bad prog w s.heap es k i)->
   wpAny (model prog w) A (Z6 a (.ref x) (tupleKeyHash (intKind prog w) k) Y0 J L) Q E s
 |0,F,_,_,_,a8,_=>by lia
 |J+1,F,L,a7,hle,a8,a4=>by
  unfold Z6;refine Qq (Zj ho hd I.fits ?_);dsimp only;rw[I.tb.stays];simp only[Qzk];rw[a7];generalize hm:SetTable.probe t _ _ _=met;have a6:Okp t.mask (stp t.mask F (qzr t.mask (tupleKeyHash (intKind prog w) k))):=(Okp.start _).stp F;obtain⟨n,p1,p2⟩:=qdq I.tb a6 hm;have a5:∀m,m<n->∃i:Nat,t.place[i]?=Y2 (stp t.mask (F+m) (qzr t.mask (tupleKeyHash (intKind prog w) k))).j/\Bad prog w s.heap es k i:=λm a1=>by
   obtain⟨i,i1,i2⟩:=p1 m a1;refine⟨i,by rw[qqc]; exact i1,λe b k' Y hb b0 z=>i2 ?_⟩;obtain⟨b',b5,e',q⟩:=Z i e Y;have:(es[i]?.map (·.1)).getD 0=tupleKeyHash (intKind prog w) k:=by
    rw[Y,e'];rw[e']at hb;cases hb;rw[q.inj b0,z]; rfl
   exact this
  have U:∀m,m<F+n->∃i:Nat,t.place[i]?=Y2 (stp t.mask m (qzr t.mask (tupleKeyHash (intKind prog w) k))).j/\Bad prog w s.heap es k i:=λm a1=>by
   rcases Qz5 m F with h|h
   ·exact a4 m h
   ·obtain⟨i,i1,i2⟩:=a5 (m - F) (by lia);rw[show F+(m - F)=m by lia]at i1;exact⟨i,i1,i2⟩
  rw[<- qqc]at p2;rcases p2 with⟨q1,rfl⟩|⟨i,q1,q2,rfl⟩
  ·dsimp only;exact Qx (hf _ U q1)
  ·dsimp only;have hi:i<es.size:=by rw[<- I.sz]; exact(Qze.mp q1).1
   have Y:=Qq3 hi;obtain⟨b,k',e',hb⟩:=Z i _ Y;rw[e']at Y;have b6:F+n<N:=by
    rcases Qju (F+n) N with h|h|h
    ·exact h
    ·exact absurd ⟨i,by rw[<- h]; exact q1⟩ hN
    ·obtain⟨i',i1,_⟩:=U N h;exact absurd ⟨i',i1⟩ hN
   have rest:wpAny (model prog w) A (do
     let O <- holding [Value.ref b] (eqBool (.ref b) (.ref x))
     let (b4,_,t') <- setState a
     if Y0&&O then return .there Y3
     let Y2 same:=t'.sameMemory t.moves t.mask|unsupported "set.changed-during-lookup:is-the-new-block-at-the-old-address"
     let a0 <- match (if same then t'.slot (stp t.mask (F+n) (qzr t.mask (tupleKeyHash (intKind prog w) k))).j else .empty) with
      |.live i'=>match b4[i']? with
       |some (_,y')=>do pure (if <- isSame y' (.ref b) then Y2 i' else Y3)
       |none=>pure Y3
      |_=>pure Y3
     match a0 with
     |none=>rule "set.search.anew"; Z6 a (.ref x) (tupleKeyHash (intKind prog w) k) Y0 J Y3
     |some i'=>if O then return .there (Y2 i') else Z6 a (.ref x) (tupleKeyHash (intKind prog w) k) Y0 J (Y2 (stp t.mask (n+1) (stp t.mask F (qzr t.mask (tupleKeyHash (intKind prog w) k)))))) Q E s:=by
    refine Qq (Q2 (wpAny_eqBool_tuple hu hb hx ?_));refine Qq (Zj ho hd I.fits ?_)
    by_cases hk:k'=k
    ·subst hk;simp only[ if_true];exact Qx (ht ⟨i,b,_,Y,hb⟩)
    ·have ek:=Z8 hk;simp only[ek,if_false];have em:t.sameMemory t.moves t.mask=Y2 true:=by unfold SetTable.sameMemory; simp
     rw[em];simp only[if_true];rw[qjg I.tb q1];dsimp only;rw[Y];refine Qq (wpAny_isSame_ref_self ?_);simp only[if_true];refine Qq (Qx ?_);refine qv6 hu ho hd I Z hx hf ht N hN J (F+n+1) _ ?_ (by lia) (by lia) λm a1=>?_
     ·rw[<- qqc]; rfl
     ·rcases Qz5 m (F+n) with h|h
      ·exact U m h
      ·have:m=F+n:=by lia
       subst this;refine⟨i,q1,λe b1 k1 a3 b3 a9 z=>hk ?_⟩;rw[Y]at a3;cases a3;cases b3;rw[hb.inj a9,z]
   have a2:∀y∈(es.filter (·.1==tupleKeyHash (intKind prog w) k)).toList.map (·.2),∃b k,y=.ref b/\IsTupleKey (intKind prog w) s.heap k b:=λy hy=>by
    obtain⟨e,h1,rfl⟩:=Qqw.mp hy;have h2:e∈es.toList:=by
     rw[Array.toList_filter]at h1;exact(Qxz.mp h1).1
    obtain⟨i',b2,e1⟩:=Qz4 h2;obtain⟨b',k1,e2,q⟩:=Z i' e (by rw[<- Qq0,Qql b2,e1]);exact⟨b',k1,by rw[e2],q⟩
   cases hl:t.led with
   |true=>
    simp only[Qkv,if_false];rw[Y];exact rest
   |false=>
    simp only[Bool.not_false];refine Qq (qi8 hx a2 ?_);simp only[Qzk];rw[Y];exact rest
end
section
def TS(prog:Program)(w:Qk)(h:Heap)(a:Ya)(S:List (List Int)):Prop:=∃o es ep t,h.get? a=Y2 o/\o.ExactSet/\o.data=.set es ep t/\SI t es/\Els prog w h es/\es.size=S.length/\
 (∀k,k∈S↔∃g b,(g,Value.ref b)∈es.toList/\IsTupleKey (intKind prog w) h k b)/\(t.mask=7->es.size<=4)
def qeq(O:h.get? a=Y2 o)(hd:o.data=.set es Y t)(L:Heap.SameBut a h h')(x:IsTupleKey (intKind prog w) h k b):IsTupleKey (intKind prog w) h' k b:=by
 obtain⟨o',q,n,F,U,z,hi⟩:=x;have J:b≠a:=by
  rintro rfl;obtain rfl:o'=o:=Option.some.inj (F.symm.trans O);rw[hd]at z; exact nomatch z
 exact⟨o',q,n,(L.2 b J).trans F,U,z,hi⟩
def qd6:SetTable.sizeAbove (SetTable.grown 5)=32:=by decide
def qgl(O:s.heap.get? a=Y2 o)(hd:o.data=.set es U t)(I:SI t es)(h5:es.size=5)(h:∀h' o' J L,Heap.SameBut a s.heap h'->h'.get? a=Y2 o'->(o.ExactSet->o'.ExactSet)->o'.data=.set J (U+1) L->SI L J->J.size=es.size->(∀e,e∈J.toList↔e∈es.toList)->L.mask=31->Q () { s with heap:=h' }):
  wpAny (model prog w) A (setRelay a (SetTable.grown 5)) Q E s:=by
 unfold setRelay;refine Qq (Zj O hd I.fits ?_);dsimp only;rw[Z9 (by rw[qd6]; decide)];obtain⟨L,F,Y,I',z,mem,mk⟩:=qnk (mv:=t.movedTo (SetTable.sizeAbove (SetTable.grown 5) - 1)) (.inr rfl) es (by lia);have er:t.relaid (es.map (·.1)) (SetTable.grown 5)=Y2 (L,F):=by
  unfold SetTable.relaid;rw[qd6]at Y ⊢;exact Y
 rw[er];refine Qq ?_
 change wpAny _ _ (do
  let Y2 (t,F):=(Y2 (L,F):Option (Qd×Array Nat))|unsupported "internal:set-table-without-room"
  let J:=F.filterMap (es[·]?)
  if J.size != es.size then unsupported "internal:set-table-lost-an-element"
  pure (J,t)) _ _ _
 dsimp only;have ez:((F.filterMap (es[·]?)).size != es.size)=false:=by rw[z]; simp
 rw[ez];simp only[Qzk];refine Qx ?_;refine wpAny_storeSet_of O hd ?_ (by rw[z,h5,Q5]; decide);have Z:(s.heap.update a (Obj.putSet (F.filterMap (es[·]?)) L)).get? a=Y2 { o with data:=.set (F.filterMap (es[·]?)) (U+1) L }:=by
  have:=Qxm (Obj.putSet (F.filterMap (es[·]?)) L) O (by rw[putSet_of _ _ hd]; rfl);rw[putSet_of _ _ hd]at this; exact this
 exact h _ _ _ _ (Heap.SameBut.update _ a _) Z (λq=>q) rfl I' z mem mk
def qna(h):(qzr m h).j+(qzr m h).more<=m:=by
 have hi:bits h % (m+1)<=m:=Qxb (Qjd _ (Qx4 _));obtain⟨z,q⟩:=qjl hi;show bits h % (m+1)+(runEnd m (bits h % (m+1)) - bits h % (m+1))<=m
 lia
def j_next(h:p.j+p.more<=m):(adv m p).j+(adv m p).more<=m:=by
 unfold adv
 split
 ·show p.j+1+(p.more - 1)<=m; lia
 ·have hi:(leap m p.i p.perturb).1<=m:=Qxb (Qjd _ (Qx4 _));obtain⟨z,q⟩:=qjl hi;show(leap m p.i p.perturb).1+(runEnd m (leap m p.i p.perturb).1 - (leap m p.i p.perturb).1)<=m
  lia
theorem j_stp:∀(n:Nat){p:Probe},p.j+p.more<=m->(stp m n p).j+(stp m n p).more<=m
 |0,_,h=>h
 |n+1,_,h=>j_stp n (j_next h)
def add_ok(hu:A.units<cLine)(hT:TS prog w s.heap a S)(hx:IsTupleKey (intKind prog w) s.heap k x)(hl:S.length<=15)(h:∀b h',Heap.SameBut a s.heap h'->TS prog w h' a (if k∈S then S else S++[k])->Q b { s with heap:=h' }):
  wpAny (model prog w) A (setAddHashed a (.ref x) (tupleKeyHash (intKind prog w) k)) Q E s:=by
 have c6:=hT;obtain⟨o,es,ep,t,ho,b3,hd,I,Z,a7,J,h4⟩:=hT;have a3:∀{e:Int×Yv},e∈es.toList->∃i:Nat,es[i]?=Y2 e:=λ{e} he=>by
  obtain⟨i,hi,e1⟩:=Qz4 he;exact⟨i,by rw[<- Qq0,Qql hi,e1]⟩
 unfold setAddHashed setAddHashedIn;refine Q2 (Qq (Zj ho hd I.fits ?_));dsimp only;have eb:byScan (.ref x) es=false:=rfl;rw[eb];simp only[Qzk];obtain⟨fr,c2,c3⟩:=some_free I.tb;obtain⟨N,hN,eN⟩:=hits I.tb.mask (Okp.start (tupleKeyHash (intKind prog w) k)) c2;refine Qq ?_;unfold setSearch;refine qv6 hu ho hd I Z hx (λn a2 U=>?_) (λb8=>?_) N (by rw[eN]; exact c3) 100000 0 Y3 rfl (Qzq _) ?_ (λm Y=>by lia)
 ·-- c9 element is new
  have a9:k ∉ S:=λhk=>by
   obtain⟨g,b,Y,hb⟩:=(J k).mp hk;obtain⟨i,hi⟩:=a3 Y;obtain⟨b',L,e',c5⟩:=Z i _ hi;have e1:=congrArg Prod.fst e';have e2:=Value.ref.inj (congrArg Prod.snd e');subst e2;obtain rfl:=hb.inj c5;exact qfr I a2 U i _ hi e1 _ b k hi rfl hb rfl
  have c0:es.size+1<=t.mask:=by
   rcases I.tb.mask with q|q
   ·have:=h4 q; lia
   ·lia
  have b0:(stp t.mask n (qzr t.mask (tupleKeyHash (intKind prog w) k))).j<=t.mask:=Qzl (Qjj _ _) (j_stp n (qna _));generalize hj:(stp t.mask n (qzr t.mask (tupleKeyHash (intKind prog w) k))).j=j at *;have I1:SI (t.put j).1 (insertAt es (t.put j).2 (tupleKeyHash (intKind prog w) k,Value.ref x)):=put_ok I b0 U ⟨n,hj,λm Y=>by obtain⟨i,hi,_⟩:=a2 m Y; exact⟨i,hi⟩⟩ c0;refine Qq (Zj ho hd I.fits ?_);have a8:(t.put j).2<=es.size:=by rw[qc8 I.tb,<- I.sz]; exact(qx4 I.tb.up).2.2
  have O:(t.put j).1.mask=t.mask:=by rw[qc8 I.tb]
  have z:(insertAt es (t.put j).2 (tupleKeyHash (intKind prog w) k,Value.ref x)).size=es.size+1:=qjw _ _ _ a8;have a0:∀e,e∈(insertAt es (t.put j).2 (tupleKeyHash (intKind prog w) k,Value.ref x)).toList↔e∈es.toList\/e=(tupleKeyHash (intKind prog w) k,Value.ref x):=λe=>qni a8;have b5:∀(h':Heap) (F:Array (Int×Yv)),Heap.SameBut a s.heap h'->(∀e,e∈F.toList↔e∈es.toList\/e=(tupleKeyHash (intKind prog w) k,Value.ref x))->
    Els prog w h' F/\∀L,L∈S++[k]↔∃g b,(g,Value.ref b)∈F.toList/\IsTupleKey (intKind prog w) h' L b:=λh' F sb Y=>by
   have kp:∀{b:Ya}{L:List Int},IsTupleKey (intKind prog w) s.heap L b->IsTupleKey (intKind prog w) h' L b:=λq=>qeq ho hd sb q;refine⟨λi e he=>?_,λL=>?_⟩
   ·rcases (Y e).mp (Qqm (by rw[Qq0]; exact he)) with q|q
    ·obtain⟨i',a4⟩:=a3 q;obtain⟨b,L,e',hb⟩:=Z i' _ a4;exact⟨b,L,e',kp hb⟩
    ·exact⟨x,k,q,kp hx⟩
   ·constructor
    ·intro hk;rcases Qqh.mp hk with q|q
     ·obtain⟨g,b,q1,q2⟩:=(J L).mp q;exact⟨g,b,(Y _).mpr (.inl q1),kp q2⟩
     ·rw[Qqy]at q;subst q;exact⟨_,x,(Y _).mpr (.inr rfl),kp hx⟩
    ·rintro⟨g,b,q1,q2⟩;rcases (Y _).mp q1 with q|q
     ·obtain⟨i',a4⟩:=a3 q;obtain⟨b',d0,e',hb⟩:=Z i' _ a4;have e2:=Value.ref.inj (congrArg Prod.snd e');subst e2;obtain rfl:=q2.inj (kp hb);exact Qzy _ ((J L).mpr ⟨g,b,q,hb⟩)
     ·have e2:=Value.ref.inj (congrArg Prod.snd q);subst e2;obtain rfl:=q2.inj (kp hx);exact Qqp _ (by simp)
  have a1:∀(b:Bool) (t2:Qd),SI t2 (insertAt es (t.put j).2 (tupleKeyHash (intKind prog w) k,Value.ref x))->t2.mask=t.mask->
    wpAny (model prog w) A (do
     storeSet a (insertAt es (t.put j).2 (tupleKeyHash (intKind prog w) k,Value.ref x)) t2
     if (!Y1&&t2.tooFull)=Y0 then do
      setRelay a (SetTable.grown (es.size+1))
      pure Y0
     else pure Y0) Q E s:=λb t2 I2 c1=>by
   refine Qq (wpAny_storeSet_of ho hd ?_ (by rw[z,Q5]; lia));have hg:(s.heap.update a (Obj.putSet (insertAt es (t.put j).2 (tupleKeyHash (intKind prog w) k,Value.ref x)) t2)).get? a=Y2 { o with data:=.set (insertAt es (t.put j).2 (tupleKeyHash (intKind prog w) k,Value.ref x)) (ep+1) t2 }:=by
    have:=Qxm (Obj.putSet (insertAt es (t.put j).2 (tupleKeyHash (intKind prog w) k,Value.ref x)) t2) ho (by rw[putSet_of _ _ hd]; rfl);rw[putSet_of _ _ hd]at this; exact this
   have sb:=Heap.SameBut.update s.heap a (Obj.putSet (insertAt es (t.put j).2 (tupleKeyHash (intKind prog w) k,Value.ref x)) t2);obtain⟨fe,fm⟩:=b5 _ _ sb a0;have b4:t2.tooFull=decide ((es.size+1)*5 >= t.mask*3):=by
    unfold SetTable.tooFull SetTable.fill;rw[I2.tb.dum,I2.sz,z,c1]; rfl
   rw[b4]
   by_cases b1:(es.size+1)*5 >= t.mask*3
   ·have m7:t.mask=7:=by
     rcases I.tb.mask with q|q
     ·exact q
     ·lia
    have e5:es.size+1=5:=by have:=h4 m7; lia
    simp only[Z7 b1,if_true];rw[e5];refine Qq (qgl hg rfl I2 (by rw[z,e5]) λh' o' F t' b6 b9 b2 c4 I' z' a6 b7=>Qx ?_);have a5:=sb.trans b6;obtain⟨c8,c7⟩:=b5 h' F a5 λe=>(a6 e).trans (a0 e);refine h Y0 h' a5 ?_;rw[Z9 a9];exact⟨o',F,_,t',b9,b2 b3,c4,I',c8,by rw[z',z,a7]; simp,c7,λq=>by rw[b7]at q; cases q⟩
   ·simp only[Z8 b1,if_false];refine Qx (h Y0 _ sb ?_);rw[Z9 a9];exact⟨_,_,_,t2,hg,b3,rfl,I2,fe,by rw[z,a7]; simp,fm,λq=>by rw[z]; lia⟩
  cases d1:(t.put j).1.plain with
  |true=>
   simp only[if_true];refine Qq (qa9 hx ?_);simp only[if_true];exact a1 Y0 _ I1 O
  |false=>
   simp only[ if_false];refine Qq (Qx ?_);simp only[if_true];exact a1 Y0 _ I1 O
 ·-- it is there
  refine Qx ?_;obtain⟨i,b,g,hi,hb⟩:=b8;have hk:=(J k).mpr ⟨g,b,Qqm (by rw[Qq0]; exact hi),hb⟩;have e:s={ s with heap:=s.heap }:=by cases s; rfl
  rw[e];exact h Y1 s.heap (Heap.SameBut.refl a s.heap) (by rw[Xq hk]; exact c6)
 ·have:t.mask<=31:=by rcases I.tb.mask with q|q<;>lia
  unfold SetTable.turns at hN
  lia
end
end ST
end
section
namespace ST
open PySem SetTable PyProof.Rows
noncomputable def addK(S:List (List Int))(k:List Int):List (List Int):=if k∈S then S else S++[k]
noncomputable def distinct(ks:List (List Int)):List (List Int):=ks.foldl addK []
def qoy(S)(k):(addK S k).length<=S.length+1:=by unfold addK; split<;>simp
theorem foldK_le:∀(l S:List (List Int)),(l.foldl addK S).length<=S.length+l.length
 |[],S=>by simp
 |k::l,S=>by
  have:=foldK_le l (addK S k);have:=qoy S k;rw[Qxy,Qqg]; lia
section
variable {prog:Program}{w:Qk}{A:Qv}{R:Result->Qz->Prop}{I:Ya}{fp wr:List Ya}{G:Array GenState->Array GenState->Prop}{n:Nat}{P:Nat->Yv->Prop}{St:Nat->Qz->Prop}
def TS.keeps(x:TS prog w h a S)(hk:∀b o,(b=a\/∃k,IsTupleKey (intKind prog w) h k b)->h.get? b=Y2 o->h'.get? b=Y2 o):TS prog w h' a S:=by
 obtain⟨o,es,ep,t,ho,a0,hd,I,L,Y,J,h4⟩:=x;have kp:∀{b:Ya}{F:List Int},IsTupleKey (intKind prog w) h F b->IsTupleKey (intKind prog w) h' F b:=λ{b F} q=>by
  obtain⟨o',z,n,Z,r⟩:=id q;exact⟨o',z,n,hk b o' (.inr ⟨F,q⟩) Z,r⟩
 refine⟨o,es,ep,t,hk a o (.inl rfl) ho,a0,hd,I,λi e he=>?_,Y,λk=>?_,h4⟩
 ·obtain⟨b,k,e',q⟩:=L i e he;exact⟨b,k,e',kp q⟩
 ·rw[J k];constructor
  ·rintro⟨g,b,O,U⟩; exact⟨g,b,O,kp U⟩
  ·rintro⟨g,b,O,U⟩;obtain⟨i,hi,e1⟩:=Qz4 O;obtain⟨b',F,e',q⟩:=L i (g,.ref b) (by rw[<- Qq0,Qql hi,e1]);have e2:=Value.ref.inj (congrArg Prod.snd e');subst e2;obtain rfl:=U.inj (kp q);exact⟨g,b,O,q⟩
def qm9(hu:A.in1.units<cLine)(W:WalksS prog w A.in1 I fp wr G n P St)(S)(b2:S ∉ fp)(a3:∀b∈wr,∀s i,St i s->¬ ∃k,IsTupleKey (intKind prog w) s.heap k b)(U)(hn:U.length=n)(c6:n<=16)(a4:∀i v,P i v->∃b,v=.ref b)(Kp:Qz->Prop)(c0:∀s i b,Kp s->P i (.ref b)->∃k,U[i]?=Y2 k/\IsTupleKey (intKind prog w) s.heap k b)(a9:∀s s',Kp s->(∀b o,(∃k,IsTupleKey (intKind prog w) s.heap k b)->s.heap.get? b=Y2 o->s'.heap.get? b=Y2 o)->Kp s'):
  ∀(k i:Nat) (s:Qz),n - i=k->i<=n->St i s->Kp s->TS prog w s.heap S ((U.take i).foldl addK [])->
   (∀s',Moved (S::wr) G s s'->TS prog w s'.heap S (distinct U)->R (.ok (.ret .none)) s')->
   Zh (model prog w) A (.builtin "set.update.loop" ⟨[.ref S,.ref I],[]⟩) R s:=by
 have c3:=λh=>b2 (W.sub _ h);have Z:∀b∈wr,b∈S::wr:=λb J=>Qqt _ J
 have a2:∀{s s':Qz}{i:Nat}{L:List (List Int)},St i s->Moved wr G s s'->TS prog w s.heap S L->TS prog w s'.heap S L:=λ{s s' i L} st hm x=>x.keeps λb o J ho=>hm.heap b o (λhw=>by
  rcases J with rfl|J
  ·exact c3 hw
  ·exact a3 b hw s i st J) ho
 intro k
 induction k with
 |zero=>
  intro i s hk hi O b5 hS hR;have c1:i=n:=by lia
  subst c1;refine Zf F.entry_set_update_loop ?_;rw[Around.under_plainId F.plain_set_update_loop _];refine Qq (W.done s _ _ O λs' hm=>Qx (hR s' (hm.mono Z) (a2 O hm ?_)));rw[<- hn,Qzu]at hS;exact hS
 |succ k ih=>
  intro i s hk hi O b5 hS hR;have a7:i<n:=by lia
  refine Zf F.entry_set_update_loop ?_;rw[Around.under_plainId F.plain_set_update_loop _];refine Qq (W.item i s _ _ a7 O λv s' hP a5 hm=>?_);obtain⟨b,rfl⟩:=a4 i v hP;have a0:=a9 s s' b5 λb' o J ho=>hm.heap b' o (λhw=>a3 b' hw s i O J) ho;obtain⟨key,b0,J⟩:=c0 s' i b a0 hP;have b4:=a2 O hm hS;refine Qq (Q2 ?_);unfold setAdd;refine Q2 ?_;refine Qq (wpAny_pyHash_tuple hu J ?_);have a8:((U.take i).foldl addK []).length<=15:=by
   have:=foldK_le (U.take i) [];rw[Qzz]at this;simp at this
   lia
  have b9:(U.take (i+1)).foldl addK []=addK ((U.take i).foldl addK []) key:=by
   rw[Qx6,b0,List.foldl_append]; rfl
  refine add_ok hu b4 J a8 λ_ h' a1 c5=>?_;have c4:TS prog w h' S ((U.take (i+1)).foldl addK []):=by rw[b9]; exact c5
  have b7:∀{b':Ya},(∃k,IsTupleKey (intKind prog w) s'.heap k b')->b'≠S:=λ{b'} ⟨k',q⟩ z=>by
   obtain⟨o,es,ep,t,ho,_,hd,_⟩:=b4;obtain⟨o',b8,m,Y,_,b1,_⟩:=q;rw[z]at Y;obtain rfl:o'=o:=Option.some.inj (Y.symm.trans ho);rw[hd]at b1; exact nomatch b1
  refine Qx ⟨plainId_quiet F.plain_set_update_loop _,ih (i+1) _ (by lia) a7 (W.frame _ s' _ _ a5 (Qjj _ _) λb J o e=>?_) (a9 s' _ a0 λb' o c2 Y=>(a1.2 b' (b7 c2)).trans Y) c4 λb6 a6 b3=>?_⟩
  ·rw[a1.2 b (λh:b=S=>b2 (by rw[<- h]; exact J))]; exact e
  ·refine hR b6 (Moved.trans W.gtrans ((hm.mono Z).then_heap (Qjj _ _) λb o J e=>?_) a6) b3;rw[a1.2 b (λh:b=S=>J (by rw[h]; exact Qq6))]; exact e
end
end ST
end
section
namespace ST
open PySem SetTable
def qf2:isSubtype (.type "tuple") (.type "set")=pure false:=by rw[Zl]; kernel_rfl
def qw5:isSubtype (.type "tuple") (.type "frozenset")=pure false:=by rw[Zl]; kernel_rfl
noncomputable abbrev bare(led:Bool):Obj:={ cls:=.type "set",dict:=Y3,data:=.set #[] 0 (.fresh 0 0 led) }
def Cells(prog:Program)(w:Qk)(h:Heap)(items:Array Yv)(ks:List (List Int)):Prop:=∀(i:Nat) (v:Yv),items[i]?=Y2 v->∃b k,v=.ref b/\ks[i]?=Y2 k/\IsTupleKey (intKind prog w) h k b
section
def qhc(calm:B.handled=Y3)(room:B.units+4<cLine)(tup:J.IsTuple l items)(L:Cells prog w J items ks)(n1:ks.length=items.size)(n2:items.size<=16)(hs:s.heap=J.push (bare F))(done:∀h1 k1,TS prog w h1 J.objs.size (distinct ks)->(∀b o,b<J.objs.size->J.get? b=Y2 o->h1.get? b=Y2 o)->Z (.done (.ret .none)) { s with heap:=h1,toks:=k1 }):
  wpAny (model prog w) B (Q0.«set.__init__» ⟨[.ref J.objs.size,.ref l],[]⟩) Z E s:=by
 obtain⟨hp,gs,dr,tk,os⟩:=s;subst hs;obtain⟨⟨tc,td,b1,b2⟩,t1,t2,nl,t3⟩:=id tup;subst t2 t3;have a5:(J.push (bare F)).get? J.objs.size=Y2 (bare F):=Qqc _ rfl;have a9:=Qqx (bare F) t1;have a1:=qf2;have a2:=qw5;have a3:(Value.type "tuple" == Value.type "dict")=false:=by decide
 have b4:Shared.TypeIs ⟨J.push (bare F),gs,dr,tk,os⟩ (.ref J.objs.size) "set":=⟨_,a5,rfl⟩
 have U:(J.push (bare F)).IsTuple l items:=⟨_,a9,rfl,nl,rfl⟩
 unfold Q0.«set.__init__» noKeywords Builtin.Frozenset.updateFrom;generalize ei:pyIter=b0
 wp_walk
 subst ei;refine wpAny_pyIter_tuple U (Qq (wpAny_runValue ?_));have a4:=Qqe t1;have sz:(J.push (bare F)).objs.size=J.objs.size+1:=Qz0 ..;have nI:l≠(J.push (bare F)).objs.size:=by rw[sz]; exact Qq1 (Qxi a4)
 have nS:J.objs.size ∉ [(J.push (bare F)).objs.size,l]:=by
  rw[sz];simp only[Qqa,Qzx,or_false,not_or];exact⟨Qq1 (Qzb _),Qxw a4⟩
 refine qm9 (by show B.units+1<cLine; lia) ((Walks.tuple (by simp[calm]) _ l nI items).toS) J.objs.size nS ?O ks n1 n2 (λi v hv=>?isRef)
  (λz=>∀(i:Nat) (b:Ya),items[i]?=Y2 (.ref b)->∃k,ks[i]?=Y2 k/\IsTupleKey (intKind prog w) z.heap k b) (λz i b q hp=>q i b hp) ?stay items.size 0 _ rfl (Qzq _) ⟨⟨_,Qqc _ rfl,rfl,rfl⟩,?a0⟩ ?keys ?empty ?fin
 case isRef=>obtain⟨b,_,e,_⟩:=L i v hv; exact⟨b,e⟩
 case a0=>obtain⟨ob,e1,e2⟩:=U; exact⟨ob,Qqx _ e1,e2⟩
 case O=>
  rintro b Y z i ⟨⟨ob,u1,_,u3⟩,_⟩ ⟨_,oc,_,_,v1,_,v3,_⟩;rw[Qqy.mp Y,u1]at v1;cases v1;rw[u3]at v3;cases v3
 case stay=>
  intro z1 z2 q keep i b Y;obtain⟨k,e,y⟩:=q i b Y;obtain⟨oc,it,m,v1,r⟩:=id y;exact⟨k,e,oc,it,m,keep b oc ⟨k,y⟩ v1,r⟩
 case keys=>
  intro i b Y;obtain⟨b',k,e,ek,oc,it,m,v1,r⟩:=L i _ Y;cases e;exact⟨k,ek,oc,it,m,Qqx _ (Qqx _ v1),r⟩
 case empty=>exact⟨_,#[],0,_,Qqx _ a5,⟨rfl,rfl,rfl⟩,rfl,qhg F,λi e he=>by simp at he,rfl,λk=>by simp,λ_=>by simp⟩
 case fin=>
  intro z mv q;obtain⟨h1,b5,b6,a6,b3⟩:=z;obtain⟨m1,rfl,rfl,rfl,_⟩:=mv;refine Qx (Qx (done h1 a6 q λb o Y e=>m1 b o ?_ (Qqx _ (Qqx _ e))));have a8:=Qq1 Y;have a7:b≠(J.push (bare F)).objs.size:=by rw[sz]; exact Qq1 (Qxi Y)
  simp only[Qqa,Qzx,or_false,not_or];exact⟨a8,a7⟩
end
section
theorem TS.size(x:TS prog w h a S)(J:S.length<=16):∃o es ep t,h.get? a=Y2 o/\o.ExactSet/\o.data=.set es ep t/\t.fits es.size=Y0/\(es.size:Int)<2 ^ 63/\es.size=S.length:=by
 obtain⟨o,es,ep,t,F,q,hd,I,_,z,_⟩:=x;exact⟨o,es,ep,t,F,q,hd,I.fits,by omega,z⟩
def set_call(calm:A.handled=Y3)(room:A.units+12<cLine)(tup:s.heap.IsTuple l L)(a0:Cells prog w s.heap L ks)(n1:ks.length=L.size)(n2:L.size<=16)(k:∀h1 Z,TS prog w h1 s.heap.objs.size (distinct ks)->(∀b o,b<s.heap.objs.size->s.heap.get? b=Y2 o->h1.get? b=Y2 o)->Q (.ref s.heap.objs.size) { s with heap:=h1,toks:=Z }):
  wpAny (model prog w) A (call (.type "set") [.ref l]) Q E s:=by
 have Y:=F.called_set;obtain⟨_,_,f1⟩:=Y.mro;have f2:=Y.made;have f3:=Y.sub;have f4:=Y.notType;have f5:=Y.canCreate;have f6:=F.typeCall_set_1 (.ref l);refine wpAny_call (codeAny_of_tree (Qx ⟨Code.quiet_builtin _ (by decide +kernel),Zf F.entry_type_call ?_⟩));rw[Around.under_plain (weight_type_call_type "set" [.ref l] []) rfl]
 repeat (any_goals (first|assumption|wp_step))
 refine Zk (code_set_new_1 (.ref l) (E:=E) (Q₁:=λob z=>∃O,ob=.ref s.heap.objs.size/\z={ s with heap:=s.heap.push (bare O) }) λO=>⟨O,rfl,rfl⟩) λr z U=>?_
 match r,U with
 |.error _,U=>exact U
 |.ok .next,U=>exact U.elim
 |.ok .brk,U=>exact U.elim
 |.ok .cont,U=>exact U.elim
 |.ok (.ret ob),U=>
  obtain⟨O,rfl,rfl⟩:=U;have a1:Shared.TypeIs { s with heap:=s.heap.push (bare O) } (.ref s.heap.objs.size) "set":=⟨_,Qqc _ rfl,rfl⟩
  have f7:=Y.init.lookup;have f8:=Y.init.bind (.ref s.heap.objs.size)
  repeat (any_goals (first|assumption|wp_step))
  refine Zk (codeAny_call_builtin (R:=wants (λr z=>r=.none/\∃h1 Z,z={ s with heap:=h1,toks:=Z }/\TS prog w h1 s.heap.objs.size (distinct ks)/\∀b o,b<s.heap.objs.size->s.heap.get? b=Y2 o->h1.get? b=Y2 o) E) Y.init.plain F.entry_set_init (check_set_init_1 a1 ?_)) λr2 z2 J=>?_
  ·exact qhc (by simp[calm]) (by show A.units+1+1+4<cLine; omega) tup a0 n1 n2 rfl λh1 Z q keep=>⟨rfl,h1,Z,rfl,q,keep⟩
  ·match r2,J with
   |.error _,J=>exact J
   |.ok .next,J=>exact J.elim
   |.ok .brk,J=>exact J.elim
   |.ok .cont,J=>exact J.elim
   |.ok (.ret _),J=>
    obtain⟨rfl,h1,Z,rfl,q,keep⟩:=J
    repeat (any_goals (first|assumption|wp_step))
    exact k h1 Z q keep
end
end ST
end
section
namespace MS
open PySem PySem.Spec PyProof.Rows L2
noncomputable def setO(a:Ya)(n:Nat):HO:=.ext λh=>∃o es ep t,h.get? a=Y2 o/\o.ExactSet/\o.data=.set es ep t/\t.fits es.size=Y0/\(es.size:Int)<2 ^ 63/\es.size=n
def qob(K:Qqq)(H:Hp):List V->List (List Int)->Prop:=Paired λy k=>∃q,y=.ref q/\SqT K H q (k.map V.int)
theorem items_int:∀{k}{q},Vals (k.map V.int) q->ItemsAre (intKind prog w) k q
 |[],_,h=>by cases h; exact .nil
 |i::k,_,h=>by
  cases h with
  |cons r t=>
   obtain⟨z,rfl⟩:=r;exact .cons (intKind_is _ _ _ _) (items_int t)
section
def qle(I:Inv X z J H s)(h:SqT X.K H q (k.map V.int)):IsTupleKey (intKind X.prog X.w) s.heap k q:=by
 obtain⟨F,r,⟨o,L,O,n,hd⟩,_⟩:=I.tuple h;exact⟨o,F.toArray,n,L,O,hd,items_int r⟩
theorem qa7(I:Inv X z L H s):∀{ys}{J}{F},qob X.K H ys J->Vals ys F->
  ∀(i:Nat) (v:Yv),F[i]?=Y2 v->∃b k,v=.ref b/\J[i]?=Y2 k/\IsTupleKey (intKind X.prog X.w) s.heap k b
 |_,_,_,.nil,r,i,v,e=>by cases r; simp at e
 |_,_,_,.cons (b:=k) h t,r,i,v,e=>by
  cases r with
  |cons U O=>
   obtain⟨q,rfl,Y⟩:=h
   cases i with
   |zero=>
    simp at e;subst e;cases U;exact⟨q,k,rfl,rfl,qle I Y⟩
   |succ i=>
    simp only[Qj7]at e ⊢;exact qa7 I t O i v e
def qfz(calm:X.A.handled=Y3)(room:X.A.units+64<cLine):qqh X (.type "set") (λxs H Q=>∃p ys ks,xs=[.ref p]/\SqT X.K H p ys/\qob X.K H ys ks/\ys.length<=16/\∀l,H l=Y3->Q (.ref l) (upd H l (setO l (ST.distinct ks).length))):=by
 intro pins s σ H xs us Q I r h;obtain⟨p,ys,ks,rfl,hq,U,hl,q⟩:=h;obtain⟨u,rfl,Z⟩:=vals1 r;cases Z;obtain⟨a0,r',⟨o,ho,z,n,hd⟩,hz⟩:=I.tuple hq;have l1:=r'.length;have l2:=Paired.length U;refine ST.set_call calm (by lia) ⟨o,ho,z,n,hd⟩ (λi v e=>qa7 I U r' i v (by simpa using e)) (by simp; lia) (by simp; lia) λh1 k1 T keep=>?_;have le:=ST.foldK_le ks []
 obtain⟨O,es,ep,t,Y,a2,a3,a4,a5,a6⟩:=T.size (by
  show(ks.foldl ST.addK []).length<=16
  simp at le; lia)
 refine⟨.ref s.heap.objs.size,_,I.laid (λb o e=>keep b o (Qqe e) e) (Qqj _) ?_,rfl,q _ (I.hok.fresh (Qqj _))⟩;exact⟨⟨O,es,ep,t,Y,a2,a3,a4,a5,a6⟩,⟨O,Y⟩,λh2 h3 ⟨L,F,J,t2,b1,b2⟩ kp=>⟨L,F,J,t2,kp L b1,b2⟩⟩
def qfk:qqh X (.builtin "len") (λxs H Q=>∃p n,xs=[.ref p]/\H p=Y2 (setO p n)/\Q (.int n) H):=by
 intro pins s σ H xs us Q I r h;obtain⟨p,n,rfl,F,q⟩:=h;obtain⟨u,rfl,z⟩:=vals1 r;cases z;obtain⟨⟨o,es,ep,t,Z,Y,U,O,L,J⟩,_⟩:=(I.hok p _ F)
 refine call_len_set Z Y U O L ?_;exact⟨.int n,H,I.kept (λb o e=>e),⟨_,by rw[J]⟩,q⟩
end
end MS
end
section
namespace MS
open PySem PySem.Spec PyProof.Rows L2
open M (D Yo)
section
theorem qan{K:Qqq}:∀{ds}{xs}{k},IsDs K m H ds xs->(ds.mapM λd=>match d with|.int i=>Y2 i|_=>Y3)=Y2 k->xs=k.map V.int
 |[],xs,k,h,e=>by
  simp at e;subst e;exact Qz1.mp h.length.symm
 |d::ds,xs,k,h,e=>by
  rw[Qkx]at e
  cases d with
  |int i=>
   obtain⟨x,r,rfl,h1,h2⟩:=h.cons
   cases q:(ds.mapM λd=>match d with|M.D.int i=>Y2 i|_=>Y3) with
   |none=>rw[q]at e; cases e
   |some z=>
    rw[q]at e;cases e;rw[h1.int,qan h2 q]; rfl
  |_=>exact nn e
theorem qez{K:Qqq}:∀{ds}{xs}{q},IsDs K m H ds xs->ds.mapM M.keyD=Y2 q->qob K H xs q
 |[],xs,q,h,e=>by
  simp at e;subst e;rw[Qz1.mp h.length.symm];exact .nil
 |d::ds,xs,q,h,e=>by
  rw[Qkx]at e
  cases d with
  |tup cs=>
   obtain⟨x,r,rfl,h1,h2⟩:=h.cons
   cases z:M.keyD (.tup cs) with
   |none=>rw[z]at e; cases e
   |some k=>
    cases F:ds.mapM M.keyD with
    |none=>rw[z,F]at e; cases e
    |some L=>
     rw[z,F]at e;cases e;obtain⟨J,ys,rfl,U,O⟩:=h1.tup;refine .cons ⟨J,rfl,?_⟩ (qez h2 F);rw[<- qan O z]; exact U
  |_=>exact nn e
end
end MS
end
section
namespace MS
open PySem PySem.Spec PyProof.Rows L2
open M (D Yc Yo Sl E S T Src Fn Out R)
def qbc(hc:X.calm=Y0)(S:CompScope X N src F)(hi:PI X tg L wi)(hg:∀C fp s H,PG (qzn X N F C fp s H) tg g)(ht:∀C fp s H,qcz (qzn X N F C fp s H) ifs tt)(he:∀C fp s H,PE (qzn X N F C fp s H) elt te)(hs:∀x,foldedSetIterable L X.env x=pure x)(hN:X.N.Nodup)(hx:X.N[i]?=Y2 x)(hl:Loc X.env.scope x)(hf:X.fn x=Y0\/X.env.scope.names.lookup x=Y2 .local)(a1:swapsWith (.ListComp elt [⟨tg,L,ifs,0⟩] F U) (Y2 (.Name x O)) pos.line X.env=pure Y0):
  PS X (.Assign [.Name x O] (.ListComp elt [⟨tg,L,ifs,0⟩] F U) pos) (tAsg (qgv src wi g tt te) (qyg i)):=by
 intro pins s σ H D I h;rw[exec_Assign_Name_used _ _ _ _ a1];refine Qq (wpAny_standAt (Qq ?_));refine Qq (Ql (wpAny_comprehension_free rfl hs (qwp S I) S.kind S.loc (thn (hi pins s σ H _ I h) λv s1 h1=>thn h1 λa7 s2 h2=>?_)) (λ_ s' hq=>Qx (Qx hq)) λ_ _ e=>e);obtain⟨it,fp,tn,J,H2,e,I2,T,Z,f2,W,w0,Y⟩:=h2;subst e;refine qku hc I2 T Z f2 S (λC=>hg C fp s2 H2) (λC=>ht C fp s2 H2) (λ_ C=>he C fp s2 H2) (λ_ _ _ _ _ z=>z.elim) W w0 Y ?_;intro Dd C s' H' a8 a4 nD I' fC hm;obtain⟨m',hn⟩:=hm;obtain⟨c0,c1,c2,c3,c4,c5⟩:=fC;refine wpAny_assign_Name (qv0 I' hN hx hl (show RelV (.ref Dd) (.ref Dd) from rfl) (λa6 a5 a2=>?_) hf);obtain⟨a,sb,ha⟩:=a2;have a3:C≠a:=by
  rcases ha with z|z
  ·rw[z]; exact c1
  ·exact λq=>c4 x a z q.symm
 exact⟨m',hn.sameBut sb a3,λh' a0=>⟨_,_,a5.turned (λb o hb e=>(a0.2 b hb).trans e) c0 c1 c3 c4 c5,a4 Dd nD⟩⟩
noncomputable def iSeq(K:Qqq)(tl:TE):TI:=λσ H R=>tl σ H λx H1=>(∃a,x=.ref a/\(((∃xs,SqL K H1 a xs)/\R (Itl K a) H1)\/((∃xs,SqT K H1 a xs)/\R (Itt K a) H1)))
def pi_seq(hl:PE X l tl):PI X tg l (iSeq X.K tl):=by
 intro pins s σ H R I h;refine thn (hl pins s σ H _ I h) λv F ⟨x,H1,z,Y,Z⟩=>?_;obtain⟨a,e,q⟩:=Z;subst e;cases Y;rcases q with⟨⟨xs,L⟩,q⟩|⟨⟨xs,L⟩,q⟩
 ·obtain⟨J,U,p,hz⟩:=z.list L;refine Zx p.isList ?_;refine⟨F.heap.objs.size,[F.heap.objs.size],_,_,H1,rfl,z.kept λb o e=>Qqx _ e,qck a _,⟨_,Qqc _ rfl,rfl,rfl⟩,λb O=>?_,q⟩;have e:b=F.heap.objs.size:=by simpa using O
  subst e;exact z.fpOk (Qqj _) (z.hok.fresh (Qqj _))
 ·obtain⟨J,U,p,hz⟩:=z.tuple L;refine wpAny_pyIter_tuple (p) ?_;refine⟨F.heap.objs.size,[F.heap.objs.size],_,_,H1,rfl,z.kept λb o e=>Qqx _ e,qbz a _,⟨_,Qqc _ rfl,rfl,rfl⟩,λb O=>?_,q⟩;have e:b=F.heap.objs.size:=by simpa using O
  subst e;exact z.fpOk (Qqj _) (z.hok.fresh (Qqj _))
structure Glo where
 cs:List (Yb×D)
 ds:List (Yb×List Yb×List D)
 /-- a method's place among the functions,its class,its name -/
 ms:List (Nat×Ya×Yb)
 /-- the classes -/
 cl:List (Yb×Ya)
 /-- attributes of instances -/
 ats:List (Ya×Yb)
structure Ctx where
 N:List Yb
 sc:Scope
 fns:List Yb
 glo:Glo
noncomputable def qov:M.B->String
 |.len=>"len"
 |.min=>"min"
 |.tuple=>"tuple"
 |.list=>"list"
 |.all=>"all"
 |.sorted=>"sorted"
 |.any=>"any"
 |.sum=>"sum"
noncomputable def bOk:M.B->Bool
 |.len=>Y0
 |.min=>Y0
 |.tuple=>Y0
 |.list=>Y0
 |.all=>Y0
 |.sorted=>Y0
 |.any=>Y0
 |.sum=>Y0
noncomputable def qbb(scope sc:Scope):Scope:={ scope with names:=scope.names.map λ(n,k)=>if (k==NameKind.free&&sc.kind==.function&&sc.names.lookup n==Y2 .cell) then(n,NameKind.cell) else(n,k) }
noncomputable def tlOk(N:List Yb)(sc:Scope)(t:T):Bool:=t.slots.all λi=>match N[i]? with
 |some x=>sc.names.lookup x==Y2 .local
 |none=>Y1
def qw6(h:tlOk N sc t=Y0):∀i∈t.slots,∀x,N[i]?=Y2 x->sc.names.lookup x=Y2 .local:=by
 intro i hi x q;unfold tlOk at h;have:=Qq8.mp h i hi;rw[q]at this;simpa using this
noncomputable def qhj(x:Yb):Bool:=!x.cps.toList.contains 46
def MTree(pa:Qj)(m:Yb)(apos:Pos)(ps:List Qj)(pos:Pos):Prop:=∀env,∃pl:Sem Bool,Qa (.Call (.Attribute pa m apos) ps [] pos) env=(do
 let ov <- Qa pa env
 standAt apos.atName
 let (f,first) <- holding [ov] (Z4 ov m pl)
 callWith pos f first (backTo pos (starEach ps env)) (backToKw pos (keywordEach [] env)))
noncomputable def isCd:E->Bool
 |.gc a=>isCd a
 |.cmpd ..=>Y0
 |_=>Y1
def Star(p:Qj):Prop:=∀es env,starEach (p::es) env=(Y1,Qa p env)::starEach es env
inductive CkTys (c:Ctx):List M.Ty->List Qj->Prop
 |nil:CkTys c [] []
 |cons {t ts ps pos} (ht:t≠.non) (hg:c.sc.names.lookup (Str.ofString t.name)=Y2 .globalImplicit) (h:CkTys c ts ps):CkTys c (t::ts) (.Name (Str.ofString t.name) pos::ps)
inductive CkTs (c:Ctx):List Nat->List Qj->Prop
 |nil:CkTs c [] []
 |cons {i x pos is es} (hN:c.N[i]?=Y2 x) (hl:c.sc.names.lookup x=Y2 .local\/c.sc.names.lookup x=Y2 .cell) (h:CkTs c is es):CkTs c (i::is) (.Name x pos::es)
inductive CkT (c:Ctx):T->Qj->Prop
 |tup {is es k pos} (h:CkTs c is es):CkT c (.tup is) (.Tuple es k pos)
 |var {i x pos} (hN:c.N[i]?=Y2 x) (hl:c.sc.names.lookup x=Y2 .local\/c.sc.names.lookup x=Y2 .cell):CkT c (.var i) (.Name x pos)
noncomputable def gcOk:Qj->Bool
 |.Call _ _ _ _=>Y0
 |.ListComp _ _ _ _=>Y0
 |.List _ _=>Y0
 |.BinOp _ _ _ _=>Y0
 |.Subscript _ _ _=>Y0
 |_=>Y1
inductive CkL (R:E->Qj->Prop):List E->List Qj->Prop
 |nil:CkL R [] []
 |cons {e es p ps} (h:R e p) (t:CkL R es ps):CkL R (e::es) (p::ps)
inductive CkP (R:E->Qj->Prop):List E->List (Option Qj)->List Qj->Prop
 |nil:CkP R [] [] []
 |cons {k v es pk pv ks vs} (hk:R k pk) (hv:R v pv) (t:CkP R es ks vs):CkP R (k::v::es) (Y2 pk::ks) (pv::vs)
inductive CkO (R:E->Qj->Prop):Option E->Option Qj->Prop
 |none:CkO R Y3 Y3
 |some {e p} (h:R e p):CkO R (Y2 e) (Y2 p)
inductive CkI (R:E->Qj->Prop):Ctx->Qj->E->Qj->Prop
 |rng1 {c tg a pa p0 pos} (hg:c.sc.names.lookup ("range" : Yb)=Y2 .globalImplicit) (ha:R a pa):CkI R c tg (.rng1 a) (.Call (.Name "range" p0) [pa] [] pos)
 |rng2 {c tg a b pa pb p0 pos} (hg:c.sc.names.lookup ("range" : Yb)=Y2 .globalImplicit) (ha:R a pa) (hb:R b pb):CkI R c tg (.rng2 a b) (.Call (.Name "range" p0) [pa,pb] [] pos)
 |zip {c es k tp a b pa pb p0 pos} (hg:c.sc.names.lookup ("zip" : Yb)=Y2 .globalImplicit) (ha:R a pa) (hb:R b pb):CkI R c (.Tuple es k tp) (.zip a b) (.Call (.Name "zip" p0) [pa,pb] [] pos)
 |enu {c es k tp a pa p0 pos} (hg:c.sc.names.lookup ("enumerate" : Yb)=Y2 .globalImplicit) (ha:R a pa):CkI R c (.Tuple es k tp) (.enu a) (.Call (.Name "enumerate" p0) [pa] [] pos)
 |rev {c tg a pa p0 pos} (hg:c.sc.names.lookup ("reversed" : Yb)=Y2 .globalImplicit) (ha:R a pa):CkI R c tg (.rev a) (.Call (.Name "reversed" p0) [pa] [] pos)
 |seq {c tg e p} (h:R e p):CkI R c tg e p
noncomputable abbrev inOp(neg:Bool):CmpOp:=if neg then .NotIn else .In
noncomputable abbrev Ctx.inn(c:Ctx)(N:List Yb)(sc:Scope):Ctx:=⟨N,qbb sc c.sc,c.fns,c.glo⟩
structure CpOk (c:Ctx) (sc:Scope) (sr:List (Option Nat)) (N:List Yb) (iter:Qj) (t:T):Prop where
 kind:sc.kind=.function
 cell:∀y∈sc.names,y.2≠.cell
 free:∀y∈sc.names,y.2=.free->c.sc.names.lookup y.1=Y2 .cell\/c.sc.names.lookup y.1=Y2 .free
 loc:∀y∈sc.names,y.2=.local->sc.names.lookup y.1=Y2 .local
 len:sr.length=N.length
 src:∀(j i:Nat),sr[j]?=Y2 (Y2 i)->∃x,N[j]?=Y2 x/\c.N[i]?=Y2 x/\sc.names.lookup x=Y2 .free
 nd:N.Nodup
 fs:∀env x,foldedSetIterable iter env x=pure x
 tl:tlOk N (qbb sc c.sc) t=Y0
noncomputable def boT(op:BoolOp)(pos:Pos):List Qj->Qj
 |[p]=>p
 |ps=>.BoolOp op ps pos
noncomputable def mName:M.Mt->Yb
 |.append=>"append"
 |.extend=>"extend"
 |.index=>"index"
 |.insert=>"insert"
noncomputable def shOk:Qj->Bool
 |.Starred ..=>Y1
 |.Slice ..=>Y1
 |.Set ..=>Y1
 |.SetComp ..=>Y1
 |.DictComp ..=>Y1
 |.Call (.Name _ _) [] _ _=>Y1
 |_=>Y0
noncomputable def qv8:E->Bool
 |.rng1 _=>Y1
 |.rng2 _ _=>Y1
 |.zip _ _=>Y1
 |.enu _=>Y1
 |.rev _=>Y1
 |_=>Y0
inductive CkV:Ctx->E->Yb->Prop
 |var {c i x} (hN:c.N[i]?=Y2 x) (hv:Vis c.sc x) (hd:(x==("__debug__" : Yb))=Y1) (hcd:(x==("__classdict__" : Yb))=Y1):CkV c (.var i) x
 |glo {c x d} (hg:c.sc.names.lookup x=Y2 .globalImplicit) (hm:(x,d)∈c.glo.cs) (hd:(x==("__debug__" : Yb))=Y1):CkV c (.glo x d) x
inductive CkG (R:Ctx->E->Qj->Prop):Ctx->E->Qj->Prop
 |nm {c a x pos} (h:CkV c a x):CkG R c a (.Name x pos)
 |int {c i j pos}:CkG R c (.lit (.int i)) (.Constant (.int i) j pos)
 |bl {c i j pos}:CkG R c (.lit (.bl i)) (.Constant (.bool i) j pos)
 |non {c j pos}:CkG R c (.lit .non) (.Constant .none j pos)
 |str {c i j pos}:CkG R c (.lit (.str i)) (.Constant (.str i) j pos)
 |bin {c op a b pa pb pos} (ha:R c a pa) (hb:R c b pb):CkG R c (.bin op a b) (.BinOp pa op pb pos)
 |lenset {c a pa p0 p1 pos1 pos} (hg:c.sc.names.lookup ("len" : Yb)=Y2 .globalImplicit) (hs:c.sc.names.lookup ("set" : Yb)=Y2 .globalImplicit) (ha:R c a pa):CkG R c (.lenset a) (.Call (.Name "len" p0) [.Call (.Name "set" p1) [pa] [] pos1] [] pos)
 |neg {c a pa pos} (ha:R c a pa):CkG R c (.neg a) (.UnaryOp .USub pa pos)
 |not {c a pa pos} (ha:R c a pa):CkG R c (.not a) (.UnaryOp .Not pa pos)
 |cmp {c op a b pa pb pos} (ha:R c a pa) (hb:R c b pb):CkG R c (.cmp op a b) (.Compare pa [op] [pb] pos)
 |cmp2 {c op op' a b d pa pb pd pos} (ha:R c a pa) (hb:R c b pb) (hd:R c d pd):CkG R c (.cmp2 op op' a b d) (.Compare pa [op,op'] [pb,pd] pos)
 |ite {c q a b pq pa pb pos} (hq:R c q pq) (ha:R c a pa) (hb:R c b pb):CkG R c (.ite q a b) (.IfExp pq pa pb pos)
 |tup {c es ps k pos} (h:CkL (R c) es ps):CkG R c (.tup es) (.Tuple ps k pos)
 |lst {c es ps pos} (h:CkL (R c) es ps):CkG R c (.lst es) (.List ps pos)
 |idx {c a b pa pb pos} (ha:R c a pa) (hb:R c b pb):CkG R c (.idx a b) (.Subscript pa pb pos)
 |call {c f x es p ps p0 pos} (hg:c.sc.names.lookup x=Y2 .globalImplicit) (hf:c.fns[f]?=Y2 x) (hd:(x==("__debug__" : Yb))=Y1) (hn:qhj x=Y0) (h:CkL (R c) es (p::ps)):CkG R c (.call f es) (.Call (.Name x p0) (p::ps) [] pos)
 |bcall {c b es p ps p0 pos} (hg:c.sc.names.lookup (Str.ofString (qov b))=Y2 .globalImplicit) (hb:bOk b=Y0) (h:CkL (R c) es (p::ps)):CkG R c (.bcall b es) (.Call (.Name (Str.ofString (qov b)) p0) (p::ps) [] pos)
 |isi1 {c t a pa p0 p1 pos} (hg:c.sc.names.lookup ("isinstance" : Yb)=Y2 .globalImplicit) (ht:t≠.non) (hgt:c.sc.names.lookup (Str.ofString t.name)=Y2 .globalImplicit) (ha:R c a pa):CkG R c (.isi a [t] Y1) (.Call (.Name "isinstance" p0) [pa,.Name (Str.ofString t.name) p1] [] pos)
 |isiN {c ts a pa p0 ps k p1 pos} (hl:ts.length<=1000) (hg:c.sc.names.lookup ("isinstance" : Yb)=Y2 .globalImplicit) (ht:CkTys c ts ps) (ha:R c a pa):CkG R c (.isi a ts Y0) (.Call (.Name "isinstance" p0) [pa,.Tuple ps k p1] [] pos)
 |ttup {c es ps k pos} (h:CkL (R c) es ps):CkG R c (.ttup es) (.Tuple ps k pos)
 |tsli {c a lo hi pa pl ph p2 pos} (ha:R c a pa) (hl:CkO (R c) lo pl) (hh:CkO (R c) hi ph):CkG R c (.tsli a lo hi) (.Subscript pa (.Slice pl ph Y3 p2) pos)
 |tdn {c pos}:CkG R c .tdn (.Dict [] [] pos)
 |tdx {c a b pa pb pos} (ha:R c a pa) (hb:R c b pb):CkG R c (.tdx a b) (.Subscript pa pb pos)
 |tdg {c a b d pa pb pd apos cpos} (ha:R c a pa) (hb:R c b pb) (hd:R c d pd) (hl:(apos.endLine==cpos.line)=Y0):CkG R c (.tdg a b d) (.Call (.Attribute pa "get" apos) [pb,pd] [] cpos)
 |dgt {c a b pa pb apos cpos} (ha:R c a pa) (hb:R c b pb) (hl:(apos.endLine==cpos.line)=Y0):CkG R c (.dgt a b) (.Call (.Attribute pa "get" apos) [pb] [] cpos)
 |dic0 {c pos}:CkG R c (.dic []) (.Dict [] [] pos)
 |dic {c es k v ks vs pos} (h:CkP (R c) es (k::ks) (v::vs)) (h15:(k::ks).length<=15):CkG R c (.dic es) (.Dict (k::ks) (v::vs) pos)
 |didx {c a b pa pb pos} (ha:R c a pa) (hb:R c b pb):CkG R c (.didx a b) (.Subscript pa pb pos)
 |gidx {c x ks ds b pb p0 pos} (hg:c.sc.names.lookup x=Y2 .globalImplicit) (hm:(x,ks,ds)∈c.glo.ds) (hd:(x==("__debug__" : Yb))=Y1) (hb:R c b pb):CkG R c (.gidx x ks ds b) (.Subscript (.Name x p0) pb pos)
 |sli {c a lo hi pa pl ph p2 pos} (ha:R c a pa) (hl:CkO (R c) lo pl) (hh:CkO (R c) hi ph):CkG R c (.sli a lo hi) (.Subscript pa (.Slice pl ph Y3 p2) pos)
 |attr {c C a f pa pos} (ha:R c a pa) (hc:(C,f)∈c.glo.ats):CkG R c (.attr C a f) (.Attribute pa f pos)
 |mcall {c C f m x cn a es pa ps apos pos} (ha:R c a pa) (hf:c.fns[f]?=Y2 x) (hm:(f,C,m)∈c.glo.ms) (hc:(cn,C)∈c.glo.cl) (h:CkL (R c) es ps) (hn:ps.length<30) (hl:(apos.endLine==pos.line)=Y0):CkG R c (.mcall C f m a es) (.Call (.Attribute pa m apos) ps [] pos)
 |new {c C f x cn es p ps p0 pos} (hg:c.sc.names.lookup cn=Y2 .globalImplicit) (hf:c.fns[f]?=Y2 x) (hm:(f,C,("__init__" : Yb))∈c.glo.ms) (hc:(cn,C)∈c.glo.cl) (hd:(cn==("__debug__" : Yb))=Y1) (h:CkL (R c) es (p::ps)):CkG R c (.new C f es) (.Call (.Name cn p0) (p::ps) [] pos)
 |and {c a b pa pb r pos} (ha:R c a pa) (hb:R c b (boT .And pos (pb::r))):CkG R c (.and a b) (.BoolOp .And (pa::pb::r) pos)
 |or {c a b pa pb r pos} (ha:R c a pa) (hb:R c b (boT .Or pos (pb::r))):CkG R c (.or a b) (.BoolOp .Or (pa::pb::r) pos)
 |meth {c a k es pa p ps apos cpos} (ha:R c a pa) (h:CkL (R c) es (p::ps)) (hn:(p::ps).length<30) (hl:(apos.endLine==cpos.line)=Y0):CkG R c (.meth a k es) (.Call (.Attribute pa (mName k) apos) (p::ps) [] cpos)
 |comp {c t it q elt sr tg iter pq pelt scope pos N} (ok:CpOk c scope sr N iter t) (hi:CkI (R c) c tg it iter) (ht:CkT (c.inn N scope) t tg) (hq:CkO (R (c.inn N scope)) q pq) (he:R (c.inn N scope) elt pelt):CkG R c (.comp t it q elt sr) (.ListComp pelt [⟨tg,iter,pq.toList,0⟩] scope pos)
 |cmpd {c t a q elt sr tg iter pq pelt scope pos N} (ok:CpOk c scope sr N iter t) (hi:R c a iter) (ht:CkT (c.inn N scope) t tg) (hq:CkO (R (c.inn N scope)) q pq) (he:R (c.inn N scope) elt pelt):CkG R c (.cmpd t a q elt sr) (.ListComp pelt [⟨tg,iter,pq.toList,0⟩] scope pos)
 |unt {c a x pos} (h:CkV c a x):CkG R c (.unt a) (.Name x pos)
 |tdi {c neg a b pa pb pos} (ha:R c a pa) (hb:R c b pb):CkG R c (.tdi neg a b) (.Compare pa [inOp neg] [pb] pos)
 |din {c neg a b pa pb pos} (ha:R c a pa) (hb:R c b pb):CkG R c (.din neg a b) (.Compare pa [inOp neg] [pb] pos)
 |gin {c neg x ks ds b pb p0 pos} (hg:c.sc.names.lookup x=Y2 .globalImplicit) (hm:(x,ks,ds)∈c.glo.ds) (hd:(x==("__debug__" : Yb))=Y1) (hb:R c b pb):CkG R c (.gin neg x ks b) (.Compare pb [inOp neg] [.Name x p0] pos)
inductive CkF (R:Ctx->E->Qj->Prop):Ctx->E->Qj->Prop
 |of {c e p} (hs:shOk p=Y0) (hq:qv8 e=Y0) (h:CkG R c e p):CkF R c e p
 |gc {c a p} (hs:shOk p=Y0) (hq:qv8 a=Y0) (hp:gcOk p=Y0) (hg:∀b,a≠.gc b) (h:CkG R c a p):CkF R c (.gc a) p
noncomputable def CkN:Nat->Ctx->E->Qj->Prop
 |0=>λ_ _ _=>False
 |j+1=>CkF (CkN j)
abbrev CkE:=CkN 30
mutual
inductive CkS:Ctx->S->Stmt->Prop
 |set {c i e x p pos pos'} (hN:c.N[i]?=Y2 x) (hl:c.sc.names.lookup x=Y2 .local\/c.sc.names.lookup x=Y2 .cell) (h:CkE c e p) (hs:∀env,swapsWith p (Y2 (.Name x pos')) pos.line env=pure Y1):CkS c (.set (.var i) e) (.Assign [.Name x pos'] p pos)
 |setC {c i e x p pos pos'} (hN:c.N[i]?=Y2 x) (hl:c.sc.names.lookup x=Y2 .local\/c.sc.names.lookup x=Y2 .cell) (h:CkE c e p) (hcd:isCd e=Y1) (hc:∃elt gs sc q,p=.ListComp elt gs sc q) (hs:∀env:Env,env.scope=c.sc->(swapsWith p (Y2 (.Name x pos')) pos.line env=pure Y1\/swapsWith p (Y2 (.Name x pos')) pos.line env=pure Y0)):CkS c (.set (.var i) e) (.Assign [.Name x pos'] p pos)
 |dset {c a i e pa pi pe tpos pos} (ha:CkE c a pa) (hi:CkE c i pi) (he:CkE c e pe):CkS c (.dset a i e) (.Assign [.Subscript pa pi tpos] pe pos)
 |tds {c a i e pa pi pe tpos pos} (ha:CkE c a pa) (hi:CkE c i pi) (he:CkE c e pe):CkS c (.tds a i e) (.Assign [.Subscript pa pi tpos] pe pos)
 |expr {c e p pos} (h:CkE c e p) (hs:∀env,swapsWith p Y3 pos.line env=pure Y1):CkS c (.expr e) (.Expr p pos)
 |ret {c e p pos} (h:CkE c e p):CkS c (.ret e) (.Return (Y2 p) pos)
 |ite {c q a b pq pa pb pos} (hq:CkE c q pq) (ha:CkSs c a pa) (hb:CkSs c b pb):CkS c (.ite q a b) (.If pq pa pb pos)
 |forr {c t it body tg iter pb pos} (ht:CkT c t tg) (hi:CkI (CkE c) c tg it iter) (hs:∀env x,foldedSetIterable iter env x=pure x) (hb:CkSs c body pb):CkS c (.forr t it body) (.For tg iter pb [] pos)
 |setA {c C a f e pa pe tpos pos} (ha:CkE c a pa) (he:CkE c e pe) (hc:(C,f)∈c.glo.ats):CkS c (.setA C a f e) (.Assign [.Attribute pa f tpos] pe pos)
 |ford {c t a body tg pa pb pos} (ht:CkT c t tg) (ha:CkE c a pa) (hb:CkSs c body pb):CkS c (.ford t a body) (.For tg pa pb [] pos)
 |bad {c p}:CkS c .bad p
inductive CkSs:Ctx->List S->List Stmt->Prop
 |nil {c}:CkSs c [] []
 |cons {c s ss p ps} (h:CkS c s p) (t:CkSs c ss ps):CkSs c (s::ss) (p::ps)
 |doc {c ss x j pos pos' ps} (t:CkSs c ss ps):CkSs c ss (.Expr (.Constant (.str x) j pos) pos'::ps)
end
def qlt(h:shOk p=Y0):Star p:=λes env=>by cases p<;>first|rfl|cases h
def CkN.sh(h:CkN j c e p):shOk p=true:=by
 cases j with
 |zero=>cases h
 |succ j=>
  cases h with
  |of q=>exact q
  |gc q=>exact q
def CkN.star(h:CkN j c e p):Star p:=qlt h.sh
def sh_sw(h:shOk p=Y0)(l)(env):swapsWith p (Y2 (.Subscript a i q)) l env=pure false:=by
 cases p<;>first|rfl|cases h
def sh_swA(h:shOk p=Y0)(l)(env):swapsWith p (Y2 (.Attribute a f q)) l env=pure false:=by
 cases p<;>first|rfl|cases h
def qgd(h:shOk p=Y0)(o i):subscripted p Y1 o i=operate [o,i] (Za o i):=by
 cases p<;>first|rfl|cases h
def qv4(h:shOk p=Y0)(q):Zn q p=false:=by
 cases p<;>first|rfl|cases h
def qlu(h:shOk p=Y0)(env)(x):foldedSetIterable p env x=pure x:=by
 cases p<;>first|rfl|cases h
def qjh(h:shOk p=Y0)(a)(env)(w):Q8 p a env w=w:=by
 cases p with
 |Call f ps ks pos=>
  cases f with
  |Name x q=>
   cases ps with
   |nil=>cases h
   |cons _ _=>rfl
  |_=>rfl
 |_=>rfl
theorem qia:∀{ps},ps.all shOk=Y0->(backTo pos (starEach ps env)).all (λx=>!x.1)=Y0
 |[],_=>rfl
 |p::r,h=>by
  rw[Qzn,Qqo]at h;have e:backTo pos (starEach (p::r) env)=(Y1,Qa p env)::backTo pos (starEach r env):=by
   cases p<;>first|rfl|cases h.1
  rw[e,Qzn,qia h.2]
  rfl
def sh_mt(h:shOk z=Y0)(J:ps.all shOk=Y0)(O:ps.length<30)(L:(q.endLine==pos.line)=Y0):MTree z m q ps pos:=by
 intro env;refine⟨(do return (<- importBound z env).getD Y0),?_⟩
 have e:Qa (.Call (.Attribute z m q) ps [] pos) env=(do
  let F <- Q8 z m env (Qa z env)
  standAt q.atName
  methodCall z m q pos env F (ps.length+0) (backTo pos (starEach ps env)) (backToKw pos (keywordEach [] env))):=rfl
 have f:methodCallForm (ps.length+0) (backTo pos (starEach ps env)) (backToKw pos (keywordEach [] env))=true:=by
  unfold methodCallForm;rw[qia J];simpa[keywordEach,backToKw] using O
 rw[e,qjh h];unfold methodCall calleeOf methodCallPos;rw[f,L]
 rfl
theorem CkL.sh(h:CkL (CkN j c) es ps):ps.all shOk=true:=by
 induction h with
 |nil=>rfl
 |cons h _ t=>rw[Qzn,h.sh,t]; rfl
noncomputable def spN(K:Qqq)(fns:List Fn)(n f:Nat):Sp:=λvs H Q _=>∃m st ds d st',Rel K m st H/\IsDs K m H ds vs/\M.callD fns n f ds st=Y2 (d,st')/\Post K m H d st' Q
def Lc(K:Qqq)(mg:Yb->Option Yv)(glo:Glo)(f:Nat)(x:Yb)(fa:Ya):Prop:=(qhj x=Y0->mg x=Y2 (.ref fa))/\∀C m,(f,C,m)∈glo.ms->Meth K C m fa
def FTab(P:Program)(w:Qk)(K:Qqq)(mg:Yb->Option Yv)(base:Heap)(glo:Glo)(fns:List Fn)(names:List Yb)(n:Nat):Prop:=∀(f:Nat) (x:Yb),names[f]?=Y2 x->∃(fa:Ya) (fd:Qr) (ps:List Yb),
 Lc K mg glo f x fa/\FnOk P w K mg base CX0 (2*n) fa fd ps (spN K fns n f)/\Qzp K (.ref fa)=Y0/\Binds K fd ps []
noncomputable abbrev bNm:List Yb:=["len","min","max","tuple","list","all","sorted","isinstance","range","int","bool","str","zip","any","enumerate","reversed","sum","set"]
structure Mo (K:Qqq) (mg:Yb->Option Yv) (glo:Glo) (prm:Qs):Prop where
 cls:∀cn C,(cn,C)∈glo.cl->mg cn=Y2 (.ref C)/\Cls K C/\PySem.W.makesIn K C=Y0/\Qzp K (.ref C)=Y0
 ats:∀C f,(C,f)∈glo.ats->Cls K C/\NoAttr K C f
 gds:∀x ks ds,(x,ks,ds)∈glo.ds->∃a,mg x=Y2 (.ref a)/\FDict prm K a ks ds
 glo:∀x d,(x,d)∈glo.cs->∃u v,mg x=Y2 u/\RelV v u/\∀m H,IsD K m H d v
 no:∀x∈bNm,mg x=Y3
structure Good (fns:List Fn) (dl:Nat) (c:Ctx) (X:Cx):Prop where
 room:Room (2*dl+1) X.A
 calm:X.calm=Y0
 N:X.N=c.N
 sc:X.env.scope=c.sc
 nd:c.N.Nodup
 kind:c.sc.kind=.function
 tab:FTab X.prog X.w X.K X.mg X.base c.glo fns c.fns dl
 mo:Mo X.K X.mg c.glo X.w.params
 xe:X.xe=λ_ _=>False
theorem Good.no{dl:Nat}(G:Good fns dl c X)(h:bNm.contains x=Y0):X.mg x=none:=G.mo.no x (List.contains_iff_mem.mp h)
end MS
end
section
namespace MS
open PySem PySem.Spec PyProof.Rows L2
open M (D Yc Yo Sl E S T Src Fn Out R)
theorem qq9:∀{es}{ps},CkL (CkN j c) es ps->∀(pos:Pos) (env:Env),(backTo pos (starEach ps env)).any (·.1)=Y1
 |_,_,.nil,_,_=>rfl
 |_,_,.cons h t,pos,env=>by
  rw[h.star];show(Y1||(backTo pos (starEach _ env)).any (·.1))=Y1;rw[qq9 t pos env]
  rfl
def Good.gl{dl:Nat}(G:Good fns dl c X)(h:c.sc.names.lookup x=Y2 .globalImplicit):Gl X x:=by
 show X.env.scope.names.lookup x=_;rw[G.sc]; exact h
def qba(h:env.scope=sc):relabel q env=qbb q sc:=by
 unfold relabel qbb Env.kindOf;rw[h]
def Good.inner{fns:List Fn}{dl:Nat}{c:Ctx}{X:Cx}(G:Good fns dl c X){N:List Yb}{q:Scope}{C:Ya}{fp:List Ya}{s:Qz}{H:Hp}(F:q.kind=.function)(z:N.Nodup):Good fns dl ⟨N,qbb q c.sc,c.fns,c.glo⟩ (qzn X N q C fp s H):=
 ⟨G.room,G.calm,rfl,qba G.sc,z,F,G.tab,G.mo,rfl⟩
noncomputable def IsRow(K:Qqq)(m:List Ya)(H:Hp)(k:RK)(a:Ya):D->Prop
 |.tup ds=>k=.tup/\∃xs,SqT K H a xs/\IsDs K m H ds xs
 |.loc l=>k=.lst/\m[l]?=Y2 a
 |.lst ds=>k=.lst/\∃xs,SqF K H a xs/\IsDs K m H ds xs
 |_=>False
def IsRow.mono{K:Qqq}(h:IsRow K m H k a d)(b:Sub m z)(t:Tr H H'):IsRow K z H' k a d:=by
 cases d with
 |tup ds=>obtain⟨e,xs,q,r⟩:=h; exact⟨e,xs,t.sqT q,qzb b t ds xs r⟩
 |loc l=>exact⟨h.1,b l a h.2⟩
 |lst ds=>obtain⟨e,xs,q,r⟩:=h; exact⟨e,xs,t.sqF q,qzb b t ds xs r⟩
 |_=>exact h.elim
theorem IsRow.sq{K:Qqq}{st:Yo}(h:IsRow K m H k a d)(L:Rel K m st H)(e:M.rowAt st d=Y2 ds):∃xs,k.sq K H a xs/\IsDs K m H ds xs:=by
 cases d with
 |tup es=>
  cases e;obtain⟨rfl,xs,q,r⟩:=h;exact⟨xs,q,r⟩
 |loc l=>
  obtain⟨rfl,J⟩:=h;obtain⟨O,xs,F,z,q,r⟩:=L.list e (qhv J);cases z;exact⟨xs,q,r⟩
 |lst es=>
  cases e;obtain⟨rfl,xs,q,r⟩:=h;exact⟨xs,q.sq,r⟩
 |_=>exact h.elim
def qvy{K:Qqq}{st:Yo}(z:MS.IsD K m H d v)(J:Rel K m st H)(e:M.rowAt st d=Y2 ds):∃k a,v=.ref a/\IsRow K m H k a d/\∃xs,k.sq K H a xs:=by
 cases d with
 |tup es=>
  obtain⟨a,xs,rfl,q,r⟩:=z.tup;exact⟨.tup,a,rfl,⟨rfl,xs,q,r⟩,xs,q⟩
 |loc l=>
  obtain⟨a,xs,F,rfl,q,r⟩:=J.list e z;exact⟨.lst,a,rfl,⟨rfl,F⟩,xs,q⟩
 |lst es=>
  obtain⟨a,xs,rfl,q,r⟩:=z.lst;exact⟨.lst,a,rfl,⟨rfl,xs,q,r⟩,xs,q.sq⟩
 |_=>exact nn e
def IsRow.sq'{K:Qqq}{st:Yo}(h:IsRow K m H .lst a d)(q:Rel K m st H)(e:M.seqAt st d=Y2 ds):∃xs,SqL K H a xs/\IsDs K m H ds xs:=by
 cases d with
 |loc l=>exact h.sq q e
 |lst l=>exact h.sq q e
 |_=>exact nn e
def qwc{K:Qqq}{st:Yo}(z:MS.IsD K m H d v)(J:Rel K m st H)(e:M.seqAt st d=Y2 ds):∃a,v=.ref a/\IsRow K m H .lst a d/\∃xs,SqL K H a xs:=by
 cases d with
 |loc l=>
  obtain⟨a,xs,F,rfl,q,r⟩:=J.list e z;exact⟨a,rfl,⟨rfl,F⟩,xs,q⟩
 |lst l=>
  obtain⟨a,xs,rfl,q,r⟩:=z.lst;exact⟨a,rfl,⟨rfl,xs,q,r⟩,xs,q.sq⟩
 |_=>exact nn e
noncomputable def IsSrc(K:Qqq)(m:List Ya)(H:Hp):Src->It->Prop
 |.rng lo n,J=>J=Itr lo n
 |.tup ds,J=>∃a xs,J=Itt K a/\SqT K H a xs/\IsDs K m H ds xs
 |.lst d,J=>∃a,IsRow K m H .lst a d/\J=Itl K a
 |.zip x y,J=>∃(k1 k2:RK) (a b:Ya),J=Itz K k1 k2 a b/\IsRow K m H k1 a x/\IsRow K m H k2 b y
 |.enu x,J=>∃(k:RK) (a:Ya),J=Ite K k a/\IsRow K m H k a x
 |.rev ds,J=>∃a xs,J=Itv K a xs.length/\SqT K H a xs/\IsDs K m H ds xs
 |.tks l,J=>∃a o xs,m[l]?=Y2 a/\J=Itk a o xs/\H a=Y2 (.frz o (.dT xs))
theorem IsSrc.mono{K:Qqq}(h:IsSrc K m H s J)(b:Sub m z)(t:Tr H H'):IsSrc K z H' s J:=by
 cases s with
 |rng lo n=>exact h
 |tup ds=>obtain⟨a,xs,e,q,r⟩:=h; exact⟨a,xs,e,t.sqT q,qzb b t ds xs r⟩
 |lst l=>obtain⟨a,e,q⟩:=h; exact⟨a,e.mono b t,q⟩
 |zip x y=>obtain⟨L,F,a,O,e,h1,h2⟩:=h; exact⟨L,F,a,O,e,h1.mono b t,h2.mono b t⟩
 |enu x=>obtain⟨k,a,e,h⟩:=h; exact⟨k,a,e,h.mono b t⟩
 |rev ds=>obtain⟨a,xs,e,q,r⟩:=h; exact⟨a,xs,e,t.sqT q,qzb b t ds xs r⟩
 |tks l=>obtain⟨a,o,xs,e,q,r⟩:=h; exact⟨a,o,xs,b _ _ e,q,t.frz _ _ _ r⟩
def IsSrc.done{K:Qqq}{st:Yo}(h:IsSrc K m H s J)(L:Rel K m st H)(e:s.at st i=Y2 Y3):J.stop i H:=by
 cases s with
 |rng lo n=>
  cases h;simp only[Src.at]at e
  split at e
  ·cases e
  ·rename_i q;exact Nat.not_lt.mp q
 |tup ds=>
  obtain⟨a,xs,rfl,q,r⟩:=h;simp only[Src.at,Option.some.injEq]at e;exact⟨xs,q,by rw[<- r.length]; exact Qza.mp e⟩
 |lst l=>
  obtain⟨a,O,rfl⟩:=h;simp only[Src.at]at e;refine qze e λds F z=>?_;obtain⟨xs,q,r⟩:=O.sq' L F;exact⟨xs,q,by rw[<- r.length]; exact Qza.mp z⟩
 |zip x y=>
  obtain⟨k1,k2,a,b,rfl,h1,h2⟩:=h;simp only[Src.at]at e;refine qzx e λds F e=>qze e λes z U=>?_;obtain⟨xs,q1,r1⟩:=h1.sq L F;obtain⟨ys,q2,r2⟩:=h2.sq L z;refine⟨xs,ys,q1,q2,?_⟩;unfold M.pairAt at U;rw[<- r1.length,<- r2.length]
  cases Z:ds[i]? with
  |none=>exact .inl (Qza.mp Z)
  |some d1=>
   cases Y:es[i]? with
   |none=>exact .inr (Qza.mp Y)
   |some d2=>rw[Z,Y]at U; cases U
 |enu x=>
  obtain⟨k,a,rfl,h⟩:=h;simp only[Src.at]at e;refine qze e λds F z=>?_;obtain⟨xs,q,r⟩:=h.sq L F;exact⟨xs,q,by rw[<- r.length]; exact Qza.mp (Qkz.mp z)⟩
 |rev ds=>
  obtain⟨a,xs,rfl,q,r⟩:=h;simp only[Src.at]at e;show xs.length<=i;rw[<- r.length]
  split at e
  ·rw[Qql (by omega)]at e; cases e
  ·omega
 |tks l=>
  obtain⟨a,o,xs,O,rfl,hH⟩:=h;simp only[Src.at]at e
  split at e
  ·rename_i kvs q;obtain⟨o',a0,h1,kt⟩:=L.cell l _ a q O;rw[hH]at h1;cases h1;refine⟨hH,?_⟩;rw[<- kt.length];exact Qza.mp (Qkz.mp (Option.some.inj e))
  ·exact nn e
def IsSrc.next{K:Qqq}{st:Yo}(h:IsSrc K m H s J)(R0:Rel K m st H)(e:s.at st i=Y2 (Y2 d)):J.go i H/\∀x H',J.yld i H x H'->Same H H'/\MS.IsD K m H' d x:=by
 cases s with
 |rng lo n=>
  cases h;simp only[Src.at]at e
  split at e
  ·rename_i q;cases e;refine⟨q,?_⟩;rintro x H' ⟨rfl,rfl⟩;exact⟨λ_ _ z=>z,mkInt _⟩
  ·cases e
 |tup ds=>
  obtain⟨a,xs,rfl,q,r⟩:=h;simp only[Src.at,Option.some.injEq]at e;obtain⟨x,ex,L⟩:=r.get e;refine⟨⟨xs,x,q,ex⟩,?_⟩;rintro y H' ⟨rfl,z⟩;have:=z xs q;rw[ex]at this;cases this;exact⟨λ_ _ z=>z,L⟩
 |lst l=>
  obtain⟨a,ha,rfl⟩:=h;simp only[Src.at]at e;refine qze e λds Z O=>?_;obtain⟨xs,q,r⟩:=ha.sq' R0 Z;obtain⟨x,ex,L⟩:=r.get O;refine⟨⟨xs,x,q,ex⟩,?_⟩;rintro y H' ⟨rfl,z⟩;have:=z xs q;rw[ex]at this;cases this;exact⟨λ_ _ z=>z,L⟩
 |zip u v=>
  obtain⟨k1,k2,a,b,rfl,h1,h2⟩:=h;simp only[Src.at]at e;refine qzx e λds Z e=>qze e λes O F=>?_;obtain⟨xs,q1,r1⟩:=h1.sq R0 Z;obtain⟨ys,q2,r2⟩:=h2.sq R0 O;unfold M.pairAt at F
  cases z1:ds[i]? with
  |none=>rw[z1]at F; cases F
  |some d1=>
   cases z2:es[i]? with
   |none=>rw[z1,z2]at F; cases F
   |some d2=>
    rw[z1,z2]at F;cases F;obtain⟨x,ex,L⟩:=r1.get z1;obtain⟨y,ey,iy⟩:=r2.get z2;refine⟨⟨xs,ys,x,y,q1,q2,ex,ey⟩,?_⟩;rintro w H' ⟨p,x',y',rfl,hp,rfl,f1,f2⟩;have Y:=f1 xs q1;rw[ex]at Y;cases Y;have g2:=f2 ys q2;rw[ey]at g2;cases g2;have U:=qzw (o:=.tup [x,y]) hp;exact⟨U,qq3 (SqT.of qzk) (qzb (Sub.refl _) (Tr.of_same U) _ _ (qzm L (qzm iy qqx)))⟩
 |enu u=>
  obtain⟨k,a,rfl,h⟩:=h;simp only[Src.at]at e;refine qze e λds Z O=>qze O λd0 F e4=>?_;cases e4;obtain⟨xs,q,r⟩:=h.sq R0 Z;obtain⟨x,ex,L⟩:=r.get F;refine⟨⟨xs,x,q,ex⟩,?_⟩;rintro w H' ⟨p,x',rfl,hp,rfl,f1⟩;have Y:=f1 xs q;rw[ex]at Y;cases Y;have U:=qzw (o:=.tup [.int i,x]) hp;exact⟨U,qq3 (SqT.of qzk) (qzb (Sub.refl _) (Tr.of_same U) _ _ (qzm (mkInt _) (qzm L qqx)))⟩
 |rev ds=>
  obtain⟨a,xs,rfl,q,r⟩:=h;simp only[Src.at,Option.some.injEq]at e;have rl:=r.length
  split at e
  ·obtain⟨x,ex,L⟩:=r.get e;rw[rl]at ex;refine⟨⟨xs,x,q,rfl,by omega,ex⟩,?_⟩;rintro y H' ⟨rfl,z⟩;have:=z xs q;rw[ex]at this;cases this;exact⟨λ_ _ z=>z,L⟩
  ·exact nn e
 |tks l=>
  obtain⟨a,o,xs,ha,rfl,hH⟩:=h;simp only[Src.at]at e
  split at e
  ·rename_i kvs q;obtain⟨o',a0,h1,kt⟩:=R0.cell l _ a q ha;rw[hH]at h1;cases h1;refine qze (Option.some.inj e) λp O F=>?_;cases F;have hl:=(Qqk.mp O).1;have hn:=kt.length;refine⟨⟨hH,by omega⟩,?_⟩;rintro y H' ⟨rfl,p',b,e4,rfl,e5⟩;have e6:=kt.at (i:=i)
   rw[e4,O]at e6;have e6:p'.1=p.1.map Sum.inl:=Option.some.inj e6;rw[e6,qyd]at e5;exact⟨λ_ _ z=>z,qbl e5⟩
  ·exact nn e
noncomputable def tI(K:Qqq)(f:Sl->Yo->Option (Src×Yo)):TI:=λσ H R=>∃m st τ s st',Rel K m st H/\SlotOk K m H τ σ/\f τ st=Y2 (s,st')/\∀m' H' J,Sub m m'->Tr H H'->Rel K m' st' H'->IsSrc K m' H' s J->R J H'
def tI.el{K:Qqq}{P:Prop}(h:tI K f q H Q)(k:∀m st τ s st',Rel K m st H->SlotOk K m H τ q->f τ st=Y2 (s,st')->(∀m' H' J,Sub m m'->Tr H H'->Rel K m' st' H'->IsSrc K m' H' s J->Q J H')->P):P:=by
 rcases h with⟨m,st,τ,d,st',a,b,c,e⟩
 exact k m st τ d st' a b c e
def _root_.L2.PI.imp(h:PI X tg e t)(f:∀σ H R,t' σ H R->t σ H R):PI X tg e t':=λpins s σ H Q I q=>h pins s σ H Q I (f σ H Q q)
def PostO(K:Qqq)(m:List Ya)(H:Hp)(o:Out)(st':Yo)(Dn:Ends):Prop:=∀m' H',Sub m m'->Tr H H'->Rel K m' st' H'->match o with
 |.nx τ=>∀σ',SlotOk K m' H' τ σ'->Dn.nx σ' H'
 |.rt d=>∀v,IsD K m' H' d v->Dn.rt v H'
 |.bk τ=>∀σ',SlotOk K m' H' τ σ'->Dn.bk σ' H'
 |.ct τ=>∀σ',SlotOk K m' H' τ σ'->Dn.ct σ' H'
def PostO.mono{K:Qqq}(p:PostO K m H o st' Dn)(s:Sub m q)(t:Tr H z):PostO K q z o st' Dn:=λm' H' s' F r=>p m' H' (s.trans s') (t.trans F) r
noncomputable def tS(K:Qqq)(f:Sl->Yo->Option (Out×Yo)):TS:=λDn σ H=>∃m st τ o st',Rel K m st H/\SlotOk K m H τ σ/\f τ st=Y2 (o,st')/\PostO K m H o st' Dn
def PostO.of{K:Qqq}(q:PostO K m H d s Q)(e:Y2 (d',z)=Y2 (d,s)):PostO K m H d' z Q:=by cases e; exact q
def tS.el{K:Qqq}{P:Prop}(h:tS K f z q H)(k:∀m st τ o st',Rel K m st H->SlotOk K m H τ q->f τ st=Y2 (o,st')->PostO K m H o st' z->P):P:=by
 rcases h with⟨m,st,τ,d,st',a,b,c,e⟩
 exact k m st τ d st' a b c e
structure AllOk (fns:List Fn) (dl n:Nat):Prop where
 e:∀c X,Good fns dl c X->∀{j} e p,CkN j c e p->PE X p (tD X.K λτ st=>(M.rn fns dl n).ev τ st e)
 t:∀c X,Good fns dl c X->∀{j} e p,CkN j c e p->PT X p (tTs X.K λτ st=>(M.rn fns dl n).tst τ st e)
 w:∀c X,Good fns dl c X->∀{j} e op ps pos,CkN j c e (.BoolOp op ps pos)->PW X (.BoolOp op ps pos) (tTs X.K λτ st=>(M.rn fns dl n).tst τ st e)
 s:∀c X,Good fns dl c X->(∀x,X.fn x=Y0)->∀ss ps,CkSs c ss ps->PSs X ps (tS X.K λτ st=>(M.rn fns dl n).ex τ st ss)
def qb8(fns)(dl):AllOk fns dl 0 where
 e:=λc X G j e p h pins s σ H Q I q=>by obtain⟨m,st,τ,d,st',_,_,z,_⟩:=q; cases z
 t:=λc X G j e p h pins s σ H Q I q=>by obtain⟨m,st,τ,d,st',_,_,z,_⟩:=q; cases z
 w:=λc X G j e L ps pos h F pins s σ H Q I q=>by obtain⟨m,st,τ,d,st',_,_,z,_⟩:=q; cases z
 s:=λc X G hf J ps h pins s σ H Q I q=>by obtain⟨m,st,τ,d,st',_,_,z,_⟩:=q; cases z
section
variable {fns:List Fn}{dl n j:Nat}{c:Ctx}{X:Cx}
theorem qzp(A:AllOk fns dl n)(G:Good fns dl c X):∀{es}{ps},CkL (CkN j c) es ps->PA X ps (tL X.K λτ st=>M.evs ((M.rn fns dl n).ev τ) es st)
 |_,_,.nil=>pa_nil.imp λ_ _ _ h=>tL_nil h
 |_,_,.cons h t=>(qqp (A.e c X G _ _ h) (qzp A G t) (h.star _ _)).imp λ_ _ _ q=>
   qli q
def CkN.plain(h:CkN j c e p):qv8 e=true:=by
 cases j with
 |zero=>cases h
 |succ j=>
  cases h with
  |of _ q=>exact q
  |gc=>rfl
def qcr(h:qv8 e=Y0)(r)(τ)(st):M.src r τ st e=(r.ev τ st e).bind λp=>match p.1 with
   |.tup ds=>Y2 (.tup ds,p.2)
   |d=>(M.seqAt p.2 d).map λ_=>(.lst d,p.2):=by
 cases e with
 |rng1 _=>cases h
 |rng2 _ _=>cases h
 |zip _ _=>cases h
 |enu _=>cases h
 |rev _=>cases h
 |_=>rfl
def qye(A:AllOk fns dl n)(G:Good fns dl c X)(h:CkI (CkN j c) c tg it a0):PI X tg a0 (tI X.K λτ st=>M.src (M.rn fns dl n) τ st it):=by
 have seq:∀{e p},CkN j c e p->(∀τ st,M.src (M.rn fns dl n) τ st e=((M.rn fns dl n).ev τ st e).bind λp=>match p.1 with
   |.tup ds=>Y2 (.tup ds,p.2)
   |d=>(M.seqAt p.2 d).map λ_=>(.lst d,p.2))->PI X tg p (tI X.K λτ st=>M.src (M.rn fns dl n) τ st e):=by
  intro e p he a3;refine(pi_seq (A.e c X G e p he)).imp λσ H R q=>q.el λm st τ s st' R0 Z z q=>?_;have z:=(a3 τ st).symm.trans z;refine qzj z λd s1 Y z=>rsI R0 Z Y λx m1 H1 b1 t1 J L=>?_
  cases d with
  |tup ds=>
   cases z;obtain⟨a,xs,rfl,hq,U⟩:=L.tup;exact⟨a,rfl,.inr ⟨⟨xs,hq⟩,q m1 H1 _ b1 t1 J ⟨a,xs,rfl,hq,U⟩⟩⟩
  |loc l=>
   refine qze z λds e3 e4=>?_;cases e4;obtain⟨a,rfl,F,xs,hq⟩:=qwc L J e3;exact⟨a,rfl,.inl ⟨⟨xs,hq⟩,q m1 H1 _ b1 t1 J ⟨a,F,rfl⟩⟩⟩
  |lst l=>
   refine qze z λds e3 e4=>?_;cases e4;obtain⟨a,rfl,F,xs,hq⟩:=qwc L J e3;exact⟨a,rfl,.inl ⟨⟨xs,hq⟩,q m1 H1 _ b1 t1 J ⟨a,F,rfl⟩⟩⟩
  |_=>exact nn z
 cases h with
 |@rng1 _ a pa p0 pos hg F=>
  refine(qdk (G.gl hg) (G.no rfl) (qzp A G (.cons F .nil)) (by rw[F.star]; rfl)).imp λσ H R q=>?_;refine q.el λm st τ s st' R0 Z z q=>qzj z λd s1 Y z=>?_
  cases d with
  |int k=>
   dsimp only at z
   split at z
   ·exact nn z
   ·rename_i O;cases z;unfold M.big at O;simp only[Qxa,decide_eq_true_eq]at O;refine rsI (d:=[.int k]) (st':=st') R0 Z ?_ λxs m1 H1 b1 t1 J L=>?_
    ·show(((M.rn fns dl n).ev τ st a).bind λp=>(Y2 (([]:List D),p.2)).bind λq=>Y2 (p.1::q.1,q.2))=_;rw[Y]; rfl
    ·obtain⟨x,rfl,U⟩:=L.one;cases U.int;exact⟨k,rfl,by omega,by omega,q m1 H1 _ b1 t1 J rfl⟩
  |_=>exact nn z
 |@rng2 _ a b pa pb p0 pos hg F O=>
  refine(qdj (G.gl hg) (G.no rfl) (qzp A G (.cons F (.cons O .nil))) (by rw[F.star,O.star]; rfl) (by rw[O.star]; rfl)).imp λσ H R q=>?_;refine q.el λm st τ s st' R0 Z z q=>qzj z λd s1 Y z=>qzj z λd' s2 e3 z=>?_;dsimp only at z
  split at z
  ·rename_i i j _
   split at z
   ·exact nn z
   ·rename_i O;cases z;unfold M.big at O;simp only[Qxa,decide_eq_true_eq]at O;refine rsI (d:=[.int i,.int j]) (st':=st') R0 Z ?_ λxs m1 H1 b1 t1 J L=>?_
    ·show(((M.rn fns dl n).ev τ st a).bind λp=>(((M.rn fns dl n).ev τ p.2 b).bind λp=>(Y2 (([]:List D),p.2)).bind λq=>Y2 (p.1::q.1,q.2)).bind λq=>Y2 (p.1::q.1,q.2))=_;rw[Y];show(((M.rn fns dl n).ev τ s1 b).bind λp=>(Y2 (([]:List D),p.2)).bind λq=>Y2 (p.1::q.1,q.2)).bind _=_;rw[e3]; rfl
    ·obtain⟨x,y,rfl,U,iy⟩:=L.two;cases U.int;cases iy.int;exact⟨i,j,rfl,⟨by omega,by omega,by omega,by omega⟩,q m1 H1 _ b1 t1 J rfl⟩
  ·exact nn z
 |@zip ts k tp a b pa pb p0 pos hg F O=>
  refine(pi_zip (G.gl hg) (G.no rfl) (qzp A G (.cons F (.cons O .nil))) (by rw[F.star,O.star]; rfl) (by rw[O.star]; rfl)).imp λσ H R q=>?_;obtain⟨m,st,τ,s,st',R0,Z,z,q⟩:=q;refine qzj z λd s1 Y z=>qzj z λd' s2 e3 z=>qzx z λds e4 z=>qze z λes e5 e6=>?_;cases e6;refine rsI (d:=[d,d']) (st':=s2) R0 Z ?_ λxs m1 H1 b1 t1 J L=>?_
  ·show(((M.rn fns dl n).ev τ st a).bind λp=>(((M.rn fns dl n).ev τ p.2 b).bind λp=>(Y2 (([]:List D),p.2)).bind λq=>Y2 (p.1::q.1,q.2)).bind λq=>Y2 (p.1::q.1,q.2))=_;rw[Y];show(((M.rn fns dl n).ev τ s1 b).bind λp=>(Y2 (([]:List D),p.2)).bind λq=>Y2 (p.1::q.1,q.2)).bind _=_;rw[e3]; rfl
  ·obtain⟨x,y,rfl,U,iy⟩:=L.two;obtain⟨k1,a1,rfl,h1,w1⟩:=qvy U J e4;obtain⟨k2,a2,rfl,h2,w2⟩:=qvy iy J e5;exact⟨k1,k2,a1,a2,rfl,w1,w2,q m1 H1 _ b1 t1 J ⟨k1,k2,a1,a2,rfl,h1,h2⟩⟩
 |@enu ts k tp a pa p0 pos hg F=>
  refine(qmw (G.gl hg) (G.no rfl) (qzp A G (.cons F .nil)) (by rw[F.star]; rfl)).imp λσ H R q=>?_;refine q.el λm st τ s st' R0 Z z q=>qzj z λd s1 Y z=>qze z λds e4 e6=>?_;cases e6;refine rsI (d:=[d]) (st':=s1) R0 Z ?_ λxs m1 H1 b1 t1 J L=>?_
  ·show(((M.rn fns dl n).ev τ st a).bind λp=>(Y2 (([]:List D),p.2)).bind λq=>Y2 (p.1::q.1,q.2))=_;rw[Y]; rfl
  ·obtain⟨x,rfl,U⟩:=L.one;obtain⟨k1,a1,rfl,h1,w1⟩:=qvy U J e4;exact⟨k1,a1,rfl,w1,q m1 H1 _ b1 t1 J ⟨k1,a1,rfl,h1⟩⟩
 |@rev _ a pa p0 pos hg F=>
  refine(pi_rev (G.gl hg) (G.no rfl) (qzp A G (.cons F .nil)) (by rw[F.star]; rfl)).imp λσ H R q=>?_;refine q.el λm st τ s st' R0 Z z q=>qzj z λd s1 Y z=>?_
  cases d with
  |tup ds=>
   cases z;refine rsI (d:=[.tup ds]) (st':=s1) R0 Z ?_ λxs m1 H1 b1 t1 J L=>?_
   ·show(((M.rn fns dl n).ev τ st a).bind λp=>(Y2 (([]:List D),p.2)).bind λq=>Y2 (p.1::q.1,q.2))=_;rw[Y]; rfl
   ·obtain⟨x,rfl,U⟩:=L.one;obtain⟨a,xs,rfl,hq,iy⟩:=U.tup;exact⟨a,xs,rfl,hq,q m1 H1 _ b1 t1 J ⟨a,xs,rfl,hq,iy⟩⟩
  |_=>exact nn z
 |@seq _ e p he=>
  exact seq he (qcr (CkN.plain he) _)
def qgr(A:AllOk fns dl n)(G:Good fns dl c X)(h:CkO (CkN j c) o p):PO X p (λσ H Q=>∃m st τ l st',Rel X.K m st H/\SlotOk X.K m H τ σ/\M.part (M.rn fns dl n) τ st o=Y2 (l,st')/\∀m' H',Sub m m'->Tr H H'->Rel X.K m' st' H'->Q l H'):=by
 cases h with
 |none=>
  intro pins s σ H Q I q;obtain⟨m,st,τ,l,st',z,J,e,k⟩:=q;cases e;exact qmk pins s σ H Q I (k m H (Sub.refl m) (Tr.refl H) z)
 |@some e p h=>
  intro pins s σ H Q I q;obtain⟨m,st,τ,l,st',z,J,U,k⟩:=q;refine qzj U λd Z O F=>?_
  cases d with
  |int i=>
   cases F;exact qmj (A.e c X G e p h) pins s σ H Q I (rsI z J O λv m' H' b t Y L=>⟨i,L.int,k m' H' b t Y⟩)
  |_=>exact nn F
noncomputable def gIs:List Nat->TGs
 |[]=>gNil
 |i::is=>gCons (qyg i) (gIs is)
noncomputable def gT(K:Qqq):T->TG
 |.var i=>qyg i
 |.tup is=>gTup K is.length (gIs is)
theorem qiu{K:Qqq}:∀{is}{ds}{xs}{τ z}{J},IsDs K m H ds xs->SlotOk K m H τ J->M.setIs is ds τ=Y2 z->(∀F,SlotOk K m H z F->Q F H)->gIs is xs J H Q
 |[],[],xs,τ,z,J,L,S0,e,k=>by
  cases e;exact⟨L.nil,k J S0⟩
 |i::is,d::ds,xs,τ,z,J,L,S0,e,k=>by
  obtain⟨x,r,rfl,q,t⟩:=L.cons;unfold M.setIs at e
  split at e
  ·exact⟨x,r,rfl,qiu t (S0.put q) e k⟩
  ·exact nn e
 |[],_::_,_,_,_,_,_,_,e,_=>by cases e
 |_::_,[],_,_,_,_,_,_,e,_=>by cases e
theorem qv5:∀{is}{ds}{τ q},M.setIs is ds τ=Y2 q->is.length=ds.length
 |[],[],_,_,_=>rfl
 |i::is,d::ds,τ,q,e=>by
  unfold M.setIs at e
  split at e
  ·rw[Qqg,Qqg,qv5 e]
  ·exact nn e
 |[],_::_,_,_,e=>by cases e
 |_::_,[],_,_,e=>by cases e
def qnr{K:Qqq}(J:IsD K m H d v)(L:SlotOk K m H τ z)(e:M.setT t d τ=Y2 τ')(k:∀q,SlotOk K m H τ' q->Q q H):gT K t v z H Q:=by
 cases t with
 |var i=>
  have e:(if i<τ.length then Y2 (τ.set i (Y2 d)) else Y3)=Y2 τ':=e
  split at e
  ·cases e;exact k _ (L.put J)
  ·exact nn e
 |tup U=>
  cases d with
  |tup ds=>
   obtain⟨a,xs,rfl,O,F⟩:=J.tup;exact⟨a,xs,rfl,O,by rw[<- F.length,qv5 e],qiu F L e k⟩
  |_=>exact nn e
def qja(G:Good fns dl c X){i:Nat}(h:c.N[i]?=Y2 x):X.N[i]?=Y2 x:=by rw[G.N]; exact h
def qfd:Qe ("sum" : Yb)=Y2 (.builtin "sum"):=by decide +kernel
def qfi:Qe ("any" : Yb)=Y2 (.builtin "any"):=by decide +kernel
def qfl:Qe ("all" : Yb)=Y2 (.builtin "all"):=by decide +kernel
def qfh:Qe ("int" : Yb)=Y2 (.type "int"):=by decide +kernel
def qb6:Qe ("bool" : Yb)=Y2 (.type "bool"):=by decide +kernel
def qfe:Qe ("str" : Yb)=Y2 (.type "str"):=by decide +kernel
def qw0:Qe ("isinstance" : Yb)=Y2 (.builtin "isinstance"):=by decide +kernel
def qwt:Qe ("sorted" : Yb)=Y2 (.builtin "sorted"):=by decide +kernel
def qff:Qe ("set" : Yb)=Y2 (.type "set"):=by decide +kernel
def qwu:Qe ("len" : Yb)=Y2 (.builtin "len"):=by decide +kernel
def qfg:Qe ("min" : Yb)=Y2 (.builtin "min"):=by decide +kernel
def qk1:Qe ("list" : Yb)=Y2 (.type "list"):=by decide +kernel
def qkz:Qe ("tuple" : Yb)=Y2 (.type "tuple"):=by decide +kernel
def ty_ok(G:Good fns dl c X){t:M.Ty}(z:t≠.non)(q:c.sc.names.lookup (Str.ofString t.name)=Y2 .globalImplicit):PE X (.Name (Str.ofString t.name) pos) (tC (.ty t.name)):=by
 cases t with
 |non=>exact absurd rfl z
 |bl=>exact qjn (G.gl q) (G.no rfl) qb6 rfl (by decide) (by decide)
 |int=>exact qjn (G.gl q) (G.no rfl) qfh rfl (by decide) (by decide)
 |str=>exact qjn (G.gl q) (G.no rfl) qfe rfl (by decide) (by decide)
 |tup=>exact qjn (G.gl q) (G.no rfl) qkz rfl (by decide) (by decide)
 |lst=>exact qjn (G.gl q) (G.no rfl) qk1 rfl (by decide) (by decide)
noncomputable def tCs:List V->TA
 |[]=>tNil
 |v::vs=>qlm (tC v) (tCs vs)
theorem qch:∀(vs:List V) (q:L2.St) (H:Hp) (Q:List V->Hp->Prop),Q vs H->tCs vs q H Q
 |[],_,_,_,h=>h
 |v::vs,q,H,Q,h=>qch vs q H (λxs H2=>Q (v::xs) H2) h
theorem qh8(G:Good fns dl c X):∀{q}{ps},CkTys c q ps->PA X ps (tCs (q.map λt=>V.ty t.name))/\∀t∈q,t≠.non
 |_,_,.nil=>⟨pa_nil,λ_ h=>nomatch h⟩
 |_,_,.cons F L h=>by
  obtain⟨h1,h2⟩:=qh8 G h;refine⟨qqp (ty_ok G F L) h1 rfl,λt J=>?_⟩;rcases Qqa.mp J with z|z
  ·rw[z]; exact F
  ·exact h2 t z
end
section
variable {fns:List Fn}{dl n j:Nat}{c:Ctx}{X:Cx}
def qlq:UnR X (unaryOp .USub) (rU1 X.K λst d=>match d with|.int i=>Y2 (.int (-i),st)|_=>Y3):=by
 intro pins s σ H x v Q I z h;refine h.el λm st a d st' J F e q=>?_
 cases a with
 |int i=>
  have q:=q.of e;exact un_neg pins s σ H x v Q I z ⟨i,F.int,q.here J (mkInt _)⟩
 |_=>exact nn e
def qx1(G:Good fns dl c X)(h:CpOk c scope sr N z t):CompScope X N sr scope:=
 ⟨h.kind,h.cell,λy F hf=>by
  have:=h.free y F hf;show X.env.scope.names.lookup y.1=_\/X.env.scope.names.lookup y.1=_;rw[G.sc]; exact this,h.loc,h.len,λj i q=>by
  obtain⟨x,a,b,d⟩:=h.src j i q
  exact⟨x,a,qja G b,d⟩⟩
noncomputable def tOpt(K:Qqq)(r:R):Option E->TT
 |none=>λ_ H Q=>Q Y0 H
 |some c=>tTs K λτ st=>r.tst τ st c
def qca(A:AllOk fns dl n)(G:Good fns dl c X)(h:CkO (CkN j c) q z):qcz X z.toList (tOpt X.K (M.rn fns dl n) q):=by
 cases h with
 |none=>exact qgj
 |some h=>exact qgx (A.t _ _ G _ _ h)
def qjy{K:Qqq}(sr)(h:SlotOk K m H τ F):SlotOk K m H (M.inner sr τ) (qq6 sr F):=by
 refine⟨by unfold M.inner qq6; rw[Qqz,Qqz],λj d e=>?_⟩;unfold M.inner at e;rw[Qqv]at e;unfold qq6;rw[Qqv]
 cases q:sr[j]? with
 |none=>rw[q]at e; cases e
 |some o=>
  rw[q]at e
  cases o with
  |none=>cases e
  |some i=>
   have hi:τ[i]?=Y2 (Y2 d):=by
    cases z:τ[i]? with
    |none=>simp[z]at e
    |some w=>
     cases w with
     |none=>simp[z]at e
     |some w=>simpa[z] using e
   obtain⟨v,a,b⟩:=h.at_ i d hi;refine⟨v,?_,b⟩;simp[a]
def qi5{K:Qqq}{Q:VK}(R1:Rel K m1 a5 H1)(hJ:IsSrc K m1 H1 s J)(S1:SlotOk K m1 H1 a3 a6)(e2:M.loopC s (M.turnC r t q elt) k0 0 [] a3 a5=Y2 a1)(a9:∀m2 H' F,Sub m1 m2->Tr H1 H'->Rel K m2 a1.2 H'->IsDs K m2 H' a1.1 F->∀pp,H' pp=Y3->Q (.ref pp) (upd H' pp (.lst F))):
  ∃W:Nat->Nat->List V->L2.St->Hp->Prop,(∃k,W 0 k [] a6 H1)/\
 ∀i k F U H',W i k F U H'->(J.stop i H'/\F.length<=sizeLine/\∀p,H' p=Y3->Q (.ref p) (upd H' p (.lst F)))\/(J.go i H'/\F.length<sizeLine/\∀x H2,J.yld i H' x H2->gT K t x U H2 λa0 H3=>tOpt K r q a0 H3 λb H4=>
  if b=Y0 then tD K (λτ st=>r.ev τ st elt) a0 H4 λv H5=>∃k',k'<k/\W (i+1) k' (F++[v]) a0 H5 else ∃k',k'<k/\W (i+1) k' F a0 H4):=by
 refine⟨λi' k F U H'=>∃m2 a4 a2 L,Sub m1 m2/\Tr H1 H'/\Rel K m2 a4 H'/\SlotOk K m2 H' a2 U/\IsDs K m2 H' L F/\M.loopC s (M.turnC r t q elt) k i' L a2 a4=Y2 a1,
  ⟨_,m1,a5,a3,[],Sub.refl _,Tr.refl _,R1,S1,qqx,e2⟩,?_⟩
 rintro j k F U H' ⟨m2,a4,a2,L,b2,t2,R2,S2,ia,O⟩
 cases k with
 |zero=>exact nn O
 |succ k=>
  have O:=O;refine qzx O λo e5 O=>?_;have l1:=ia.length;have l2:=qqk
  cases o with
  |none=>
   dsimp only at O
   split at O
   ·exact nn O
   ·rename_i hl;cases O;refine .inl ⟨(hJ.mono b2 t2).done R2 e5,by lia,λpp hp=>?_⟩;exact a9 m2 H' F b2 t2 R2 ia pp hp
  |some d'=>
   dsimp only at O
   split at O
   ·exact nn O
   ·rename_i hl;obtain⟨a8,hy⟩:=(hJ.mono b2 t2).next R2 e5;refine .inr ⟨a8,by lia,λx H2 a7=>?_⟩;obtain⟨sm,ix⟩:=hy x H2 a7;have t2:=t2.trans (Tr.of_same sm);have R2:=R2.same sm;have S2:=S2.mono (Sub.refl _) (Tr.of_same sm);have ia:=qzb (Sub.refl _) (Tr.of_same sm) _ _ ia;refine qzx O λz Z O=>?_;unfold M.turnC at Z;refine qzx Z λb1 e7 Z=>qnr ix S2 e7 λb5 S3=>?_
    ·cases q with
     |none=>
      unfold tOpt;dsimp only at Z ⊢;refine qze Z λy e8 e9=>?_;cases e9;rw[Xq rfl];refine rsI R2 S3 e8 λv m3 H3 b3 Y R3 i3=>⟨k,Qzb k,m3,y.2,_,L++[y.1],b2.trans b3,t2.trans Y,R3,S3.mono b3 Y,(qzb b3 Y _ _ ia).append (qzm i3 qqx),O⟩
     |some cq=>
      unfold tOpt;refine qzx Z λbb e8 Z=>rsI R2 S3 e8 λm3 H3 b3 Y R3=>?_
      cases hb:bb.1 with
      |true=>
       rw[hb,Xq rfl]at Z;rw[Xq rfl];refine qze Z λy e9 b0=>?_;cases b0;refine rsI R3 (S3.mono b3 Y) e9 λv m4 H4 b4 t4 R4 i4=>⟨k,Qzb k,m4,y.2,_,L++[y.1],b2.trans (b3.trans b4),t2.trans (Y.trans t4),R4,S3.mono (b3.trans b4) (Y.trans t4),(qzb (b3.trans b4) (Y.trans t4) _ _ ia).append (qzm i4 qqx),O⟩
      |false=>
       rw[hb,Z9 Qq7]at Z;cases Z;rw[Z9 Qq7];exact⟨k,Qzb k,m3,bb.2,_,L,b2.trans b3,t2.trans Y,R3,S3.mono b3 Y,qzb b3 Y _ _ ia,O⟩
def qcf{K:Qqq}(h:tD K (λτ st=>M.stepEv r τ st (.comp t it q elt sr)) F H Q):
  qgv sr (tI K λτ st=>M.src r τ st it) (gT K t) (tOpt K r q) (tD K λτ st=>r.ev τ st elt) F H Q:=by
 refine h.el λm st τ d st' R0 O e z=>?_;have e:=e;refine qzx e λp e1 e=>qze e λU e2 e3=>rsI R0 O e1 λm1 H1 J b1 t1 R1 hJ=>qi5 R1 hJ (qjy sr (O.mono b1 t1)) e2 λY H' a0 b2 t2 R2 Z pp L=>?_;cases e3;exact z _ (Y++[pp]) _ (b1.trans (b2.trans (Sub.app _ _))) (t1.trans (t2.trans (Tr.of_same (qzw L)))) (R2.new L Z) R2.newLoc
def qll(h:tD X.K (λτ st=>M.stepEv r τ st (.cmpd t a q elt sr)) σ H Q):
  qgv sr (qis X (tD X.K λτ st=>r.ev τ st a)) (gT X.K t) (tOpt X.K r q) (tD X.K λτ st=>r.ev τ st elt) σ H λv H1=>∃a o xs,NoFz X a/\H1 a=Y2 (.frz o (.dT xs))/\Q v (upd H1 a (.dT xs)):=by
 refine h.el λm st τ d st' R0 S0 e J=>qzj e λd1 s1 e1 e=>rsI R0 S0 e1 λx m1 H1 b1 t1 R1 i1=>?_
 cases d1 with
 |loc l=>
  refine qzx e λkvs e2 e=>qzx e λa0 e3 e=>?_;obtain⟨F,xs,ha,rfl,hH,a4,a2⟩:=R1.wtdict e2 i1;refine⟨F,xs,rfl,hH,λo nf=>?_⟩;have tw:Tw H1 (upd H1 F (.frz o (.dT xs))):=⟨λb ys z=>by rw[qzq (qzo z hH (by intro w; cases w))]; exact z,λb o' u _ z=>by rw[qzq (qzo z hH (by intro w; cases w))]; exact z⟩
  have R2:Rel X.K m1 (s1.set l (.tdc Y1 kvs)) (upd H1 F (.frz o (.dT xs))):=R1.putW a2 rfl ha tw ⟨o,xs,qzk,qz7 (Sub.refl _) tw kvs xs a4⟩;refine qi5 (Q:=λv H1=>∃a o xs,NoFz X a/\H1 a=Y2 (.frz o (.dT xs))/\Q v (upd H1 a (.dT xs))) R2 (show IsSrc X.K m1 _ (.tks l) (Itk F o xs) from⟨F,o,xs,ha,rfl,qzk⟩) (qjy sr ((S0.mono b1 t1).monoW (Sub.refl _) tw)) e3 λm2 H' Y b2 t2 R3 ia pp hp=>?_;have hf:=t2.frz _ _ _ (qzk);have U:=qzd hf hp;refine⟨F,o,xs,nf,by rw[qzq U]; exact hf,?_⟩
  split at e
  ·rename_i L hq;have J:=J.of e;obtain⟨o2,a5,h2,a1⟩:=R3.cell l _ F hq (b2 _ _ ha);rw[hf]at h2;cases h2;have O:Tw H' (upd H' F (.dT xs)):=⟨λb ys z=>by rw[qzq (qzo z hf (by intro w; cases w))]; exact z,λb o' u su z=>by rw[qzq (λw=>by subst w; rw[hf]at z; cases z; exact su)]; exact z⟩
   have R4:Rel X.K m2 (a0.2.set l (.tdc Y0 L)) (upd H' F (.dT xs)):=R3.putW hq rfl (b2 _ _ ha) O ⟨xs,qzk,qz7 (Sub.refl _) O L xs a1⟩;have ec:upd (upd H' pp (.lst Y)) F (.dT xs)=upd (upd H' F (.dT xs)) pp (.lst Y):=by
    funext b
    unfold upd
    by_cases h1:b=F
    ·subst h1; rw[Xq rfl,Z9 U,Xq rfl]
    ·rw[Z9 h1]
     by_cases h2:b=pp
     ·rw[Xq h2,Xq h2]
     ·rw[Z9 h2,Z9 h2,Z9 h1]
   rw[ec];have a3:(upd H' F (.dT xs)) pp=none:=by rw[qzq (Ne.symm U)]; exact hp
   have tr:Tr H1 (upd (upd H' F (.dT xs)) pp (.lst Y)):=by
    refine⟨λb ys z=>?_,λb o' u z=>?_⟩
    ·have hb:=qzo z hH (by intro w; cases w);have Z:=t2.tup b ys (by rw[qzq hb]; exact z);rw[qzq (qzd Z hp),qzq hb]; exact Z
    ·have hb:=qzo z hH (by intro w; cases w);have Z:=t2.frz b o' u (by rw[qzq hb]; exact z);rw[qzq (qzd Z hp),qzq hb]; exact Z
   exact J _ (m2++[pp]) _ (b1.trans (b2.trans (Sub.app _ _))) (t1.trans tr) (R4.new a3 (qz0 (Sub.refl _) O _ _ ia)) R4.newLoc
  ·exact nn e
 |_=>exact nn e
theorem qkf(G:Good fns dl c X):∀{is}{es},CkTs c is es->(∀i∈is,∀x,c.N[i]?=Y2 x->X.fn x=Y0\/c.sc.names.lookup x=Y2 .local)->PGs X es (gIs is)/\(Zq es X.env).length=is.length/\(Zq es X.env).findIdx? (·.1)=Y3
 |_,_,.nil,_=>⟨qma,rfl,rfl⟩
 |_,_,.cons (i:=i) (x:=x) (pos:=pos) (is:=is) (es:=es) q z h,hf=>by
  obtain⟨h1,h2,L⟩:=qkf G h λj F=>hf j (Qqt _ F);have J:PG X (.Name x pos) (qyg i):=qdv (by rw[G.N]; exact G.nd) (qja G q) (by rw[G.sc]; exact z) (by rw[G.sc]; exact hf i Qq6 x q);refine⟨qg0 J h1 rfl,?_,?_⟩
  ·show(Zq es X.env).length+1=is.length+1;rw[h2]
  ·show List.findIdx? (·.1) ((Y1,assign (.Name x pos) X.env)::Zq es X.env)=Y3;rw[List.findIdx?_cons,L]
   rfl
def qqm(G:Good fns dl c X)(h:CkT c t tg)(q:∀i∈t.slots,∀x,c.N[i]?=Y2 x->X.fn x=Y0\/c.sc.names.lookup x=Y2 .local):PG X tg (gT X.K t):=by
 cases h with
 |@var i x pos z F=>exact qdv (by rw[G.N]; exact G.nd) (qja G z) (by rw[G.sc]; exact F) (by rw[G.sc]; exact q i (by simp[T.slots]) x z)
 |@tup L es k pos h=>
  obtain⟨h1,h2,J⟩:=qkf G h q;exact pg_tup G.calm h1 h2 J
noncomputable def qlv(r:R)(K:Qqq):List E->List (TE×TE)
 |k::v::es=>(tD K λτ st=>r.ev τ st k,tD K λτ st=>r.ev τ st v)::qlv r K es
 |_=>[]
noncomputable def twos:List V->List (V×V)
 |x::y::r=>(x,y)::twos r
 |_=>[]
theorem qwx(A:AllOk fns dl n)(G:Good fns dl c X):∀{es}{q}{vs},CkP (CkN j c) es q vs->PPs X pos q vs (qlv (M.rn fns dl n) X.K es)/\q.all (·.isSome)=Y0/\q.length=vs.length
 |_,_,_,.nil=>⟨qmx,rfl,rfl⟩
 |_,_,_,.cons F z t=>by
  obtain⟨h1,h2,J⟩:=qwx A G t;refine⟨qgp (A.e c X G _ _ F) (A.e c X G _ _ z) h1,?_,?_⟩
  ·rw[Qzn,h2]; rfl
  ·rw[Qqg,Qqg,J]
theorem qwq{K:Qqq}:∀{es}{U}{vs}{c}{m}{st st'}{H}{τ}{F}{ds}{Q},CkP (CkN j c) es U vs->Rel K m st H->SlotOk K m H τ F->M.evs (r.ev τ) es st=Y2 (ds,st')->
  (∀xs m' H',Sub m m'->Tr H H'->Rel K m' st' H'->IsDs K m' H' ds xs->Q (twos xs) H')->qy6 (qlv r K es) F H Q
 |_,_,_,c,m,st,st',H,τ,F,ds,Q,.nil,L,S0,e,q=>by
  cases e;exact q [] m H (Sub.refl m) (Tr.refl H) L qqx
 |_,_,_,c,m,st,st',H,τ,F,ds,Q,.cons hk hv t,L,S0,e,q=>by
  have e:=e;refine qzj e λd1 s1 e1 e=>qzx e λw z e=>qzj z λd2 s2 e3 z=>qzx z λu e4 z=>?_;cases z;cases e;exact rsI L S0 e1 λx m1 H1 b1 t1 R1 i1=>rsI R1 (S0.mono b1 t1) e3 λy m2 H2 b2 t2 R2 Z=>qwq t R2 (S0.mono (b1.trans b2) (t1.trans t2)) e4 λxs O H3 b3 J R3 Y=>q (x::y::xs) O H3 (b1.trans (b2.trans b3)) (t1.trans (t2.trans J)) R3 (qzm (qzv (b2.trans b3) (t2.trans J) _ _ i1) (qzm (qzv b3 J _ _ Z) Y))
theorem qab{K:Qqq}:∀{ds}{xs}{kvs},IsDs K m H ds xs->M.pairUp ds=Y2 kvs->∃ys:List (Key×V),IsKV K m H kvs ys/\twos xs=ys.map λF=>(kV F.1,F.2)
 |[],xs,kvs,z,e=>by
  cases e;rw[z.nil];exact⟨[],rfl,rfl⟩
 |[d],xs,kvs,z,e=>by cases e
 |d::d'::ds,xs,kvs,z,e=>by
  have e:(if M.isKey d then(M.pairUp ds).map ((d,d')::·) else Y3)=Y2 kvs:=e
  split at e
  ·rename_i hk;refine qze e λkr e1 e2=>?_;subst e2;obtain⟨x,xr,rfl,Y,U⟩:=z.cons;obtain⟨y,J,rfl,O,L⟩:=U.cons;obtain⟨k,q⟩:=qqr hk;have Z:=qnw q Y;subst Z;obtain⟨ys,h1,h2⟩:=qab L e1;refine⟨(k,y)::ys,⟨k,y,ys,rfl,q,O,h1⟩,?_⟩;show(kV k,y)::twos J=_;rw[h2]
   rfl
  ·exact nn e
def qk6{K:Qqq}(h:tD K (λτ st=>M.stepEv r τ st (.meth a k es)) U H Q):
  tBM K "list" (λx xs H Q=>∃m st a ds d st',Rel K m st H/\IsD K m H a x/\IsDs K m H ds xs/\M.mfun st k a ds=Y2 (d,st')/\Post K m H d st' Q) (tD K λτ st=>r.ev τ st a) (tL K λτ st=>M.evs (r.ev τ) es st) U H Q:=by
 refine h.el λm st τ d st' R0 Z z F=>qzj z λO s1 e1 z=>?_
 split at z
 ·rename_i J;refine qzx z λq e2 z=>rsI R0 Z e1 λv m1 H1 b1 t1 R1 Y=>⟨?_,rsI R1 (Z.mono b1 t1) e2 λxs m2 H2 b2 t2 R2 i2=>⟨m2,q.2,O,q.1,d,st',R2,qzv b2 t2 _ _ Y,i2,z,F.mono (b1.trans b2) (t1.trans t2)⟩⟩
  have hs:∃ds,M.seqAt s1 O=Y2 ds:=by
   cases O with
   |loc l=>exact Qzt.mp ((Bool.true_and _).symm.trans J)
   |lst l=>exact Qzt.mp ((Bool.true_and _).symm.trans J)
   |_=>cases J
  obtain⟨ds,L⟩:=hs;obtain⟨a',xs,_,rfl,hq,_⟩:=R1.seq L Y;exact .inl ⟨rfl,xs,hq⟩
 ·exact nn z
def e_ok(A:AllOk fns dl n)(G':Good fns dl c X)(h:CkN j c e p):PE X p (tD X.K λτ st=>M.stepEv (M.rn fns dl n) τ st e):=by
 have G:=G';have hu:=G'.room.units
 cases j with
 |zero=>cases h
 |succ j=>
 cases h with
 |gc hs hq hp hg L=>exact(pe_gc (A.e (j:=j+1) c X G _ _ (.of hs hq L))).imp λ_ _ _ h=>h
 |of hs hq h=>
 clear hs hq
 cases h with
 |unt h=>exact qmb (A.e (j:=j+1) c X G _ _ (.of rfl (by cases h<;>rfl) (.nm h)))
 |nm h=>
  cases h with
  |@var i x hN hv hd c6=>
  refine(pe_var (qja G hN) (by rw[G.sc]; exact hv) hd c6).imp λσ H Q h=>?_;refine h.el λm st τ d st' Y U e q=>?_;simp only[M.stepEv]at e
  split at e
  ·rename_i d' c5;cases e;obtain⟨v,a,b⟩:=U.at_ i d c5;exact⟨v,a,q.here Y b⟩
  ·exact nn e
  |@glo x d hg hm hd=>
  obtain⟨u,v,h1,h2,h3⟩:=G.mo.glo _ _ hm;exact(qyj (G.gl hg) h1 h2 hd).imp λσ H Q h=>h.el λm st τ d st' Y U e q=>by cases e; exact q.here Y (h3 m H)
 |int=>exact pe_int.imp λσ H Q h=>h.el λm st τ d st' Y U e q=>by cases e; exact q.here Y (mkInt _)
 |bl=>exact pe_bl.imp λσ H Q h=>h.el λm st τ d st' Y U e q=>by cases e; exact q.here Y (mkBl _)
 |non=>exact pe_non.imp λσ H Q h=>h.el λm st τ d st' Y U e q=>by cases e; exact q.here Y qvj
 |str=>exact pe_str.imp λσ H Q h=>h.el λm st τ d st' Y U e q=>by cases e; exact q.here Y (mkStr _)
 |@bin op a b pa pb pos L O=>
  exact(pe_op (qm2 op) (A.e c X G a pa L) (A.e c X G b pb O)).imp λσ H Q h=>qcg h
 |@lenset a pa p0 p1 d0 pos hg hs L=>
  refine(qz6 qfk (G.gl hg) (G.no rfl) qwu (qqp (qjm (qfz G.room.hd G.room.units) (G.gl hs) (G.no rfl) qff (qqp (A.e c X G a pa L) pa_nil (L.star _ _)) (by decide) (by decide) (L.star _ _) rfl) pa_nil rfl) (by decide) (by decide) rfl rfl).imp λσ H Q h=>?_;refine h.el λm st τ d st' Y U e J=>qzj e λd1 s1 e1 e=>qze e λd2 e2 e3=>?_;cases e3;refine rsI Y U e1 λx m1 H1 b1 t1 Z ix=>?_
  cases d1 with
  |tup ds=>
   obtain⟨ks,k1,k2⟩:=Option.bind_eq_some_iff.mp (e2)
   split at k2
   ·rename_i c8;cases k2;obtain⟨pt,ys,rfl,hq,iy⟩:=ix.tup;refine⟨pt,ys,ks,rfl,hq,qez iy k1,by rw[<- iy.length]; exact c8,λl hl=>?_⟩;refine⟨l,_,rfl,qzk,?_⟩;have sm:=qzw (o:=setO l (ST.distinct ks).length) hl;exact J _ m1 _ b1 (t1.trans (Tr.of_same sm)) (Z.same sm) (mkInt _)
   ·exact nn k2
  |_=>exact nn e2
 |@neg a pa pos L=>
  exact(pe_un qlq (A.e c X G a pa L)).imp λσ H Q h=>tD_un h
 |@not a pa pos L=>
  refine(pe_not (A.e c X G a pa L)).imp λσ H Q h=>h.el λm st τ d st' Y U e q=>qzj e λd1 s1 e1 e=>rsI Y U e1 λv m1 H1 b1 t1 Z i1=>?_
  cases d1 with
  |bl k=>
   have q:=q.of e;exact⟨k,i1.bl,q _ m1 H1 b1 t1 Z (mkBl _)⟩
  |_=>exact nn e
 |@cmp op a b pa pb pos L O=>
  exact(qmm (qxs hu op) (A.e c X G a pa L) (A.e c X G b pb O) (qv4 O.sh _)).imp λσ H Q h=>qcg h
 |@cmp2 op b7 a b d pa pb pd pos L O hd=>
  refine(qg7 (qxs hu op) (qxs hu b7) (A.e c X G a pa L) (A.e c X G b pb O) (A.e c X G d pd hd) (qv4 hd.sh _)).imp λσ H Q h=>h.el λm st τ dd st' Y U e q=>qzj e λd1 s1 e1 e=>qzj e λd2 s2 e2 e=>qzx e λk e3 e=>rsI Y U e1 λx m1 H1 b1 t1 Z i1=>rsI Z (U.mono b1 t1) e2 λy m2 H2 b2 t2 R2 i2=>
   ⟨m2,s2,d1,d2,.bl k,s2,R2,qzv b2 t2 _ _ i1,i2,by show Option.map _ (M.cmpD s2 op d1 d2)=_; rw[e3]; rfl,λz m3 H3 b3 t3 R3 i3=>⟨k,i3.bl,?_⟩⟩
  cases k with
  |true=>
   rw[Xq rfl]at e ⊢;exact qzj e λd3 s3 e4 e=>rsI R3 (U.mono (b1.trans (b2.trans b3)) (t1.trans (t2.trans t3))) e4 λy' m4 H4 b4 t4 R4 i4=>
    ⟨m4,s3,d2,d3,dd,st',R4,qzv (b3.trans b4) (t3.trans t4) _ _ i2,i4,e,q.mono (b1.trans (b2.trans (b3.trans b4))) (t1.trans (t2.trans (t3.trans t4)))⟩
  |false=>
   rw[Z9 Qq7]at e ⊢;have q:=q.of e;exact q _ m3 H3 (b1.trans (b2.trans b3)) (t1.trans (t2.trans t3)) R3 (mkBl _)
 |@and a b pa pb r pos L O=>
  have O:PE X (.BoolOp .And (pb::r) pos) (tD X.K λτ st=>(M.rn fns dl n).ev τ st b):=by
   cases r with
   |nil=>exact qid (A.e c X G b pb O)
   |cons=>exact A.e c X G b _ O
  refine(pe_and (A.e c X G a pa L) O).imp λσ H Q h=>h.el λm st τ d st' Y U e q=>qzj e λd1 s1 e1 e=>rsI Y U e1 λv m1 H1 b1 t1 Z i1=>?_
  cases d1 with
  |bl k=>
   cases k with
   |true=>exact⟨Y0,i1.bl,rsI Z (U.mono b1 t1) e (q.mono b1 t1)⟩
   |false=>cases e; exact⟨Y1,i1.bl,q _ m1 H1 b1 t1 Z (mkBl _)⟩
  |_=>exact nn e
 |@or a b pa pb r pos L O=>
  have O:PE X (.BoolOp .Or (pb::r) pos) (tD X.K λτ st=>(M.rn fns dl n).ev τ st b):=by
   cases r with
   |nil=>exact qid (A.e c X G b pb O)
   |cons=>exact A.e c X G b _ O
  refine(pe_or (A.e c X G a pa L) O).imp λσ H Q h=>h.el λm st τ d st' Y U e q=>qzj e λd1 s1 e1 e=>rsI Y U e1 λv m1 H1 b1 t1 Z i1=>?_
  cases d1 with
  |bl k=>
   cases k with
   |false=>exact⟨Y1,i1.bl,rsI Z (U.mono b1 t1) e (q.mono b1 t1)⟩
   |true=>cases e; exact⟨Y0,i1.bl,q _ m1 H1 b1 t1 Z (mkBl _)⟩
  |_=>exact nn e
 |@ite q a b pq pa pb pos hq L O=>
  refine(qg2 (A.t c X G q pq hq) (A.e c X G a pa L) (A.e c X G b pb O)).imp λσ H Q h=>h.el λm st τ d st' Y U e J=>qzx e λbb e1 e=>rsI Y U e1 λm1 H1 b1 t1 Z=>?_
  cases O:bb.1 with
  |true=>
   rw[O,Xq rfl]at e;rw[Xq rfl];exact rsI Z (U.mono b1 t1) e (J.mono b1 t1)
  |false=>
   rw[O,Z9 Qq7]at e;rw[Z9 Qq7];exact rsI Z (U.mono b1 t1) e (J.mono b1 t1)
 |@tup es ps k pos hs=>
  refine(qdw (qzp A G hs)).imp λσ H Q h=>h.el λm st τ d st' Y U e J=>qzx e λp e1 e=>?_
  split at e
  ·exact nn e
  ·rename_i hl;have J:=J.of e;refine rsI Y U e1 λxs m1 H1 b1 t1 Z ix=>?_;have l1:=ix.length;have l2:=qqk;refine⟨by lia,λpp hp=>?_⟩;have sm:=qzw (o:=.tup xs) hp;exact J _ m1 _ b1 (t1.trans (Tr.of_same sm)) (Z.same sm) (qq3 (SqT.of qzk) (qzb (Sub.refl _) (Tr.of_same sm) _ _ ix))
 |@lst es ps pos hs=>
  refine(pe_lst (qzp A G hs)).imp λσ H Q h=>h.el λm st τ d st' Y U e J=>qzx e λp e1 e=>?_
  split at e
  ·exact nn e
  ·rename_i hl;have J:=J.of e;refine rsI Y U e1 λxs m1 H1 b1 t1 Z ix=>?_;have l1:=ix.length;have l2:=qqk;refine⟨by lia,λpp hp=>?_⟩;exact J _ (m1++[pp]) _ (b1.trans (Sub.app _ _)) (t1.trans (Tr.of_same (qzw hp))) (Z.new hp ix) Z.newLoc
 |@idx a b pa pb pos L O=>
  exact(pe_ix ix_D (A.e c X G a pa L) (A.e c X G b pb O) (qgd O.sh)).imp λσ H Q h=>qcg h
 |@call f x es p ps p0 pos hg hf hd hn hs=>
  obtain⟨fa,fd,a1,hm,F,hk,O⟩:=G'.tab f x hf;have hp:Star p:=by cases hs with|cons h _=>exact h.star
  have ht:(backTo pos (starEach ps X.env)).any (·.1)=false:=by cases hs with|cons _ t=>exact qq9 t pos X.env
  refine(qmn F (G.room.mono (by lia)) (G.gl hg) (hm.1 hn) hk O .nil qg9 (qzp A G hs) hd (hp _ _) ht).imp λσ H Q h=>?_;refine h.el λm st τ d st' Y U e J=>qzx e λq e1 e=>rsI Y U e1 λxs m1 H1 b1 t1 Z ix=>?_;show spN X.K fns dl f (xs++[]) H1 Q E0;have e:=e;rw[M.runK_call]at e;rw[Qzh];exact⟨m1,q.2,q.1,d,st',Z,ix,e,J.mono b1 t1⟩
 |@bcall b es p ps p0 pos hg d6 hs=>
  have hp:Star p:=by cases hs with|cons h _=>exact h.star
  have ht:(backTo pos (starEach ps X.env)).any (·.1)=false:=by cases hs with|cons _ t=>exact qq9 t pos X.env
  have hA:=qzp A G hs
  cases b with
  |len=>exact(qz6 qfv (G.gl hg) (G.no rfl) qwu hA (by decide) (by decide) (hp _ _) ht).imp λσ H Q h=>qqn h
  |min=>exact(qz6 (qfx G.calm) (G.gl hg) (G.no rfl) qfg hA (by decide) (by decide) (hp _ _) ht).imp λσ H Q h=>qqn h
  |tuple=>exact(qjm qyr (G.gl hg) (G.no rfl) qkz hA (by decide) (by decide) (hp _ _) ht).imp λσ H Q h=>qqn h
  |list=>exact(qjm (qb4 G.room.hd) (G.gl hg) (G.no rfl) qk1 hA (by decide) (by decide) (hp _ _) ht).imp λσ H Q h=>qqn h
  |any=>exact(qz6 (qfa G.calm) (G.gl hg) (G.no rfl) qfi hA (by decide) (by decide) (hp _ _) ht).imp λσ H Q h=>qqn h
  |sum=>exact(qz6 (qe9 G.calm) (G.gl hg) (G.no rfl) qfd hA (by decide) (by decide) (hp _ _) ht).imp λσ H Q h=>qqn h
  |all=>exact(qz6 (qfb G.calm) (G.gl hg) (G.no rfl) qfl hA (by decide) (by decide) (hp _ _) ht).imp λσ H Q h=>qqn h
  |sorted=>exact(qz6 (qws G.room.hd) (G.gl hg) (G.no rfl) qwt hA (by decide) (by decide) (hp _ _) ht).imp λσ H Q h=>qqn h
 |@isi1 t a pa p0 p1 pos hg ht c3 L=>
  refine(qz6 (qfy t ht) (G.gl hg) (G.no rfl) qw0 (qqp (A.e c X G a pa L) (qqp (ty_ok G ht c3) pa_nil rfl) (L.star _ _)) (by decide) (by decide) (L.star _ _) rfl).imp λσ H Q h=>?_;refine h.el λm st τ d st' Y U e J=>qzj e λd1 s1 e1 e=>qze e λnm e2 e3=>?_;cases e3;refine rsI Y U e1 λx m1 H1 b1 t1 Z ix=>⟨m1,s1,d1,nm,x,rfl,Z,ix,e2,J _ m1 H1 b1 t1 Z ?_⟩
  have:([t].any λt=>M.tyIs t nm)=M.tyIs t nm:=by simp
  rw[this];exact mkBl _
 |@isiN ts a pa p0 ps k p1 pos a9 hg ht L=>
  obtain⟨h1,h2⟩:=qh8 G ht;refine(qz6 (qfw ts h2) (G.gl hg) (G.no rfl) qw0 (qqp (A.e c X G a pa L) (qqp (qdw h1) pa_nil rfl) (L.star _ _)) (by decide) (by decide) (L.star _ _) rfl).imp λσ H Q h=>?_;refine h.el λm st τ d st' Y U e J=>qzj e λd1 s1 e1 e=>qze e λnm e2 e3=>?_;cases e3;refine rsI Y U e1 λx m1 H1 b1 t1 Z ix=>qch _ σ H1 _ ⟨?_,λpp hp=>?_⟩
  ·rw[Qqz];exact Qjb (qcs a9)
  ·have sm:=qzw (o:=.tup (ts.map λt=>V.ty t.name)) hp;exact⟨m1,s1,d1,nm,x,pp,rfl,qzk,Z.same sm,qzv (Sub.refl _) (Tr.of_same sm) _ _ ix,e2,J _ m1 _ b1 (t1.trans (Tr.of_same sm)) (Z.same sm) (mkBl _)⟩
 |@meth a k es pa p ps apos cpos L hs hn hl=>
  have hp:Star p:=by cases hs with|cons h _=>exact h.star
  have ht:(backTo cpos (starEach ps X.env)).any (·.1)=false:=by cases hs with|cons _ t=>exact qq9 t cpos X.env
  have few:((backTo cpos (starEach (p::ps) X.env)).all (λx=>!x.1)&&(backToKw cpos (keywordEach [] X.env)).all (λx=>x.1.isSome)&&decide ((p::ps).length+([]:List Zi).length+(if ([]:List Zi).isEmpty then 0 else 1)<30))=true:=by
   rw[List.all_eq_not_any_not];simp only[Bool.not_not,qq9 hs cpos X.env];exact Z7 hn
  have O:=λx=>qjh L.sh x X.env (Qa pa X.env)
  cases k with
  |append=>exact(qg8 PySem.F.plainAttrs_list PySem.F.slot_list_append PySem.F.type_list_append qbh (A.e c X G a _ L) (qzp A G hs) (O _) few hl (hp _ _) ht).imp λ_ _ _ h=>qk6 h
  |extend=>exact(qg8 PySem.F.plainAttrs_list PySem.F.slot_list_extend PySem.F.type_list_extend qbg (A.e c X G a _ L) (qzp A G hs) (O _) few hl (hp _ _) ht).imp λ_ _ _ h=>qk6 h
  |index=>exact(qg8 PySem.F.plainAttrs_list PySem.F.slot_list_index PySem.F.type_list_index (qdr hu) (A.e c X G a _ L) (qzp A G hs) (O _) few hl (hp _ _) ht).imp λ_ _ _ h=>qk6 h
  |insert=>exact(qg8 PySem.F.plainAttrs_list PySem.F.slot_list_insert PySem.F.type_list_insert qbf (A.e c X G a _ L) (qzp A G hs) (O _) few hl (hp _ _) ht).imp λ_ _ _ h=>qk6 h
 |@dic0 pos=>
  refine pe_dnewK.imp λσ H Q h=>h.el λm st τ d st' Y U e J=>?_;have e0:M.wdicAt (st++[Yc.dic Y0 []]) st.length=Y2 []:=by simp[M.wdicAt]
  have e:(match M.wdicAt (st++[Yc.dic Y0 []]) st.length with
   |some []=>(M.pairUp []).bind λkvs=>if kvs.length<=15 then Y2 (D.loc st.length,(st++[Yc.dic Y0 []]).set st.length (Yc.dic Y0 (M.dall kvs))) else Y3
   |_=>Y3)=Y2 (d,st'):=e
  rw[e0]at e;have e2:(st++[Yc.dic Y0 []]).set st.length (.dic Y0 [])=st++[.dic Y0 []]:=by simp
  have e:Y2 (D.loc st.length,(st++[Yc.dic Y0 []]).set st.length (.dic Y0 []))=Y2 (d,st'):=e;rw[e2]at e;have J:=J.of e;intro pp hp;exact J _ (m++[pp]) _ (Sub.app _ _) (Tr.of_same (qzw hp)) (Y.newD hp rfl) Y.newLoc
 |@dic es k v ks vs pos hP c9=>
  obtain⟨h1,h2,h3⟩:=qwx A G hP;refine(qmi h1 h2 h3 (by simp) c9).imp λσ H Q h=>?_;refine h.el λm st τ d st' Y U e J=>?_;have e:=e;refine qzx e λp e1 e=>?_
  split at e
  ·rename_i b6;refine qzx e λkvs e2 e=>?_
   split at e
   ·rename_i hl;have J:=J.of e;intro pp hp;have sm:=qzw (o:=.dK []) hp;refine qwq hP (Y.newD (kvs:=[]) hp rfl) (U.mono (Sub.app _ _) (Tr.of_same sm)) e1 λxs m1 H1 b1 t1 Z ix=>?_;obtain⟨ys,b5,b9⟩:=qab ix e2;have a3:=qzv b1 (Tr.refl H1) _ _ (Y.newLoc);obtain⟨a',d5,c7,ea,hH,b0,c0⟩:=Z.wdict b6 a3;cases ea;have b8:=b0;subst b8;have l1:=b5.length;refine⟨hH,ys,b9,by lia,?_⟩;exact J _ m1 _ ((Sub.app _ _).trans b1) ((Tr.of_same sm).trans (t1.trans (Tr.putD hH))) (Z.putD c0 c7 hH (b5.merge (rfl))) (qzv (Sub.refl _) (Tr.putD hH) _ _ a3)
   ·exact nn e
  ·exact nn e
 |@didx a b pa pb pos L O=>exact qg4 (by lia) (A.e c X G a pa L) (A.e c X G b pb O) (qgd O.sh)
 |@din neg a b pa pb pos L O=>exact qdb (qde (by lia) neg (A.e c X G a pa L) (A.e c X G b pb O)) (qv4 O.sh _)
 |@gidx x ks ds b pb p0 pos hg hm hd O=>
  obtain⟨ad,h1,h2⟩:=G.mo.gds x ks ds hm;exact qg3 (G.gl hg) h1 h2 hd (A.e c X G b pb O) (qgd O.sh)
 |@gin neg x ks ds b pb p0 pos hg hm hd O=>
  obtain⟨ad,h1,h2⟩:=G.mo.gds x ks ds hm;exact qdb (qdd neg (G.gl hg) h1 h2 hd (A.e c X G b pb O)) (by cases neg<;>rfl)
 |@sli a lo hi pa pl ph p2 pos L hl hh=>
  refine(qaa sl_D (A.e c X G a pa L) (qgr A G hl) (qgr A G hh)).imp λσ H Q h=>h.el λm st τ d st' Y U e J=>?_;have e:=e;exact qzj e λd1 s1 e1 e=>qzx e λl e2 e=>qzx e λu e3 e=>rsI Y U e1 λx m1 H1 b1 t1 Z i1=>rsI Z (U.mono b1 t1) e2 λm2 H2 b2 t2 R2=>rsI R2 (U.mono (b1.trans b2) (t1.trans t2)) e3 λm3 H3 b3 t3 R3=>
   ⟨m3,u.2,d1,d,st',R3,qzv (b2.trans b3) (t2.trans t3) _ _ i1,e,J.mono (b1.trans (b2.trans b3)) (t1.trans (t2.trans t3))⟩
 |@comp t it q elt sr tg a2 pq a0 a4 pos N ok hi ht hq he=>
  have GI:=λ{C fp s H}=>G.inner (C:=C) (fp:=fp) (s:=s) (H:=H) ok.kind ok.nd;exact(qda G.calm (qx1 G ok) (qye A G hi) (λC fp s H=>qqm GI ht λi a5 x hx=>.inr (qw6 ok.tl i a5 x hx)) (λC fp s H=>qca A GI hq) (λC fp s H=>A.e _ _ GI elt a0 he) (ok.fs X.env)).imp λσ H Q h=>qcf h
 |@cmpd t a q elt sr tg a2 pq a0 a4 pos N ok hi ht hq he=>
  have GI:=λ{C fp s H}=>G.inner (C:=C) (fp:=fp) (s:=s) (H:=H) ok.kind ok.nd;exact(qmc (qda G.calm (qx1 G ok) (qgu (A.e c X G a a2 hi)) (λC fp s H=>qqm GI ht λi a5 x hx=>.inr (qw6 ok.tl i a5 x hx)) (λC fp s H=>qca A GI hq) (λC fp s H=>A.e _ _ GI elt a0 he) (ok.fs X.env))).imp λσ H Q h=>qll h
 |@ttup es ps k pos hs=>
  refine(qdw (qzp A G hs)).imp λσ H Q h=>h.el λm st τ d st' Y U e J=>qzx e λp e1 e=>qzx e λks e2 e=>?_
  split at e
  ·exact nn e
  ·rename_i hl;have J:=J.of e;refine rsI Y U e1 λxs m1 H1 b1 t1 Z ix=>?_;obtain⟨e3,e4⟩:=ints_of e2 ix;subst e3;have l2:=qqk;refine⟨by rw[Qqz]; lia,λpp hp=>?_⟩;have sm:=qzw (o:=.tup (ks.map V.int)) hp;exact J _ m1 _ b1 (t1.trans (Tr.of_same sm)) (Z.same sm) (qbl qzk)
 |@tsli a lo hi pa pl ph p2 pos L hl hh=>
  refine(qaa sl_T (A.e c X G a pa L) (qgr A G hl) (qgr A G hh)).imp λσ H Q h=>h.el λm st τ d st' Y U e J=>?_;have e:=e;refine qzj e λd1 s1 e1 e=>qzx e λl e2 e=>qzx e λu e3 e=>?_
  cases d1 with
  |tup ds=>
   refine qzx e λks e4 e=>?_
   split at e
   ·rename_i hl;have J:=J.of e;exact rsI Y U e1 λx m1 H1 b1 t1 Z i1=>rsI Z (U.mono b1 t1) e2 λm2 H2 b2 t2 R2=>rsI R2 (U.mono (b1.trans b2) (t1.trans t2)) e3 λm3 H3 b3 t3 R3=>
     ⟨m3,u.2,ds,ks,R3,qzv (b2.trans b3) (t2.trans t3) _ _ i1,e4,hl,J.mono (b1.trans (b2.trans b3)) (t1.trans (t2.trans t3))⟩
   ·exact nn e
  |_=>exact nn e
 |@tdn pos=>
  refine pe_dnewT.imp λσ H Q h=>h.el λm st τ d st' Y U e J=>?_;have J:=J.of e;intro pp hp;exact J _ (m++[pp]) _ (Sub.app _ _) (Tr.of_same (qzw hp)) (Y.newC hp (λ_=>trivial) ⟨[],qzk,rfl⟩) Y.newLoc
 |@tdx a b pa pb pos L O=>exact qmd (by lia) (A.e c X G a pa L) (A.e c X G b pb O) (qgd O.sh)
 |@tdi neg a b pa pb pos L O=>exact qdb (qdc (by lia) neg (A.e c X G a pa L) (A.e c X G b pb O)) (qv4 O.sh _)
 |@tdg a b d pa pb pd apos cpos L O hd hl=>
  exact qme (by lia) (A.e c X G a pa L) (A.e c X G b pb O) (A.e c X G d pd hd) ⟨qjh L.sh _ _ _,by rw[O.star,hd.star]; rfl,hl,by rw[O.star,hd.star]; rfl⟩
 |@dgt a b pa pb apos cpos L O hl=>
  exact qml (by lia) (A.e c X G a pa L) (A.e c X G b pb O) ⟨qjh L.sh _ _ _,by rw[O.star]; rfl,hl,by rw[O.star]; rfl⟩
 |@attr C a f pa pos L hc=>
  obtain⟨h1,h2⟩:=G.mo.ats C f hc;refine(pe_fld (A.e c X G a pa L) (qjh L.sh _ _ _)).imp λσ H Q h=>h.el λm st τ d st' Y U e J=>qzj e λd1 s1 e1 e=>qzx e λfs e2 e=>qze e λd2 e3 e4=>?_;cases e4;refine rsI Y U e1 λx m1 H1 b1 t1 Z ix=>?_;obtain⟨l,p,dx,ys,rfl,_,rfl,hH,a6,_⟩:=Z.inst e2 ix;rcases a6.get f with⟨z,_⟩|⟨d',v,z1,z2,iv⟩
  ·rw[z]at e3; cases e3
  ·rw[z1]at e3;cases e3;exact⟨p,C,dx,ys,v,rfl,hH,h1,h2,z2,J _ m1 H1 b1 t1 Z iv⟩
 |@mcall C f m' x cn a es pa ps apos pos L hf hm hc hs hn c2=>
  obtain⟨fa,fd,a1,hl,F,hk,O⟩:=G'.tab f x hf;obtain⟨_,hC,_,_⟩:=G.mo.cls cn C hc;have hM:=hl.2 C m' hm;obtain⟨pl,ht⟩:=sh_mt L.sh hs.sh hn c2 X.env;have a7:∀σ H Q,tD X.K (λτ st=>M.stepEv (M.rn fns dl n) τ st (.mcall C f m' a es)) σ H Q->qlh C m' (spN X.K fns dl f) [] E0 (tD X.K λτ st=>(M.rn fns dl n).ev τ st a) (tL X.K λτ st=>M.evs ((M.rn fns dl n).ev τ) es st) σ H Q:=by
   intro σ H Q h;refine h.el λm st τ d st' Y U e J=>qzj e λd1 s1 e1 e=>qzx e λfs e2 e=>rsI Y U e1 λv m1 H1 b1 t1 Z ix=>?_;obtain⟨l,p,dx,ys,rfl,_,rfl,hH,a6,_⟩:=Z.inst e2 ix
   split at e
   ·exact nn e
   ·rename_i a8;refine qzx e λq e3 e=>?_;rcases a6.get m' with⟨_,z⟩|⟨d',v,z1,_,_⟩
    ·refine⟨p,dx,ys,rfl,hH,z,rsI Z (U.mono b1 t1) e3 λxs m2 H2 b2 t2 R2 i2=>?_⟩;have e:=e;rw[M.runK_call]at e;show spN X.K fns dl f (.ref p::(xs++[])) H2 Q E0;rw[Qzh];exact⟨m2,q.2,_,d,st',R2,qzm (qzv b2 t2 _ _ ix) i2,e,J.mono (b1.trans b2) (t1.trans t2)⟩
    ·rw[z1]at a8;exact absurd rfl a8
  have hr:Room (2*dl) X.A:=G.room.mono (by lia)
  cases hs with
  |nil=>
   refine(qg1 (A.e c X G a pa L) hC hM F hr O .nil qg9 ht).imp λσ H Q h=>?_
   ·obtain⟨m,st,τ,d1,s1,Y,U,e1,k⟩:=a7 σ H Q h;refine rsI Y U e1 λv m1 H1 b1 t1 Z ix=>?_;obtain⟨p,dx,ys,rfl,hH,z,m2,s2,d4,ds,s3,R2,S2,e2,k2⟩:=k v m1 H1 b1 t1 Z ix;cases e2;exact⟨p,dx,ys,rfl,hH,z,k2 [] m2 H1 (Sub.refl _) (Tr.refl _) R2 qqx⟩
  |cons h1 h2=>exact(qmf (A.e c X G a pa L) hC hM F hr O .nil qg9 (qzp A G (.cons h1 h2)) (h1.star _ _) (qq9 h2 pos X.env) ht).imp a7
 |@new C f x cn es p ps p0 pos hg hf hm hc hd hs=>
  obtain⟨fa,fd,a1,hl,F,hk,O⟩:=G'.tab f x hf;obtain⟨h1,_,h3,h4⟩:=G.mo.cls cn C hc;have hM:=hl.2 C _ hm;have hp:Star p:=by cases hs with|cons h _=>exact h.star
  have ht:(backTo pos (starEach ps X.env)).any (·.1)=false:=by cases hs with|cons _ t=>exact qq9 t pos X.env
  refine(qmg ⟨h3,hM.at_,hM.fn,h4⟩ F G.room (G.gl hg) h1 O .nil qg9 (qzp A G hs) hd (hp _ _) ht).imp λσ H Q h=>h.el λm st τ d st' Y U e J=>qzx e λq e1 e=>qzx e λw e2 e=>rsI Y U e1 λxs m1 H1 b1 t1 Z ix x dx hx c4 c1=>?_;have e2:=e2;rw[M.runK_call]at e2;obtain⟨sm,R2⟩:=Z.newI hx c4 c1;have lc:=Z.newLoc (p:=x) (H':=upd (upd H1 dx (.own x)) x (.ins C dx []))
  split at e
  ·rename_i hn;have J:=J.of e;rw[Qzh];refine⟨m1++[x],_,_,w.1,w.2,R2,qzm lc (qzb (Sub.app m1 [x]) (Tr.of_same sm) _ _ ix),e2,λv m2 H2 b2 t2 R3 iv=>?_⟩;have hw:w.1=.non:=by
    cases hq:w.1 with
    |non=>rfl
    |_=>rw[hq]at hn; cases hn
   rw[hw]at iv;exact⟨iv.non,J _ m2 H2 (b1.trans ((Sub.app m1 [x]).trans b2)) (t1.trans ((Tr.of_same sm).trans t2)) R3 (qzv b2 t2 _ _ lc)⟩
  ·exact nn e
end
section
variable {fns:List Fn}{dl n j:Nat}{c:Ctx}{X:Cx}
def tt_val{K:Qqq}(O:∀τ st,M.stepTst r τ st e=(r.ev τ st e).bind λp=>(M.truth p.2 p.1).map λk=>(k,p.2))(h:tTs K (λτ st=>M.stepTst r τ st e) F H Q):(tD K λτ st=>r.ev τ st e) F H λx H'=>∃k,TruV K x H' k/\Q k H':=by
 refine h.el λm st τ d st' R0 S0 z q=>?_;have z:=(O τ st).symm.trans z;refine qzj z λd1 s1 Z z=>qze z λk Y U=>?_;cases U;exact rsI R0 S0 Z λx m1 H1 b1 t1 J L=>⟨_,qlk J L Y,q m1 H1 b1 t1 J⟩
def qlj{K:Qqq}(O:∀τ st,M.stepTst r τ st e=(f τ st).bind λp=>(M.truth p.2 p.1).map λk=>(k,p.2))(U:∀τ st d st',f τ st=Y2 (d,st')->∃k,d=.bl k)(h:tTs K (λτ st=>M.stepTst r τ st e) F H Q):tB (tD K f) F H Q:=by
 refine h.el λm st τ d st' R0 Y z q=>?_;have z:=(O τ st).symm.trans z;refine qzj z λd1 s1 J z=>?_;obtain⟨k,rfl⟩:=U _ _ _ _ J;have q:=q.of z;exact rsI R0 Y J λx m1 H1 b1 t1 Z L=>⟨_,L.bl,q m1 H1 b1 t1 Z⟩
def din_bl{st:Yo}(h:M.dinR r τ st neg a b=Y2 (d,st')):∃k,d=.bl k:=by
 unfold M.dinR at h;refine qzj h λU F O h=>qzj h λq z L h=>?_
 cases q with
 |loc l=>
  refine qzx h λkvs J h=>?_
  split at h
  ·cases h; exact⟨_,rfl⟩
  ·exact nn h
 |_=>exact nn h
def tdi_bl{st:Yo}(h:M.tdiR r τ st neg a b=Y2 (d,st')):∃k,d=.bl k:=by
 unfold M.tdiR at h;refine qzj h λz J U h=>qzj h λq F O h=>?_
 cases z with
 |fup k=>
  cases q with
  |loc l=>
   refine qze h λkvs L h=>?_;cases h; exact⟨_,rfl⟩
  |_=>exact nn h
 |_=>exact nn h
def gin_bl{st:Yo}(h:M.ginR r τ st neg q b=Y2 (d,st')):∃k,d=.bl k:=by
 unfold M.ginR at h;refine qzj h λF J L h=>?_
 cases F with
 |str z=>cases h; exact⟨_,rfl⟩
 |_=>exact nn h
def tt_and{K:Qqq}(h:tTs K (λτ st=>M.stepTst r τ st (.and a b)) F H Q):tAnd (tTs K λτ st=>r.tst τ st a) (tTs K λτ st=>r.tst τ st b) F H Q:=by
 refine h.el λm st τ d st' Z L z q=>?_;have z:=z;refine qzx z λp Y z=>rsI Z L Y λm1 H1 b1 t1 O=>?_
 cases J:p.1 with
 |true=>
  rw[J,Xq rfl]at z;rw[Xq rfl];exact rsI O (L.mono b1 t1) z λU H2 b2 t2 R2=>q U H2 (b1.trans b2) (t1.trans t2) R2
 |false=>
  rw[J,Z9 Qq7]at z;have q:=q.of z;rw[Z9 Qq7];exact q m1 H1 b1 t1 O
def tt_or{K:Qqq}(h:tTs K (λτ st=>M.stepTst r τ st (.or a b)) F H Q):tOr (tTs K λτ st=>r.tst τ st a) (tTs K λτ st=>r.tst τ st b) F H Q:=by
 refine h.el λm st τ d st' Z L z q=>?_;have z:=z;refine qzx z λp Y z=>rsI Z L Y λm1 H1 b1 t1 O=>?_
 cases J:p.1 with
 |false=>
  rw[J,Z9 Qq7]at z;rw[Z9 Qq7];exact rsI O (L.mono b1 t1) z λU H2 b2 t2 R2=>q U H2 (b1.trans b2) (t1.trans t2) R2
 |true=>
  rw[J,Xq rfl]at z;have q:=q.of z;rw[Xq rfl];exact q m1 H1 b1 t1 O
def qv2{K:Qqq}(S0:SlotOk K m H τ σ)(U:SlotOk K F Z (τ.set i (Y2 O)) σ')(s:Sub m F)(t:Tr Z Y)(hd:∀v,MS.IsD K F Z O v->MS.IsD K m Y d v):SlotOk K m Y (τ.set i (Y2 d)) σ':=by
 refine⟨by have:=U.len; rwa [Qzs]at this ⊢,λj e z=>?_⟩
 by_cases J:i=j
 ·subst J;have hi:i<τ.length:=by
   have:=(Qqk.mp z).1;rwa [Qzs]at this
  rw[Qq9 hi]at z;cases z;obtain⟨v,L,q⟩:=U.at_ i O (Qq9 hi);exact⟨v,L,hd v q⟩
 ·rw[Qqs J]at z;obtain⟨v0,_,q0⟩:=S0.at_ j e z;obtain⟨v,L,q⟩:=U.at_ j e (by rw[Qqs J]; exact z);exact⟨v,L,qzv (Sub.refl m) t _ _ (qxi s _ _ _ q0 q)⟩
def qgo{f:Sl->Yo->Option (D×Yo)}(h:PS X p (tS X.K λτ st=>(f τ st).bind λq=>(M.setT (.var i) q.1 τ).map λτ'=>(Out.nx τ',q.2))):
  PS X p (tS X.K λτ st=>((f τ st).map λq=>M.gcD st q).bind λq=>(M.setT (.var i) q.1 τ).map λτ'=>(Out.nx τ',q.2)):=by
 intro pins s σ H Dn I q;refine q.el λm st τ o st' R0 S0 e J=>qzj e λd s1 e1 e=>?_;obtain⟨⟨d0,L⟩,e2,e3⟩:=mapD e1;refine qze e λτ' Y e5=>?_;cases e5;have Y:(if i<τ.length then Y2 (τ.set i (Y2 d)) else Y3)=Y2 τ':=Y
 split at Y
 case isFalse=>exact nn Y
 case isTrue hi=>
  cases Y;refine thn (h pins s σ H ⟨λF H1=>∃m1,Sub m m1/\Tr H H1/\Rel X.K m1 L H1/\SlotOk X.K m1 H1 (τ.set i (Y2 d0)) F,λ_ _=>False,λ_ _=>False,λ_ _=>False⟩ I (rsI (d:=.nx (τ.set i (Y2 d0))) (st':=L) R0 S0 (by show(f τ st).bind _=_; rw[e2]; show Option.map _ (if i<τ.length then Y2 (τ.set i (Y2 d0)) else Y3)=_; rw[Xq hi]; rfl) λm1 H1 b t R F Z=>⟨m1,b,t,R,Z⟩)) λfl s2 hf=>?_
  cases fl with
  |next=>
   obtain⟨F,H1,I1,m1,b1,t1,O,Z⟩:=hf;have plain:(d0,L)=(d,s1)->SP X pins Dn .next s2:=λz=>by
    cases z;exact⟨F,H1,I1,J m1 H1 b1 t1 O F Z⟩
   rcases gc_el e3 with z|⟨ok,z⟩
   ·exact plain z
   ·unfold M.gcX at z
    split at z
    ·rename_i hn;cases z;exact⟨F,H1,I1,J m H1 (Sub.refl m) t1 (R0.cut O b1 ok (Tr.refl H1) λ_ _ _ _ _ _=>rfl) F (qv2 S0 Z b1 (Tr.refl H1) λv q=>qev _ _ hn q)⟩
    ·split at z
     ·rename_i l hd;simp only at hd
      split at z
      ·rename_i hl
       split at z
       ·rename_i ds hc
        split at z
        ·rename_i hn;cases z;subst hd;obtain⟨a,ha⟩:=O.addr hc;obtain⟨xs,hx,ix⟩:=O.cell l _ a hc ha;obtain⟨o,I2⟩:=qko I1 hx;have t2:=Tr.lay (o:=o) hx;refine⟨F,_,I2,J m _ (Sub.refl m) (t1.trans t2) (R0.cut O b1 ok t2 λl' c a' e ea w=>?_) F (qv2 S0 Z b1 t2 λv q=>?_)⟩
         ·refine qzq λz=>?_;subst z;have h3:=qjb e;have:=O.nd l' l a' c _ (b1 l' a' ea) ha h3.2 hc w rfl;omega
         ·obtain⟨a',U,rfl⟩:=q.loc;rw[ha]at U;cases U;exact qbi (.inl ⟨o,qzk⟩) (qj4 _ _ hn (qzb (Sub.refl m1) t2 _ _ ix))
        ·exact plain z
       ·exact plain z
      ·exact plain z
     ·exact plain z
  |brk=>obtain⟨_,_,_,z⟩:=hf; exact z.elim
  |cont=>obtain⟨_,_,_,z⟩:=hf; exact z.elim
  |ret u=>obtain⟨_,_,_,_,_,z⟩:=hf; exact z.elim
def w_ok(A:AllOk fns dl n)(G:Good fns dl c X)(h:CkN j c e (.BoolOp L ps pos)):PW X (.BoolOp L ps pos) (tTs X.K λτ st=>M.stepTst (M.rn fns dl n) τ st e):=by
 cases j with
 |zero=>cases h
 |succ j=>
 cases h with
 |gc _ _ Y=>cases Y
 |of O U h=>
 clear O U
 cases h with
 |@and a b F z r pos J q=>
  refine(pw_and (A.t c X G a F J) ?_).imp λσ H Q h=>tt_and h
  cases r with
  |nil=>exact ql6 (A.t c X G b z q)
  |cons=>exact A.w c X G b _ _ _ q
 |@or a b F z r pos J q=>
  refine(pw_or (A.t c X G a F J) ?_).imp λσ H Q h=>tt_or h
  cases r with
  |nil=>exact pw_or1 (A.t c X G b z q)
  |cons=>exact A.w c X G b _ _ _ q
def qx6(q:PE X p (tD X.K λτ st=>r.ev τ st e))(a:∀w,isTrue p X.env w=(do let v <- w; standAt p.pos; holding [v] (truthy v)))(b:∀τ st,M.stepTst r τ st e=(r.ev τ st e).bind λp=>(M.truth p.2 p.1).map λk=>(k,p.2)):PT X p (tTs X.K λτ st=>M.stepTst r τ st e):=(qgm q a).imp λ_ _ _ h=>tt_val b h
def t_ok(A:AllOk fns dl n)(G':Good fns dl c X)(h:CkN j c e p):PT X p (tTs X.K λτ st=>M.stepTst (M.rn fns dl n) τ st e):=by
 have G:=G';have hu:=G'.room.units;have L:=A.e c X G e p h
 cases j with
 |zero=>cases h
 |succ j=>
 revert L
 cases h with
 |gc hs hq hp hg J=>
  intro L
  cases p with
  |Call=>exact qx6 L (λ_=>rfl) λ_ _=>rfl
  |ListComp=>exact qx6 L (λ_=>rfl) λ_ _=>rfl
  |List=>exact qx6 L (λ_=>rfl) λ_ _=>rfl
  |BinOp=>exact qx6 L (λ_=>rfl) λ_ _=>rfl
  |Subscript=>exact qx6 L (λ_=>rfl) λ_ _=>rfl
  |_=>cases hp
 |of hs hq h=>
 clear hs hq
 cases h with
 |nm h=>
  cases h with
  |var=>exact λL=>qx6 L (λ_=>rfl) λ_ _=>rfl
  |glo=>exact λL=>qx6 L (λ_=>rfl) λ_ _=>rfl
 |@not a Z pos J=>
  intro _;refine(pt_not (A.t c X G a Z J)).imp λσ H Q h=>h.el λm st τ d st' R0 S0 e0 q=>qze e0 λp e1 e2=>?_;cases e2;exact rsI R0 S0 e1 λm1 H1 b1 t1 R1=>q m1 H1 b1 t1 R1
 |and J F=>exact λ_=>(w_ok A G (j:=j+1) (.of rfl rfl (.and J F))).pt
 |or J F=>exact λ_=>(w_ok A G (j:=j+1) (.of rfl rfl (.or J F))).pt
 |@cmp op a b Z Y pos J F=>
  intro _;refine(ql9 (qxs hu op) (A.e c X G a Z J) (A.e c X G b Y F) (qv4 F.sh _)).imp λσ H Q h=>h.el λm st τ d st' R0 S0 e0 q=>qzj e0 λd1 s1 e1 e0=>qzj e0 λO U e2 e0=>qze e0 λk e3 e4=>?_;cases e4;exact rsI R0 S0 e1 λx m1 H1 b1 t1 R1 i1=>rsI R1 (S0.mono b1 t1) e2 λy m2 H2 b2 t2 R2 i2=>
   ⟨m2,U,d1,O,.bl d,U,R2,qzv b2 t2 _ _ i1,i2,by show Option.map _ (M.cmpD U op d1 O)=_; rw[show M.cmpD U op d1 O=Y2 d from e3]; rfl,λz m3 H3 b3 t3 R3 i3=>⟨d,i3.bl,q m3 H3 (b1.trans (b2.trans b3)) (t1.trans (t2.trans t3)) R3⟩⟩
 |@cmp2 op a0 a b d Z Y pd pos J F hd=>
  intro _;refine(qgn (qxs hu op) (qxs hu a0) (A.e c X G a Z J) (A.e c X G b Y F) (A.e c X G d pd hd) (qv4 hd.sh _)).imp λσ H Q h=>h.el λm st τ dd st' R0 S0 e q=>qzj e λd1 s1 e1 e=>qzj e λO U e2 e=>qzx e λk e3 e=>rsI R0 S0 e1 λx m1 H1 b1 t1 R1 i1=>rsI R1 (S0.mono b1 t1) e2 λy m2 H2 b2 t2 R2 i2=>
   ⟨m2,U,d1,O,.bl k,U,R2,qzv b2 t2 _ _ i1,i2,by show Option.map _ (M.cmpD U op d1 O)=_; rw[show M.cmpD U op d1 O=Y2 k from e3]; rfl,λz m3 H3 b3 t3 R3 i3=>⟨k,i3.bl,?_⟩⟩
  cases k with
  |true=>
   rw[Xq rfl]at e ⊢;refine qzj e λd3 s3 e4 e=>qze e λk' e5 e6=>?_;cases e6;exact rsI R3 (S0.mono (b1.trans (b2.trans b3)) (t1.trans (t2.trans t3))) e4 λy' m4 H4 b4 t4 R4 i4=>
    ⟨m4,s3,O,d3,.bl dd,s3,R4,qzv (b3.trans b4) (t3.trans t4) _ _ i2,i4,by show Option.map _ (M.cmpD s3 a0 O d3)=_; rw[show M.cmpD s3 a0 O d3=Y2 dd from e5]; rfl,
     λz m5 H5 b5 t5 R5 i5=>⟨dd,i5.bl,q m5 H5 (b1.trans (b2.trans (b3.trans (b4.trans b5)))) (t1.trans (t2.trans (t3.trans (t4.trans t5)))) R5⟩⟩
  |false=>
   rw[Z9 Qq7]at e ⊢;have q:=q.of e;exact⟨Y1,rfl,q m3 H3 (b1.trans (b2.trans b3)) (t1.trans (t2.trans t3)) R3⟩
 |ite hq J F=>exact λ_=>λpins s σ H Q I q=>by obtain⟨m,st,τ,d,st',_,_,z,_⟩:=q; cases z
 |@din neg a b Z Y pos J F=>exact λ_=>(qc9 (qde (by omega) neg (A.e c X G a Z J) (A.e c X G b Y F)) (qv4 F.sh _)).imp λσ H Q h=>qlj (λ_ _=>rfl) (λ_ _ _ _ z=>din_bl z) h
 |@tdi neg a b Z Y pos J F=>exact λ_=>(qc9 (qdc (by omega) neg (A.e c X G a Z J) (A.e c X G b Y F)) (qv4 F.sh _)).imp λσ H Q h=>qlj (λ_ _=>rfl) (λ_ _ _ _ z=>tdi_bl z) h
 |@gin neg x ks ds b Y p0 pos hg hm hd F=>
  intro _;obtain⟨ad,h1,h2⟩:=G.mo.gds x ks ds hm;exact(qc9 (qdd neg (G.gl hg) h1 h2 hd (A.e c X G b Y F)) (by cases neg<;>rfl)).imp λσ H Q h=>qlj (λ_ _=>rfl) (λ_ _ _ _ z=>gin_bl z) h
 |_=>exact λL=>qx6 L (λ_=>rfl) λ_ _=>rfl
def S_nx{K:Qqq}(p:PostO K m H (.nx τ) st' F)(b:Sub m q)(t:Tr H H')(L:Rel K q st' H')(J:SlotOk K q H' τ z):F.nx z H':=p q H' b t L z J
def qct{K:Qqq}(J:∀Q,(tD K λτ st=>r.ev τ st e) F H Q->O F H Q)(h:tS K (λτ st=>M.stepEx r τ st (.set (.var i) e)) Y F H):tAsg O (qyg i) Y F H:=by
 refine h.el λm st τ o st' R0 U L q=>qzj L λd1 s1 e1 L=>qze L λτ' z e3=>?_;cases e3;have z:(if i<τ.length then Y2 (τ.set i (Y2 d1)) else Y3)=Y2 τ':=z
 split at z
 ·cases z;exact J _ (rsI R0 U e1 λx m1 H1 b1 t1 R1 Z=>S_nx q b1 t1 R1 ((U.mono b1 t1).put Z))
 ·exact nn z
def qcu(IH:∀j,j<=n->AllOk fns dl j)(G:Good fns dl c X)(hf:∀x,X.fn x=Y0)(hi:c.N[i]?=Y2 x)(hl:c.sc.names.lookup x=Y2 .local\/c.sc.names.lookup x=Y2 .cell)(J:CkE c e p)(a0:isCd e=Y1)(hg:∀a,e≠.gc a)(hc:∃elt gs sc q,p=.ListComp elt gs sc q)(U:∀env:Env,env.scope=c.sc->(swapsWith p (Y2 (.Name x F)) pos.line env=pure Y1\/swapsWith p (Y2 (.Name x F)) pos.line env=pure Y0)):
  PS X (.Assign [.Name x F] p pos) (tS X.K λτ st=>M.stepEx (M.rn fns dl n) τ st (.set (.var i) e)):=by
 have A:=IH n (Qqj n);have hN:X.N.Nodup:=by rw[G.N]; exact G.nd
 have loc:∀{x:Yb},(c.sc.names.lookup x=Y2 .local\/c.sc.names.lookup x=Y2 .cell)->Loc X.env.scope x:=λ{x} h=>by rw[G.sc]; exact h
 rcases U X.env G.sc with z|z
 ·exact(qib hN (qja G hi) (loc hl) (A.e c X G e p J) z (.inl (hf x))).imp λD σ H h=>qct (λ_ q=>q) h
 ·cases n with
  |zero=>exact λpins s σ H Dn I q=>by obtain⟨m,st,τ,d,st',_,_,w,_⟩:=q; cases w
  |succ n=>
   have A1:=IH n (Qxq n);obtain⟨elt,gs,sc,q,rfl⟩:=hc
   cases J with
   |gc=>exact(hg _ rfl).elim
   |of U Y J=>
   clear U Y
   cases J with
   |@comp t it q L sr tg a2 pq a1 O cpos N ok hit ht Y J=>
    have GI:=λ{C fp s H}=>G.inner (C:=C) (fp:=fp) (s:=s) (H:=H) ok.kind ok.nd;exact(qbc G.calm (qx1 G ok) (qye A1 G hit) (λC fp s H=>qqm GI ht λi Z x hx=>.inr (qw6 ok.tl i Z x hx)) (λC fp s H=>qca A1 GI Y) (λC fp s H=>A1.e _ _ GI L _ J) (ok.fs X.env) hN (qja G hi) (loc hl) (.inl (hf x)) z).imp λD σ H h=>qct (λQ q=>qcf q) h
   |cmpd=>cases a0
def s1_ok(IH:∀j,j<=n->AllOk fns dl j)(G:Good fns dl c X)(hf:∀x,X.fn x=Y0)(h:CkS c s p):PS X p (tS X.K λτ st=>M.stepEx (M.rn fns dl n) τ st s):=by
 have A:=IH n (Qqj n);have hN:X.N.Nodup:=by rw[G.N]; exact G.nd
 have loc:∀{x:Yb},(c.sc.names.lookup x=Y2 .local\/c.sc.names.lookup x=Y2 .cell)->Loc X.env.scope x:=λ{x} h=>by rw[G.sc]; exact h
 cases h with
 |@set i e x p pos pos' hi hl he hs=>exact(qib hN (qja G hi) (loc hl) (A.e c X G e p he) (hs X.env) (.inl (hf x))).imp λD σ H h=>qct (λ_ q=>q) h
 |@setC i e x p pos pos' hi hl he b8 hc hs=>
  by_cases b6:∃a,e=.gc a
  ·obtain⟨a,rfl⟩:=b6
   cases he with
   |of _ _ he=>
    cases he with
    |nm h=>cases h
   |gc ws wq hp hg ha=>
    cases n with
    |zero=>exact λpins s σ H Dn I q=>by obtain⟨m,st,τ,d,st',_,_,w,_⟩:=q; cases w
    |succ n=>exact(qgo (qcu (λj hj=>IH j (Qxc hj)) G hf hi hl (.of ws wq ha) b8 hg hc hs)).imp λ_ _ _ q=>q
  ·exact qcu IH G hf hi hl he b8 (λa z=>b6 ⟨a,z⟩) hc hs
 |@dset a i e pa pi pe tpos pos ha hi he=>
  refine(qdz (by have:=G.room.units; omega) (A.e c X G a pa ha) (A.e c X G i pi hi) (A.e c X G e pe he) (sh_sw he.sh _ _)).imp λDn σ H h=>?_;refine h.el λm st τ o st' R0 Y F q=>qzj F λd1 s1 e1 F=>qzj F λd2 s2 e2 F=>qzj F λd3 s3 e3 F=>?_
  cases d2 with
  |loc l=>
   have F:=F;refine qzx F λkvs U F=>?_
   split at F
   ·rename_i hk;have q:=q.of F;rw[Qqo,decide_eq_true_eq]at hk;obtain⟨k,b5⟩:=qqr hk.1;refine rsI R0 Y e1 λx m1 H1 b1 t1 R1 i1=>rsI R1 (Y.mono b1 t1) e2 λy m2 H2 b2 t2 R2 i2=>rsI R2 (Y.mono (b1.trans b2) (t1.trans t2)) e3 λz m3 H3 b3 Z R3 i3=>?_;obtain⟨a',xs,a3,rfl,hH,b0,a6⟩:=R3.wdict U (qzv b3 Z _ _ i2);have hz:=qnw b5 i3;subst hz;have l1:=b0.length;have l2:=qqk;refine⟨a',_,rfl,DPut.k hH (by omega),?_⟩;have iv:=qzv (b2.trans b3) (t2.trans Z) _ _ i1;exact S_nx q (b1.trans (b2.trans b3)) (t1.trans (t2.trans (Z.trans (Tr.putD hH)))) (R3.putD a6 a3 hH (b0.put b5 iv)) (Y.mono (b1.trans (b2.trans b3)) (t1.trans (t2.trans (Z.trans (Tr.putD hH)))))
   ·exact nn F
  |_=>exact nn F
 |@tds a i e pa pi pe tpos pos ha hi he=>
  refine(qdz (by have:=G.room.units; omega) (A.e c X G a pa ha) (A.e c X G i pi hi) (A.e c X G e pe he) (sh_sw he.sh _ _)).imp λDn σ H h=>?_;refine h.el λm st τ o st' R0 Y F q=>qzj F λd1 s1 e1 F=>qzj F λd2 s2 e2 F=>qzj F λd3 s3 e3 F=>?_
  cases d2 with
  |loc l=>
   cases d3 with
   |fup k=>
    refine qzx F λkvs U F=>?_
    split at F
    ·rename_i hk;have q:=q.of F;refine rsI R0 Y e1 λx m1 H1 b1 t1 R1 i1=>rsI R1 (Y.mono b1 t1) e2 λy m2 H2 b2 t2 R2 i2=>rsI R2 (Y.mono (b1.trans b2) (t1.trans t2)) e3 λz m3 H3 b3 Z R3 i3=>?_;obtain⟨a',xs,a3,rfl,hH,b4,a6⟩:=R3.wtdict U (qzv b3 Z _ _ i2);obtain⟨b,rfl,hb⟩:=i3.fup;have l1:=b4.length;have l2:=qqk;refine⟨a',_,rfl,DPut.t hH (by rw[qyd]; exact hb) (by omega),?_⟩;have iv:=qzv (b2.trans b3) (t2.trans Z) _ _ i1;have tp:Tr H3 (upd H3 a' (.dT (putK xs (k.map Sum.inl) x))):=Tr.putT hH;exact S_nx q (b1.trans (b2.trans b3)) (t1.trans (t2.trans (Z.trans tp))) (R3.putC a6 rfl a3 tp ⟨_,qzk,qz7 (Sub.refl _) tp.w _ _ (b4.put iv)⟩) (Y.mono (b1.trans (b2.trans b3)) (t1.trans (t2.trans (Z.trans tp))))
    ·exact nn F
   |_=>exact nn F
  |_=>exact nn F
 |@expr e p pos he hs=>
  refine(qmq (A.e c X G e p he) (hs X.env)).imp λDn σ H h=>h.el λm st τ o st' R0 Y F q=>qze F λp e1 e2=>?_;cases e2;exact rsI R0 Y e1 λx m1 H1 b1 t1 R1 i1=>S_nx q b1 t1 R1 (Y.mono b1 t1)
 |@ret e p pos he=>
  refine(ps_ret (A.e c X G e p he)).imp λDn σ H h=>h.el λm st τ o st' R0 Y F q=>qze F λp e1 e2=>?_;cases e2;exact rsI R0 Y e1 λx m1 H1 b1 t1 R1 i1=>q m1 H1 b1 t1 R1 x i1
 |@ite q a b pq pa pb pos hq ha hb=>
  refine(ps_if (A.t c X G q pq hq) (A.s c X G hf a pa ha) (A.s c X G hf b pb hb)).imp λDn σ H h=>h.el λm st τ o st' R0 Y F L=>qzx F λp e1 F=>rsI R0 Y e1 λm1 H1 b1 t1 R1=>?_
  cases hp:p.1 with
  |true=>
   rw[hp,Xq rfl]at F;rw[Xq rfl];exact rsI R1 (Y.mono b1 t1) F (L.mono b1 t1)
  |false=>
   rw[hp,Z9 Qq7]at F;rw[Z9 Qq7];exact rsI R1 (Y.mono b1 t1) F (L.mono b1 t1)
 |@forr t it body tg c2 pb pos ht hi hs hb=>
   refine(qic (by rw[G.xe]; exact PassesOwn.never) G.calm (qye A G hi) (qqm G ht λi _ x _=>.inl (hf x)) (A.s c X G hf body pb hb) (hs X.env)).imp λDn σ H h=>?_
   refine h.el λm st τ o st' R0 Y F L=>qzx F λp e1 F=>rsI R0 Y e1 λm1 H1 J b1 t1 R1 hJ=>⟨λj k a8 H'=>∃m2 a2 a1,Sub m1 m2/\Tr H1 H'/\Rel X.K m2 a2 H'/\SlotOk X.K m2 H' a1 a8/\M.loop p.1 (λτ st d=>(M.setT t d τ).bind λO=>(M.rn fns dl n).ex O st body) k j a1 a2=Y2 (o,st'),
    ⟨_,m1,p.2,τ,Sub.refl _,Tr.refl _,R1,Y.mono b1 t1,F⟩,?_⟩
   rintro j k a8 H' ⟨m2,a2,a1,b2,t2,R2,S2,U⟩
   cases k with
   |zero=>exact nn U
   |succ k=>
    have U:=U;refine qzx U λoo e5 U=>?_
    cases oo with
    |none=>
     have L:=L.of U;exact .inl ⟨(hJ.mono b2 t2).done R2 e5,S_nx L (b1.trans b2) (t1.trans t2) R2 S2⟩
    |some d=>
     obtain⟨c0,hy⟩:=(hJ.mono b2 t2).next R2 e5;refine qzx U λz e6 U=>qzx e6 λa4 e7 e6=>.inr ⟨c0,λa5 H3=>∃m3 a9 a4,Sub m1 m3/\Tr H1 H3/\Rel X.K m3 a9 H3/\SlotOk X.K m3 H3 a4 a5/\M.loop p.1 (λτ st d=>(M.setT t d τ).bind λO=>(M.rn fns dl n).ex O st body) k (j+1) a4 a9=Y2 (o,st'),λa5 H3 w3=>⟨k,Qzb k,w3⟩,λx H2 b9=>?_⟩;obtain⟨sm,ix⟩:=hy x H2 b9;have t2:=t2.trans (Tr.of_same sm);have R2:=R2.same sm;have S2:=S2.mono (Sub.refl _) (Tr.of_same sm);refine qnr ix S2 e7 λa5 S3=>rsI R2 S3 e6 λm3 H3 b3 Z R3=>?_
     cases hz:z.1 with
     |nx a0=>
      rw[hz]at U;exact λa7 S4=>⟨m3,z.2,a0,b2.trans b3,t2.trans Z,R3,S4,U⟩
     |ct a0=>
      rw[hz]at U;exact λa7 S4=>⟨m3,z.2,a0,b2.trans b3,t2.trans Z,R3,S4,U⟩
     |bk a0=>
      rw[hz]at U;have L:=L.of U;exact λa7 S4=>S_nx L (b1.trans (b2.trans b3)) (t1.trans (t2.trans Z)) R3 S4
     |rt v=>
      rw[hz]at U;have L:=L.of U;exact λw iw=>L m3 H3 (b1.trans (b2.trans b3)) (t1.trans (t2.trans Z)) R3 w iw
 |bad=>exact λpins s σ H Dn I q=>by obtain⟨m,st,τ,d,st',_,_,z,_⟩:=q; cases z
 |@setA C a f e pa pe tpos pos ha he hc=>
  obtain⟨h1,h2⟩:=G.mo.ats C f hc;refine(ps_fld (A.e c X G a pa ha) (A.e c X G e pe he) (sh_swA he.sh _ _)).imp λDn σ H h=>h.el λm st τ o st' R0 Y F q=>qzj F λd1 s1 e1 F=>qzj F λd2 s2 e2 F=>qzx F λfs e3 F=>rsI R0 Y e1 λx m1 H1 b1 t1 R1 i1=>rsI R1 (Y.mono b1 t1) e2 λy m2 H2 b2 t2 R2 i2=>?_;obtain⟨l,p,dx,ys,rfl,hl,rfl,hH,b7,a6⟩:=R2.inst e3 i2;dsimp only at F
  split at F
  ·rename_i c3;have q:=q.of F;have l1:=b7.length;exact⟨p,C,dx,ys,rfl,hH,h1,h2,by omega,S_nx q (b1.trans b2) (t1.trans (t2.trans (Tr.putI hH))) (R2.putI a6 hl hH (b7.put (qzv b2 t2 _ _ i1))) (Y.mono (b1.trans b2) (t1.trans (t2.trans (Tr.putI hH))))⟩
  ·exact nn F
 |@ford t a body tg pa pb pos ht ha hb=>
  refine(qmz (by rw[G.xe]; exact PassesOwn.never) G.calm (A.e c X G a pa ha) (qqm G ht λi _ x _=>.inl (hf x)) (A.s c X G hf body pb hb) (qlu ha.sh X.env)).imp λDn σ H h=>?_;refine h.el λm st τ o st' R0 Y F L=>qzj F λd1 s1 e1 F=>?_
  cases d1 with
  |loc l=>
   have F:=F;refine qzx F λkvs e2 F=>qzx F λw e3 F=>?_
   split at F
   case h_2=>exact nn F
   case h_1 c1 hw=>
   have L:=L.of F;refine rsI R0 Y e1 λx m1 H1 b1 t1 R1 i1=>?_;obtain⟨a',xs,a3,rfl,hH,b0,a6⟩:=R1.wdict e2 i1;refine⟨a',xs,rfl,hH,λob nf=>?_⟩;have R2:=R1.ice (o:=ob) a6 a3 hH b0;have ti:=Tr.ice (o:=ob) hH;have IK:=b0.keys;have lk:=IK.length;rw[Qqz]at lk;have fz:∀{H':Hp},Tr (upd H1 a' (.frz ob (.dK xs))) H'->H' a'=Y2 (.frz ob (.dK xs)):=λt2=>t2.frz a' ob _ qzk
   refine⟨λj k a8 H'=>∃m2 a2 a1,Sub m1 m2/\Tr (upd H1 a' (.frz ob (.dK xs))) H'/\Rel X.K m2 a2 H'/\SlotOk X.K m2 H' a1 a8/\M.loop (.tup (M.keysOf kvs)) (λτ st d=>(M.setT t d τ).bind λO=>(M.rn fns dl n).ex O st body) k j a1 a2=Y2 w,
    ⟨_,m1,_,τ,Sub.refl _,Tr.refl _,R2,Y.mono b1 (t1.trans ti),e3⟩,?_⟩
   rintro j k a8 H' ⟨m2,a2,a1,b2,t2,R3,S2,U⟩
   cases k with
   |zero=>exact nn U
   |succ k=>
    have U:(Y2 (M.keysOf kvs)[j]?:Option (Option D)).bind (λo=>match o with
     |none=>Y2 (Out.nx a1,a2)
     |some d=>((M.setT t d a1).bind λO=>(M.rn fns dl n).ex O a2 body).bind λz=>match z.1 with
      |.nx O=>M.loop (.tup (M.keysOf kvs)) (λτ st d=>(M.setT t d τ).bind λO=>(M.rn fns dl n).ex O st body) k (j+1) O z.2
      |.ct O=>M.loop (.tup (M.keysOf kvs)) (λτ st d=>(M.setT t d τ).bind λO=>(M.rn fns dl n).ex O st body) k (j+1) O z.2
      |.bk O=>Y2 (.nx O,z.2)
      |.rt v=>Y2 (.rt v,z.2))=Y2 w:=U
    rw[oBs]at U
    cases e5:(M.keysOf kvs)[j]? with
    |none=>
     rw[e5]at U;cases U;refine .inl ⟨⟨fz t2,by rw[<- lk]; exact Qza.mp e5⟩,a',ob,xs,nf,fz t2,?_⟩;exact S_nx L (b1.trans b2) (t1.trans (Tr.thaw hH t2)) (R3.thaw hw (b2 l a' a3) (fz t2)) (S2.monoW (Sub.refl _) (Tw.thaw (fz t2)))
    |some d=>
     rw[e5]at U;have hj:=(Qqk.mp e5).1;refine qzx U λz e6 U=>qzx e6 λa4 e7 e6=>.inr ⟨⟨fz t2,by omega⟩,λa5 H3=>∃m3 a9 a4,Sub m1 m3/\Tr (upd H1 a' (.frz ob (.dK xs))) H3/\Rel X.K m3 a9 H3/\SlotOk X.K m3 H3 a4 a5/\M.loop (.tup (M.keysOf kvs)) (λτ st d=>(M.setT t d τ).bind λO=>(M.rn fns dl n).ex O st body) k (j+1) a4 a9=Y2 w,λa5 H3 w3=>⟨k,Qzb k,w3⟩,?_⟩;rintro x H2 ⟨rfl,p,hp,rfl⟩;obtain⟨x',ex,ix⟩:=IK.get e5;rw[Qqv,hp]at ex;cases ex;refine qnr (qzv b2 (ti.trans t2) _ _ ix) S2 e7 λa5 S3=>rsI R3 S3 e6 λm3 H3 b3 Z R4=>?_
     cases hz:z.1 with
     |nx a0=>
      rw[hz]at U;exact λa7 S4=>⟨m3,z.2,a0,b2.trans b3,t2.trans Z,R4,S4,U⟩
     |ct a0=>
      rw[hz]at U;exact λa7 S4=>⟨m3,z.2,a0,b2.trans b3,t2.trans Z,R4,S4,U⟩
     |bk a0=>
      rw[hz]at U;cases U;exact λa7 S4=>⟨a',ob,xs,nf,fz (t2.trans Z),S_nx L (b1.trans (b2.trans b3)) (t1.trans (Tr.thaw hH (t2.trans Z))) (R4.thaw hw ((b2.trans b3) l a' a3) (fz (t2.trans Z))) (S4.monoW (Sub.refl _) (Tw.thaw (fz (t2.trans Z))))⟩
     |rt v=>
      rw[hz]at U;cases U;exact λv' iv=>⟨a',ob,xs,nf,fz (t2.trans Z),L m3 _ (b1.trans (b2.trans b3)) (t1.trans (Tr.thaw hH (t2.trans Z))) (R4.thaw hw ((b2.trans b3) l a' a3) (fz (t2.trans Z))) v' (qqz (Sub.refl _) (Tw.thaw (fz (t2.trans Z))) _ _ iv)⟩
  |_=>exact nn F
theorem qlo(Y:∀j,j<=n->AllOk fns dl j)(G:Good fns dl c X)(L:∀x,X.fn x=Y0):∀{Z}{ps},CkSs c Z ps->PSs X ps (tS X.K λτ st=>M.exs (M.stepEx (M.rn fns dl n)) Z τ st)
 |_,_,.nil=>pss_nil.imp λDn σ H h=>by
  refine h.el λm st τ o st' U O z q=>?_;have q:=q.of z;exact q m H (Sub.refl m) (Tr.refl H) U _ O
 |_,_,.doc t=>(qaw ps_doc (qlo Y G L t)).imp λDn σ H h=>h
 |_,_,.cons h t=>(qaw (s1_ok Y G L h) (qlo Y G L t)).imp λDn σ H hq=>by
  refine hq.el λm st τ o st' U O z q=>qzx z λp e1 z=>rsI U O e1 λm1 H1 b1 t1 J=>?_
  cases F:p.1 with
  |nx a0=>
   rw[F]at z;exact λa1 S1=>rsI J S1 z (q.mono b1 t1)
  |rt d=>
   rw[F]at z;have q:=q.of z;exact q m1 H1 b1 t1 J
  |bk d=>
   rw[F]at z;have q:=q.of z;exact q m1 H1 b1 t1 J
  |ct d=>
   rw[F]at z;have q:=q.of z;exact q m1 H1 b1 t1 J
end
def allOk(fns)(dl):∀n j,j<=n->AllOk fns dl j:=by
 intro n
 induction n with
 |zero=>intro j h; rw[Nat.le_zero.mp h]; exact qb8 fns dl
 |succ n q=>
  intro j h;rcases Qz5 j (n+1) with z|z
  ·exact q j (by omega)
  ·have e:j=n+1:=by omega
   subst e;have A:=q n (Qqj n);exact⟨λc X G _ e p h=>e_ok A G h,λc X G _ e p h=>t_ok A G h,λc X G _ e J ps pos h=>w_ok A G h,λc X G hf F ps h=>qlo q G hf h⟩
structure FText (K:Qqq) (mg:Yb->Option Yv) (fns:List Fn) (names:List Yb) (glo:Glo) (f:Nat) (x:Yb):Prop where
 ex:∃(nm:Yb) (fa:Ya) (fd:Qr) (st:Stmt) (N ps:List Yb) (F:Fn),fns[f]?=Y2 F/\Fun K nm x st fa fd/\Lc K mg glo f x fa/\Binds K fd ps []/\FnScope N ps (qzy st)/\CkSs ⟨N,qzy st,names,glo⟩ F.body (qz1 st)/\F.np=ps.length/\F.nl=N.length
def qi0{K:Qqq}{st:Stmt}(ih:FTab P w K mg base glo fns names n)(Mg:Mo K mg glo w.params)(hF:fns[f]?=Y2 F)(a0:Fun K nm x st fa fd)(O:FnScope N ps (qzy st))(a3:CkSs ⟨N,qzy st,names,glo⟩ F.body (qz1 st))(a1:F.np=ps.length)(a2:F.nl=N.length):FnOk P w K mg base CX0 (2*(n+1)) fa fd ps (spN K fns (n+1) f):=by
 have Y:∀{ds:List D}{J st':Yo}{d:D},M.callD fns (n+1) f ds J=Y2 (d,st')->ds.length=F.np/\((M.Lv fns n).ex (ds.map Y2++List.replicate (F.nl - ds.length) Y3) J F.body).bind (λp=>match p.1 with
   |.rt d=>Y2 (d,p.2)
   |.nx _=>Y2 (D.non,p.2)
   |_=>Y3)=Y2 (d,st'):=λ{ds J st' d} e=>by
  have e:M.stepCall fns (M.Lv fns n) f ds J=Y2 (d,st'):=e;unfold M.stepCall at e;rw[hF]at e;dsimp only at e
  split at e
  ·rename_i hl;exact⟨hl,e⟩
  ·exact nn e
 refine a0.ok O (λvs H Q E h=>?_) (λa4 A outer s H vs Q E hr h=>?_)
 ·obtain⟨m,J,ds,d,st',_,Z,e,_⟩:=h;rw[<- Z.length,(Y e).1,a1]
 ·obtain⟨m,J,ds,d,st',R0,Z,e,q⟩:=h;obtain⟨hl,e⟩:=Y e;refine qzx e λp e1 L=>?_;obtain⟨k,e1⟩:=M.lim1_is e1;have G:Good fns n ⟨N,qzy st,names,glo⟩ (cxOf CX0 P w K mg base N x (qzy st) fa a4 A outer s H E).nox:=⟨hr,rfl,rfl,rfl,O.nd,O.kind,ih,Mg,rfl⟩
  refine⟨_,(allOk fns n k k (Qqj k)).s _ _ G (λ_=>rfl) F.body (qz1 st) a3,⟨m,J,ds.map Y2++List.replicate (F.nl - ds.length) Y3,p.1,p.2,R0,⟨?_,λi d0 hi=>?_⟩,e1,λm1 H1 b1 t1 R1=>?_⟩⟩
  ·unfold L2.start;rw[Qqi,Qqi,Qqz,Qqz,Qjw,Qjw,a2,Z.length]
  ·unfold L2.start
   by_cases U:i<ds.length
   ·rw[Qq2 (by simpa using U),Qqv]at hi;have e3:ds[i]?=Y2 d0:=by
     cases z:ds[i]? with
     |none=>rw[z]at hi; cases hi
     |some y=>rw[z]at hi; cases hi; rfl
    obtain⟨v,e4,iv⟩:=Z.get e3;refine⟨v,?_,iv⟩;rw[Qq2 (by rw[Qqz,<- Z.length]; exact U),Qqv,e4]
    rfl
   ·rw[Qzm (by simpa using U),Qj6]at hi
    split at hi<;>cases hi
  ·cases hp:p.1 with
   |rt d1=>
    rw[hp]at L;cases L;exact λv iv=>q v m1 H1 b1 t1 R1 iv
   |nx a5=>
    rw[hp]at L;cases L;exact λa6 S1=>q _ m1 H1 b1 t1 R1 qvj
   |bk d1=>rw[hp]at L; cases L
   |ct d1=>rw[hp]at L; cases L
def tab_ok{K:Qqq}(T:∀f x,names[f]?=Y2 x->FText K mg fns names glo f x)(Mg:Mo K mg glo w.params):
  ∀n,FTab P w K mg base glo fns names n:=by
 intro n
 induction n with
 |zero=>
  intro f x U;obtain⟨nm,fa,fd,st,N,ps,F,hF,q,Y,Z,z,O,J,L⟩:=(T f x U).ex;refine⟨fa,fd,ps,Y,?_,q.kp,Z⟩;refine⟨λvs H Q E h=>?_,λA outer s H a0 us vs Q E hr he a1 hv h=>?_⟩
  ·obtain⟨m,st,ds,d,st',_,_,e,_⟩:=h; cases e
  ·obtain⟨m,st,ds,d,st',_,_,e,_⟩:=h; cases e
 |succ n ih=>
  intro f x U;obtain⟨nm,fa,fd,st,N,ps,F,hF,q,Y,Z,z,O,J,L⟩:=(T f x U).ex;exact⟨fa,fd,ps,Y,qi0 ih Mg hF q z O J L,q.kp,Z⟩
noncomputable def qlp(K:Qqq):Sp:=λvs H Q _=>∃(a:Ya) (ns:List Int),vs=[.ref a]/\SqF K H a (ns.map V.int)/\ns.length<=63/\∀H',Q (.bl Y0) H'
def law_sp{K:Qqq}(h:∀ns:List Int,ns.length<=63->∃st',M.callD fns n f [.lst (ns.map D.int)] []=Y2 (.bl Y0,st'))(vs)(H)(Q)(E)(q:qlp K vs H Q E):spN K fns n f vs H Q E:=by
 obtain⟨a,ns,rfl,J,F,k⟩:=q;obtain⟨st',e⟩:=h ns F;refine⟨[],[],[.lst (ns.map D.int)],.bl Y0,st',⟨rfl,λl Y b c c' z O L Z w U=>?_,λl c b z O=>?_⟩,qzm (qbi J (qxh ns)) qqx,e,λv m' H' _ _ _ i=>?_⟩
 ·simp at L
 ·simp at z
 ·rw[i.bl]; exact k H'
def qm3{K:Qqq}(q:Only H)(h:SqL K H a xs):SqF K H a xs:=by
 rcases h with (h|⟨o,h⟩)|h
 ·rcases q a with z|⟨ob,ys,z⟩
  ·rw[h]at z; cases z
  ·rw[h]at z; cases z
 ·exact .inl ⟨o,h⟩
 ·exact .inr h
def walk_law{l:PySem.W.OpenLaw}{K:Qs->Qqq}(U:l.most=Y2 63)(J:d.params.defaults=[])(O:Room k Z1)(Z:∀(w:Qk) (h:Heap),YP w h->(K w.params).In h)(F:∀(w:Qk) (mg:Yb->Option Yv) (L:Ya) (h:Heap),(K w.params).In h->h.Ns mainGlobals mg->mg d.name=Y2 (.ref L)->
   ∃fd:Qr,(∀(s:Qz) (u:Yv),BindsTo s fd ⟨[u],[]⟩ [(x,u)])/\∀base:Heap,(K w.params).In base->base.Ns mainGlobals mg->FnOk l.prog w (K w.params) mg base CX0 k L fd [x] (qlp (K w.params))):
  PySem.W.WalkO q loose XP YP l.row.toRowW d [] (λf vs=>PySem.call f vs):=
 L2.walk_of U (by decide) J O Z F (λ_ _ a ns Y hO hS=>⟨a,ns,rfl,qm3 hO hS,Y,λ_=>rfl⟩) λ_ _ _ _ _ z=>z
def qgw(elt)(z)(sc)(q)(t)(p)(line)(env):swapsWith (.ListComp elt z sc q) (Y2 (.Name t p)) line env=pure Y1\/swapsWith (.ListComp elt z sc q) (Y2 (.Name t p)) line env=pure true:=by
 have e:swapsWith (.ListComp elt z sc q) (Y2 (.Name t p)) line env=pure (env.blockKind==.function&&env.kindOf t==Y2 .local&&p.line==q.line && !(sc.names.any λ(n,k)=>n==t&&(k==.local||k==.cell))):=rfl;rw[e]
 cases (env.blockKind==.function&&env.kindOf t==Y2 .local&&p.line==q.line && !(sc.names.any λ(n,k)=>n==t&&(k==.local||k==.cell))) with
 |false=>exact .inl rfl
 |true=>exact .inr rfl
inductive ClK (K:Qqq) (cn:Yb) (C:Ya):Prop
 |mk (a:Qx5 K mainGlobals cn=Y2 (Y2 (.ref C))) (pg:PySem.W.plainGet K C Str.empty=Y0) (hd:PySem.W.hasDictIn K C=Y0) (po:PySem.W.plainOver K C=Y0) (sa:PySem.W.findIn K (.ref C) "__setattr__" = Y2 (Y2 (.builtin "object.__setattr__"))) (mk:PySem.W.makesIn K C=Y0) (kp:Qzp K (.ref C)=Y0):ClK K cn C
def ClK.cls{K:Qqq}(h:ClK K q C):Cls K C:=by
 cases h with
 |mk a pg hd po sa mk kp=>exact⟨pg,hd,po,sa⟩
def ClK.mo{K:Qqq}(q:ClK K z C)(X:K.In h)(G:h.Ns mainGlobals mg):mg z=Y2 (.ref C)/\Cls K C/\PySem.W.makesIn K C=Y0/\Qzp K (.ref C)=true:=by
 have c:=q.cls
 cases q with
 |mk a pg hd po sa mk kp=>exact⟨Qjx X G a,c,mk,kp⟩
noncomputable def sq(a b:Yb):Bool:=a.cps.toList==b.cps.toList
def qqa(h:sq a b=Y0):a=b:=by
 obtain⟨⟨a⟩⟩:=a;obtain⟨⟨b⟩⟩:=b;have:a=b:=by simpa[sq] using h
 rw[this]
def qw9(a):sq a a=true:=by simp[sq]
def qbk(h:(!sq a b)=Y0):(a==b)=false:=by
 cases e:a==b with
 |false=>rfl
 |true=>
  rw[beq_iff_eq]at e;rw[e,qw9]at h;cases h
noncomputable def gd{α:Type}(b:Bool)(x:Option α):Option α:=bif b then x else Y3
def gd_iff:gd b x=Y2 e↔b=Y0/\x=Y2 e:=by cases b<;>simp[gd]
noncomputable def lk:List (Yb×Qn)->Yb->Option Qn
 |[],_=>Y3
 |(y,k)::r,x=>bif sq x y then Y2 k else lk r x
theorem qww:∀{l}{x},lk l x=l.lookup x
 |[],_=>rfl
 |(y,k)::r,x=>by
  unfold lk;rw[Qzw]
  cases e:sq x y with
  |true=>rw[qqa e,beq_self_eq_true]; rfl
  |false=>
   have:(x==y)=false:=by
    cases q:x==y with
    |false=>rfl
    |true=>rw[beq_iff_eq]at q; rw[q,qw9]at e; cases e
   rw[this];exact qww
noncomputable def ixS(x:Yb):List Yb->Option Nat
 |[]=>Y3
 |y::r=>bif sq y x then Y2 0 else(ixS x r).map (· + 1)
theorem ixS_eq:∀{N}{i},ixS x N=Y2 i->N[i]?=Y2 x
 |[],_,h=>nomatch h
 |y::r,i,h=>by
  unfold ixS at h
  cases e:sq y x with
  |true=>rw[e]at h; cases h; rw[qqa e]; rfl
  |false=>
   rw[e]at h;obtain⟨j,q,rfl⟩:=Qqf.mp (h);exact(ixS_eq q :)
noncomputable def kG:Option Qn->Bool
 |some .globalImplicit=>Y0
 |_=>Y1
noncomputable def kL:Option Qn->Bool
 |some .local=>Y0
 |some .cell=>Y0
 |_=>Y1
noncomputable def kV:Option Qn->Bool
 |some .local=>Y0
 |some .cell=>Y0
 |some .free=>Y0
 |_=>Y1
def kG_eq(h:kG o=Y0):o=Y2 .globalImplicit:=by
 unfold kG at h; split at h
 ·rfl
 ·cases h
def kL_eq(h:kL o=Y0):o=Y2 .local\/o=Y2 .cell:=by
 unfold kL at h; split at h
 ·exact .inl rfl
 ·exact .inr rfl
 ·cases h
def qny(h:kV o=Y0):o=Y2 .local\/o=Y2 .cell\/o=Y2 .free:=by
 unfold kV at h; split at h
 ·exact .inl rfl
 ·exact .inr (.inl rfl)
 ·exact .inr (.inr rfl)
 ·cases h
noncomputable def isG(c:Ctx)(x:Yb):Bool:=kG (lk c.sc.names x)
noncomputable def isL(c:Ctx)(x:Yb):Bool:=kL (lk c.sc.names x)
def qz8(h:isG c x=Y0):c.sc.names.lookup x=Y2 .globalImplicit:=qww▸kG_eq h
def qap(h:isL c x=Y0):c.sc.names.lookup x=Y2 .local\/c.sc.names.lookup x=Y2 .cell:=qww▸kL_eq h
noncomputable def noD(x:Yb):Bool:=!sq x ("__debug__" : Yb)
noncomputable def swOk:Qj->Bool
 |.ListComp ..=>Y1
 |.SetComp ..=>Y1
 |.DictComp ..=>Y1
 |_=>Y0
def sw_ok(h:swOk p=Y0)(t)(l)(env):swapsWith p t l env=pure false:=by
 cases p<;>first|rfl|cases h
abbrev TrE:=Ctx->Qj->Option E
noncomputable def qcc(c:Ctx)(x:Yb):Option E:=
 bif isG c x then(c.glo.cs.find? λq=>sq q.1 x).bind λq=>gd (noD x) (Y2 (.glo q.1 q.2))
 else(ixS x c.N).bind λi=>gd (kV (lk c.sc.names x)&&noD x && !sq x ("__classdict__" : Yb)) (Y2 (.var i))
noncomputable def trL(f:Qj->Option E):List Qj->Option (List E)
 |[]=>Y2 []
 |p::r=>(f p).bind λe=>(trL f r).map (e::·)
noncomputable def trP(f:Qj->Option E):List (Option Qj)->List Qj->Option (List E)
 |[],[]=>Y2 []
 |some k::ks,v::vs=>(f k).bind λa=>(f v).bind λb=>(trP f ks vs).map λr=>a::b::r
 |_,_=>Y3
noncomputable def trO(f:Qj->Option E):Option Qj->Option (Option E)
 |none=>Y2 Y3
 |some p=>(f p).map Y2
noncomputable def qhf(c:Ctx):Qj->Option (Yb×List Yb×List D)
 |.Name x _=>gd (isG c x&&noD x) (c.glo.ds.find? λq=>sq q.1 x)
 |_=>Y3
noncomputable def inNeg:CmpOp->Option Bool
 |.In=>Y2 Y1
 |.NotIn=>Y2 Y0
 |_=>Y3
noncomputable def qlc(o:Nat)(f:Qj->Option E)(c:Ctx)(a:Qj)(op:CmpOp)(b:Qj):Option E:=
 match inNeg op with
 |some neg=>match qhf c b with
  |some q=>(f a).map λx=>.gin neg q.1 q.2.1 x
  |none=>(f a).bind λx=>(f b).map λy=>bif o==1 then .din neg x y else bif o==2 then .tdi neg x y else .cmp op x y
 |none=>(f a).bind λx=>(f b).map λy=>.cmp op x y
noncomputable def qlw(o:Nat)(f:Qj->Option E)(c:Ctx)(a:Qj):Qj->Option E
 |.Slice lo hi Y3 _=>(f a).bind λx=>(trO f lo).bind λl=>(trO f hi).map λh=>bif o==2 then .tsli x l h else .sli x l h
 |b=>match qhf c a with
  |some q=>(f b).map λy=>.gidx q.1 q.2.1 q.2.2 y
  |none=>(f a).bind λx=>(f b).map λy=>bif o==1 then .didx x y else bif o==2 then .tdx x y else .idx x y
noncomputable def bOf(x:Yb):Option M.B:=[M.B.len,.min,.tuple,.list,.all,.sorted,.any,.sum].find? λb=>sq (Str.ofString (qov b)) x
noncomputable def tyOf(x:Yb):Option M.Ty:=[M.Ty.bl,.int,.str,.tup,.lst].find? λt=>sq (Str.ofString t.name) x
noncomputable def qf3(c:Ctx):List Qj->Option (List M.Ty)
 |[]=>Y2 []
 |.Name x _::r=>(tyOf x).bind λt=>gd (isG c x) ((qf3 c r).map (t::·))
 |_=>Y3
noncomputable def mOf(x:Yb):Option M.Mt:=[M.Mt.append,.extend,.index,.insert].find? λk=>sq (mName k) x
noncomputable def qla(f:Qj->Option E)(c:Ctx)(a:Qj):Qj->Option E
 |.Name x _=>(tyOf x).bind λt=>gd (isG c x) ((f a).map λe=>.isi e [t] Y1)
 |.Tuple ps _ _=>(qf3 c ps).bind λts=>gd (decide (ts.length<=1000)) ((f a).map λe=>.isi e ts Y0)
 |_=>Y3
noncomputable def qlb(f:Qj->Option E)(c:Ctx)(x:Yb)(p:Qj)(r:List Qj):Option E:=
 match ixS x c.fns with
 |some k=>gd (qhj x) ((trL f (p::r)).map (.call k))
 |none=>match c.glo.cl.find? λq=>sq q.1 x with
  |some q=>(c.glo.ms.find? λz=>z.2.1==q.2&&sq z.2.2 ("__init__" : Yb)).bind λz=>gd (c.fns[z.1]?).isSome ((trL f (p::r)).map (.new q.2 z.1))
  |none=>match r with
   |[t]=>bif sq x ("isinstance" : Yb) then qla f c p t else(bOf x).bind λb=>gd (bOk b) ((trL f (p::r)).map (.bcall b))
   |_=>(bOf x).bind λb=>gd (bOk b) ((trL f (p::r)).map (.bcall b))
noncomputable def qd5(c:Ctx)(x:Yb):List Qj->Option Qj
 |[.Call (.Name y _) [a] [] _]=>gd (sq x ("len" : Yb)&&sq y ("set" : Yb)&&isG c y) (Y2 a)
 |_=>Y3
noncomputable def qce(o:Nat)(f:Qj->Option E)(c:Ctx)(a:Qj)(m:Yb)(apos:Pos)(ps:List Qj)(pos:Pos):Option E:=
 gd (apos.endLine==pos.line) (bif Nat.ble 3 o then
  (c.glo.ms.find? λz=>z.2.1==o - 3&&sq z.2.2 m).bind λz=>(c.glo.cl.find? λq=>q.2==o - 3).bind λ_=>
   gd ((c.fns[z.1]?).isSome&&decide (ps.length<30)) ((f a).bind λe=>(trL f ps).map λes=>.mcall z.2.1 z.1 z.2.2 e es)
 else match ps with
  |[]=>Y3
  |p::r=>bif sq m ("get" : Yb) then(f a).bind λe=>(f p).bind λy=>(match r with
    |[]=>Y2 (.dgt e y)
    |[p']=>(f p').map λz=>.tdg e y z
    |_=>Y3)
   else(mOf m).bind λk=>gd (decide ((p::r).length<30)) ((f a).bind λe=>(trL f (p::r)).map λes=>.meth e k es))
noncomputable def trT(c:Ctx):Qj->Option T
 |.Name x _=>(ixS x c.N).bind λi=>gd (isL c x) (Y2 (.var i))
 |.Tuple es _ _=>(trTs es).map .tup
 |_=>Y3
where trTs:List Qj->Option (List Nat)
 |[]=>Y2 []
 |.Name x _::r=>(ixS x c.N).bind λi=>gd (isL c x) ((trTs r).map (i::·))
 |_=>Y3
noncomputable def trI(f:Qj->Option E)(c:Ctx)(tg:Qj):Qj->Option E
 |.Call (.Name x p) ps [] pos=>
  bif isG c x&&sq x ("range" : Yb) then match ps with
   |[a]=>(f a).map .rng1
   |[a,b]=>(f a).bind λx=>(f b).map λy=>.rng2 x y
   |_=>Y3
  else bif isG c x&&sq x ("zip" : Yb) then match ps,tg with
   |[a,b],.Tuple _ _ _=>(f a).bind λx=>(f b).map λy=>.zip x y
   |_,_=>Y3
  else bif isG c x&&sq x ("enumerate" : Yb) then match ps,tg with
   |[a],.Tuple _ _ _=>(f a).map .enu
   |_,_=>Y3
  else bif isG c x&&sq x ("reversed" : Yb) then match ps with
   |[a]=>(f a).map .rev
   |_=>Y3
  else f (.Call (.Name x p) ps [] pos)
 |e=>f e
noncomputable def ndB:List Yb->Bool
 |[]=>Y0
 |x::r=>!(r.any (sq x))&&ndB r
noncomputable def inN(sc:Scope):List Yb:=(sc.names.filter λy=>y.2==.local && !sq y.1 (".0" : Yb)).map (·.1)++(sc.names.filter λy=>y.2==.free).map (·.1)
noncomputable def inS(sc:Scope)(N:List Yb):List (Option Nat):=(inN sc).map λx=>bif kV (lk sc.names x) && !kL (lk sc.names x) then ixS x N else Y3
noncomputable def compOk(c:Ctx)(sc:Scope):Bool:=sc.kind==.function&&sc.names.all (λy=>y.2 != .cell)&&sc.names.all (λy=>y.2 != .free||(kV (lk c.sc.names y.1)&&lk c.sc.names y.1 != Y2 .local))&&sc.names.all (λy=>y.2 != .local||lk sc.names y.1==Y2 .local)&&ndB (inN sc)
noncomputable def mkC(o:Nat)(t:T)(i:E)(q:Option E)(e:E)(s:List (Option Nat)):E:=bif o==2 then .cmpd t i q e s else .comp t i q e s
noncomputable def qy5(o:Nat)(R:TrE)(c:Ctx)(elt tg iter:Qj)(ifs:Option Qj)(sc:Scope):Option E:=
 gd (compOk c sc&&shOk iter) ((bif o==2 then R c iter else trI (R c) c tg iter).bind λi=>(trT (c.inn (inN sc) sc) tg).bind λt=>gd (tlOk (inN sc) (qbb sc c.sc) t)
  ((trO (R (c.inn (inN sc) sc)) ifs).bind λk=>(R (c.inn (inN sc) sc) elt).map λe=>mkC o t i k e (inS sc c.N)))
noncomputable def trC:Const->Option E
 |.int i=>Y2 (.lit (.int i))
 |.bool i=>Y2 (.lit (.bl i))
 |.none=>Y2 (.lit .non)
 |.str i=>Y2 (.lit (.str i))
 |_=>Y3
noncomputable def trU(f:Qj->Option E)(a:Qj):UnaryOp->Option E
 |.USub=>(f a).map .neg
 |.Not=>(f a).map .not
 |_=>Y3
noncomputable def bo:BoolOp->E->E->E
 |.And=>.and
 |.Or=>.or
noncomputable def trBo(f:Qj->Option E)(op:BoolOp)(pos:Pos):List Qj->Option E
 |[a,b]=>(f a).bind λx=>(f b).map λy=>bo op x y
 |a::b::d::r=>(f a).bind λx=>(f (.BoolOp op (b::d::r) pos)).map λy=>bo op x y
 |_=>Y3
noncomputable def trCp(o:Nat)(f:Qj->Option E)(c:Ctx)(a:Qj):List CmpOp->List Qj->Option E
 |[op],[b]=>qlc o f c a op b
 |[op,op'],[b,d]=>(f a).bind λx=>(f b).bind λy=>(f d).map λz=>.cmp2 op op' x y z
 |_,_=>Y3
noncomputable def trCl(o:Nat)(f:Qj->Option E)(c:Ctx)(pos:Pos):Qj->List Qj->List Zi->Option E
 |.Name x _,p::r,[]=>gd (isG c x&&noD x) (match qd5 c x (p::r) with
  |some a=>(f a).map .lenset
  |none=>qlb f c x p r)
 |.Attribute a m apos,ps,[]=>qce o f c a m apos ps pos
 |_,_,_=>Y3
noncomputable def trDi(o:Nat)(f:Qj->Option E):List (Option Qj)->List Qj->Option E
 |[],[]=>Y2 (bif o==2 then .tdn else .dic [])
 |k::ks,v::vs=>gd (decide ((k::ks).length<=15)) ((trP f (k::ks) (v::vs)).map .dic)
 |_,_=>Y3
noncomputable def trLc(o:Nat)(R:TrE)(c:Ctx)(elt:Qj)(sc:Scope):List Comprehension->Option E
 |[⟨tg,iter,[],k⟩]=>gd (k==0) (qy5 o R c elt tg iter Y3 sc)
 |[⟨tg,iter,[q],k⟩]=>gd (k==0) (qy5 o R c elt tg iter (Y2 q) sc)
 |_=>Y3
noncomputable def trX(o:Nat)(R:TrE)(c:Ctx):Qj->Option E
 |.Name x _=>(qcc c x).map λe=>bif o==2 then .unt e else e
 |.Constant k _ _=>trC k
 |.BinOp a op b _=>(R c a).bind λx=>(R c b).map λy=>.bin op x y
 |.UnaryOp op a _=>trU (R c) a op
 |.BoolOp op ps pos=>trBo (R c) op pos ps
 |.Compare a os bs _=>trCp o (R c) c a os bs
 |.IfExp q a b _=>(R c q).bind λx=>(R c a).bind λy=>(R c b).map λz=>.ite x y z
 |.Tuple ps _ _=>(trL (R c) ps).map λes=>bif o==2 then .ttup es else .tup es
 |.List ps _=>(trL (R c) ps).map .lst
 |.Subscript a b _=>qlw o (R c) c a b
 |.Call g ps ks pos=>trCl o (R c) c pos g ps ks
 |.Attribute a f _=>gd (Nat.ble 3 o) ((c.glo.ats.find? λz=>z.1==o - 3&&sq z.2 f).bind λz=>(R c a).map λe=>.attr z.1 e z.2)
 |.Dict ks vs _=>trDi o (R c) ks vs
 |.ListComp elt gs sc _=>trLc o R c elt sc gs
 |_=>Y3
noncomputable def isGc:E->Bool
 |.gc _=>Y0
 |_=>Y1
noncomputable def pk(p:Pos):Nat:=(p.line*1000+p.col)*1000+p.endCol
noncomputable def trF(o:Nat->Nat)(R:TrE):TrE:=λc p=>gd (shOk p) (match o (pk p.pos) with
 |n=>(trX (n / 2) R c p).bind λe=>gd (qv8 e) (Y2 (bif (n % 2==1)&&gcOk p && !isGc e then .gc e else e)))
noncomputable def trE(o:Nat->Nat):Nat->TrE
 |0=>λ_ _=>Y3
 |n+1=>trF o (trE o n)
def mD{α q:Type}{o:Option α}{f:α->q}{b:q}(h:o.map f=Y2 b):∃a,o=Y2 a/\f a=b:=Qqf.mp h
def aD(h:(a&&b)=Y0):a=Y0/\b=true:=(Qqo _ _).mp h
def bDk{α q:Type}{o:Option α}{f:α->Option q}{b:q}{P:Prop}(h:o.bind f=Y2 b)(k:∀a,o=Y2 a->f a=Y2 b->P):P:=qzx h k
def mDk{α q:Type}{o:Option α}{f:α->q}{b:q}{P:Prop}(h:o.map f=Y2 b)(k:∀a,o=Y2 a->f a=b->P):P:=qze h k
def gDk{x:Option α}{e:α}{P:Prop}(h:gd b x=Y2 e)(k:b=Y0->x=Y2 e->P):P:=k (gd_iff.mp h).1 (gd_iff.mp h).2
def aDk{P:Prop}(h:(a&&b)=Y0)(k:a=Y0->b=Y0->P):P:=k ((Qqo _ _).mp h).1 ((Qqo _ _).mp h).2
def fD{α:Type}{p:α->Bool}{l:List α}{a:α}(h:l.find? p=Y2 a):a∈l/\p a=true:=⟨Qxe h,Qje h⟩
def TrO(Q:Ctx->E->Qj->Prop)(R:TrE):Prop:=∀{c:Ctx}{p:Qj}{e:E},R c p=Y2 e->Q c e p
abbrev Fo(Q:Ctx->E->Qj->Prop)(c:Ctx)(f:Qj->Option E):Prop:=∀{p:Qj}{e:E},f p=Y2 e->Q c e p
def qea(h:inNeg q=Y2 neg):q=inOp neg:=by cases q<;>first|(cases h; done)|(cases h; rfl)
def qvs(h:qcc c x=Y2 e):CkV c e x:=by
 unfold qcc at h
 cases g:isG c x with
 |true=>
  rw[g]at h;refine bDk h λq F h=>gDk h λhd h=>?_;cases h;obtain⟨J,z⟩:=fD F;cases qqa z;exact .glo (qz8 g) J (qbk hd)
 |false=>
  rw[g]at h;refine bDk h λi hi h=>gDk h λhd h=>?_;cases h;refine aDk hd λhd h2=>aDk hd λhd h1=>?_;rw[qww]at hd;exact .var (ixS_eq hi) (qny hd) (qbk h1) (qbk h2)
section
variable (hf:Fo Q c f)
include hf
theorem qxy:∀{ps}{es},trL f ps=Y2 es->CkL (Q c) es ps
 |[],_,h=>by cases h; exact .nil
 |p::r,es,h=>by
  refine bDk h λe z h=>?_;obtain⟨t,q,rfl⟩:=mD h;exact .cons (hf z) (qxy q)
theorem qix:∀{q}{vs}{es},trP f q vs=Y2 es->CkP (Q c) es q vs
 |[],[],_,h=>by cases h; exact .nil
 |some k::q,v::vs,es,h=>by
  refine bDk h λa J h=>bDk h λb F h=>?_;obtain⟨t,z,rfl⟩:=mD h;exact .cons (hf J) (hf F) (qix z)
 |none::_,_,_,h=>by unfold trP at h; cases h
 |some _::_,[],_,h=>by unfold trP at h; cases h
 |[],_::_,_,h=>by unfold trP at h; cases h
theorem qkd(h:trO f p=Y2 e):CkO (Q c) e p:=by
 cases p with
 |none=>cases h; exact .none
 |some p=>
  obtain⟨e,q,rfl⟩:=mD h;exact .some (hf q)
theorem qat(h:qhf c b=Y2 q):∃pos,b=.Name q.1 pos/\c.sc.names.lookup q.1=Y2 .globalImplicit/\(q.1,q.2.1,q.2.2)∈c.glo.ds/\(q.1==("__debug__" : Yb))=false:=by
 unfold qhf at h
 split at h
 ·rename_i x pos;refine gDk h λh1 h=>aDk h1 λh1 h2=>?_;obtain⟨F,z⟩:=fD h;have:=qqa z;subst this;exact⟨pos,rfl,qz8 h1,F,qbk h2⟩
 ·exact nn h
theorem qf7(h:qlc o f c a F b=Y2 e):CkG Q c e (.Compare a [F] [b] pos):=by
 have plain:∀{F e},((f a).bind λx=>(f b).map λy=>E.cmp F x y)=Y2 e->CkG Q c e (.Compare a [F] [b] pos):=λ{F e} h=>by
  refine bDk h λx z h=>?_;obtain⟨y,J,rfl⟩:=mD h;exact .cmp (hf z) (hf J)
 unfold qlc at h
 split at h
 ·rename_i neg hn
  split at h
  ·rename_i q O;obtain⟨p0,rfl,h1,h2,U⟩:=qat hf O;obtain⟨x,z,rfl⟩:=mD h;rw[qea hn];exact .gin h1 h2 U (hf z)
  ·cases L:o==1 with
   |false=>
    rw[L]at h
    cases L:o==2 with
    |false=>rw[L]at h; exact plain h
    |true=>
     rw[L]at h;refine bDk h λx z h=>?_;obtain⟨y,J,rfl⟩:=mD h;rw[qea hn];exact .tdi (hf z) (hf J)
   |true=>
    rw[L]at h;refine bDk h λx z h=>?_;obtain⟨y,J,rfl⟩:=mD h;rw[qea hn];exact .din (hf z) (hf J)
 ·exact plain h
theorem qf4(h:qlw o f c a b=Y2 e):CkG Q c e (.Subscript a b pos):=by
 unfold qlw at h
 split at h
 ·refine bDk h λx z h=>bDk h λl J h=>?_;obtain⟨k,L,rfl⟩:=mD h
  cases o==2 with
  |false=>exact .sli (hf z) (qkd hf J) (qkd hf L)
  |true=>exact .tsli (hf z) (qkd hf J) (qkd hf L)
 ·split at h
  ·rename_i q O;obtain⟨p0,rfl,h1,h2,U⟩:=qat hf O;obtain⟨x,z,rfl⟩:=mD h;exact .gidx h1 h2 U (hf z)
  ·refine bDk h λx z h=>?_;obtain⟨y,F,rfl⟩:=mD h
   cases Y:o==1 with
   |false=>
    cases o==2 with
    |false=>exact .idx (hf z) (hf F)
    |true=>exact .tdx (hf z) (hf F)
   |true=>exact .didx (hf z) (hf F)
omit hf in
theorem qcj(h:tyOf x=Y2 t):t≠.non/\Str.ofString t.name=x:=by
 obtain⟨h1,h2⟩:=fD h;refine⟨?_,qqa h2⟩;rintro rfl;simp at h1
omit hf in
theorem qy2:∀{ps}{z},qf3 c ps=Y2 z->CkTys c z ps
 |[],_,h=>by cases h; exact .nil
 |p::r,z,h=>by
  unfold qf3 at h
  split at h
  ·rename_i q; cases q
  ·rename_i q;cases q;refine bDk h λt J h=>gDk h λg h=>?_;obtain⟨z,F,rfl⟩:=mD h;obtain⟨h1,rfl⟩:=qcj J;exact .cons h1 (qz8 g) (qy2 F)
  ·exact nn h
theorem qf5(g:c.sc.names.lookup ("isinstance" : Yb)=Y2 .globalImplicit)(h:qla f c a t=Y2 e):CkG Q c e (.Call (.Name "isinstance" p0) [a,t] [] pos):=by
 unfold qla at h
 split at h
 ·refine bDk h λt q h=>gDk h λF h=>?_;obtain⟨e,z,rfl⟩:=mD h;obtain⟨h1,rfl⟩:=qcj q;exact .isi1 g h1 (qz8 F) (hf z)
 ·refine bDk h λJ q h=>gDk h λF h=>?_;obtain⟨e,z,rfl⟩:=mD h;exact .isiN (of_decide_eq_true F) g (qy2 q) (hf z)
 ·exact nn h
theorem bc_ok(g:isG c x=Y0)(h:((bOf x).bind λb=>gd (bOk b) ((trL f (p::ps)).map (.bcall b)))=Y2 e):CkG Q c e (.Call (.Name x p0) (p::ps) [] pos):=by
 refine bDk h λb z h=>gDk h λh1 h=>?_;obtain⟨es,q,rfl⟩:=mD h;have:=qqa (fD z).2;subst this;exact .bcall (qz8 g) h1 (qxy hf q)
theorem qf6(g:isG c x=Y0)(hd:noD x=Y0)(h:qlb f c x p r=Y2 e):CkG Q c e (.Call (.Name x p0) (p::r) [] pos):=by
 unfold qlb at h
 split at h
 ·rename_i k hk;refine gDk h λh1 h=>?_;obtain⟨es,L,rfl⟩:=mD h;exact .call (qz8 g) (ixS_eq hk) (qbk hd) h1 (qxy hf L)
 ·split at h
  ·rename_i q Z;refine bDk h λz O h=>gDk h λh1 h=>?_;obtain⟨es,L,rfl⟩:=mD h;obtain⟨y,U⟩:=Qzt.mp h1;obtain⟨hm,Y⟩:=fD Z;obtain⟨J,F⟩:=fD O;refine aDk F λha hb=>?_;have:=qqa Y;subst this;obtain⟨zf,zc,zm⟩:=z;have e1:=qqa hb;have e2:=eq_of_beq ha;subst e1 e2;exact .new (qz8 g) U J hm (qbk hd) (qxy hf L)
  ·split at h
   ·rename_i t
    cases hi:sq x ("isinstance" : Yb) with
    |true=>
     rw[hi]at h;have:=qqa hi;subst this;exact qf5 hf (qz8 g) h
    |false=>rw[hi]at h; exact bc_ok hf g h
   ·exact bc_ok hf g h
omit hf in
theorem qd4(h:qd5 c x ps=Y2 a):x=("len" : Yb)/\∃q z,ps=[.Call (.Name "set" q) [a] [] z]/\c.sc.names.lookup ("set" : Yb)=Y2 .globalImplicit:=by
 unfold qd5 at h
 split at h
 ·rename_i y q F z;refine gDk h λh1 h=>?_;cases h;refine aDk h1 λh1 g=>?_;have h1:=aD h1;have:=qqa h1.2;subst this;exact⟨qqa h1.1,q,z,rfl,qz8 g⟩
 ·exact nn h
theorem qcd(h:qce o f c a m F ps pos=Y2 e):CkG Q c e (.Call (.Attribute a m F) ps [] pos):=by
 unfold qce at h;refine gDk h λO h=>?_
 cases ho:Nat.ble 3 o with
 |true=>
  rw[ho]at h;refine bDk h λz Y h=>bDk h λq hq h=>gDk h λh1 h=>aDk h1 λh1 h2=>bDk h λx J h=>?_;obtain⟨es,he,rfl⟩:=mD h;obtain⟨y,L⟩:=Qzt.mp h1;obtain⟨hm,U⟩:=fD Y;obtain⟨a0,Z⟩:=fD hq;refine aDk U λha hb=>?_;obtain⟨zf,zc,zm⟩:=z;obtain⟨qx,qc⟩:=q;have e1:=qqa hb;have e2:=eq_of_beq ha;have e3:=eq_of_beq Z;subst e1;rw[<- e2]at e3;subst e3;exact .mcall (hf J) L hm a0 (qxy hf he) (of_decide_eq_true h2) O
 |false=>
  rw[ho]at h
  split at h
  ·exact nn h
  ·rename_i p r _
   cases hg:sq m ("get" : Yb) with
   |true=>
    cases qqa hg;rw[hg]at h;refine bDk h λx J h=>bDk h λy L h=>?_
    cases r with
    |nil=>
     cases h;exact .dgt (hf J) (hf L) O
    |cons p' r=>
     cases r with
     |nil=>
      obtain⟨z,Y,rfl⟩:=mD h;exact .tdg (hf J) (hf L) (hf Y) O
     |cons=>exact nn h
   |false=>
    rw[hg]at h;refine bDk h λk hk h=>gDk h λhn h=>bDk h λx J h=>?_;obtain⟨es,he,rfl⟩:=mD h;have:=qqa (fD hk).2;subst this;exact .meth (hf J) (qxy hf he) (of_decide_eq_true hn) O
omit hf in
theorem qcb:∀{es}{is},trT.trTs c es=Y2 is->CkTs c is es
 |[],_,h=>by cases h; exact .nil
 |p::r,is,h=>by
  unfold trT.trTs at h
  split at h
  ·rename_i q; cases q
  ·rename_i q;cases q;refine bDk h λi hi h=>gDk h λg h=>?_;obtain⟨F,z,rfl⟩:=mD h;exact .cons (ixS_eq hi) (qap g) (qcb z)
  ·exact nn h
omit hf in
theorem qy3(h:trT c p=Y2 t):CkT c t p:=by
 unfold trT at h
 split at h
 ·refine bDk h λi hi h=>gDk h λg h=>?_;cases h;exact .var (ixS_eq hi) (qap g)
 ·obtain⟨q,hi,rfl⟩:=mD h;exact .tup (qcb hi)
 ·exact nn h
theorem qij(h:trI f c tg p=Y2 e):CkI (Q c) c tg e p:=by
 unfold trI at h
 split at h
 ·rename_i x q ps pos
  cases z:isG c x&&sq x ("range" : Yb) with
  |true=>
   rw[z]at h;refine aDk z λg F=>?_;have:=qqa F;subst this
   split at h
   ·obtain⟨x,F,rfl⟩:=mD h;exact .rng1 (qz8 g) (hf F)
   ·refine bDk h λx F h=>?_;obtain⟨y,J,rfl⟩:=mD h;exact .rng2 (qz8 g) (hf F) (hf J)
   ·exact nn h
  |false=>
   rw[z]at h
   cases z:isG c x&&sq x ("zip" : Yb) with
   |true=>
    rw[z]at h;refine aDk z λg F=>?_;have:=qqa F;subst this;dsimp only[cond]at h
    split at h
    ·refine bDk h λx F h=>?_;obtain⟨y,J,rfl⟩:=mD h;exact .zip (qz8 g) (hf F) (hf J)
    ·exact nn h
   |false=>
    rw[z]at h
    cases z:isG c x&&sq x ("enumerate" : Yb) with
    |true=>
     rw[z]at h;refine aDk z λg F=>?_;have:=qqa F;subst this;dsimp only[cond]at h
     split at h
     ·obtain⟨y,J,rfl⟩:=mD h;exact .enu (qz8 g) (hf J)
     ·exact nn h
    |false=>
     rw[z]at h
     cases z:isG c x&&sq x ("reversed" : Yb) with
     |true=>
      rw[z]at h;refine aDk z λg F=>?_;have:=qqa F;subst this;dsimp only[cond]at h
      split at h
      ·obtain⟨y,J,rfl⟩:=mD h;exact .rev (qz8 g) (hf J)
      ·exact nn h
     |false=>
      rw[z]at h;exact .seq (hf h)
 ·exact .seq (hf h)
end
theorem qae:∀{l},ndB l=Y0->l.Nodup
 |[],_=>.nil
 |x::r,h=>by
  refine aDk h λh1 h2=>Qzv.mpr ⟨λq=>?_,qae h2⟩;rw[Qxo.mpr ⟨x,q,qw9 x⟩]at h1;cases h1
def qvt{R:TrE}(Y:TrO Q R)(h:qy5 o R c elt tg F ifs sc=Y2 e):CkG Q c e (.ListComp elt [⟨tg,F,ifs.toList,0⟩] sc pos):=by
 unfold qy5 at h;refine gDk h λJ h=>aDk J λJ a5=>aDk J λJ h5=>aDk J λJ h4=>aDk J λJ h3=>aDk J λh1 h2=>bDk h λi hi h=>bDk h λt ht h=>gDk h λa4 h=>?_;have hk:=eq_of_beq h1;have U:=λy Z=>by
  have:=Qq8.mp h2 y Z;simpa using this
 have O:∀y∈sc.names,y.2=.free->c.sc.names.lookup y.1=Y2 .cell\/c.sc.names.lookup y.1=Y2 .free:=λy Z e=>by
  have:=Qq8.mp h3 y Z;rw[e]at this;refine aDk (this) λha q=>?_;rw[qww]at ha q;rcases qny ha with z|z|z
  ·rw[z]at q; cases q
  ·exact .inl z
  ·exact .inr z
 have a1:∀y∈sc.names,y.2=.local->sc.names.lookup y.1=Y2 .local:=λy Z e=>by
  have:=Qq8.mp h4 y Z;rw[e]at this;rw[<- qww];exact eq_of_beq (this)
 have a2:(inS sc c.N).length=(inN sc).length:=by unfold inS; rw[Qqz]
 have a0:∀(j i:Nat),(inS sc c.N)[j]?=Y2 (Y2 i)->∃x,(inN sc)[j]?=Y2 x/\c.N[i]?=Y2 x/\sc.names.lookup x=Y2 .free:=λj i L=>by
  unfold inS at L;rw[Qqv]at L;refine mDk L λx hx L=>⟨x,hx,?_⟩
  cases q:kV (lk sc.names x) && !kL (lk sc.names x) with
  |false=>rw[q]at L; cases L
  |true=>
   rw[q]at L;refine aDk q λha q=>⟨ixS_eq L,?_⟩
   rw[<- qww];rcases qny ha with z|z|z
   ·rw[z]at q; cases q
   ·rw[z]at q; cases q
   ·exact z
 have hs:=λenv x=>qlu a5 env x;have ok:CpOk c sc (inS sc c.N) (inN sc) F t:=⟨hk,U,O,a1,a2,a0,qae h5,hs,a4⟩
 refine bDk h λk a3 h=>?_;obtain⟨e,he,rfl⟩:=mD h;unfold mkC
 cases ho:o==2 with
 |false=>
  rw[ho]at hi;exact .comp ok (qij (Y) hi) (qy3 ht) (qkd Y a3) (Y he)
 |true=>
  rw[ho]at hi;exact .cmpd ok (Y hi) (qy3 ht) (qkd Y a3) (Y he)
def bo_ok(h:Q c x p)(k:Q c y (boT z pos (q::r))):CkG Q c (bo z x y) (.BoolOp z (p::q::r) pos):=by
 cases z with
 |And=>exact .and h k
 |Or=>exact .or h k
def trX_ok{R:TrE}(F:TrO Q R)(hp:shOk p=Y0)(h:trX o R c p=Y2 e):CkG Q c e p:=by
 cases p with
 |Name x q=>
  obtain⟨y,L,rfl⟩:=mD h
  cases o==2 with
  |false=>exact .nm (qvs L)
  |true=>exact .unt (qvs L)
 |Constant k _ _=>
  cases k with
  |int i=>cases h; exact .int
  |bool i=>cases h; exact .bl
  |none=>cases h; exact .non
  |str i=>cases h; exact .str
  |_=>exact nn h
 |BinOp a U b q=>
  refine bDk h λx J h=>?_;obtain⟨y,L,rfl⟩:=mD h;exact .bin (F J) (F L)
 |UnaryOp U a q=>
  cases U with
  |USub=>
   obtain⟨x,J,rfl⟩:=mD h;exact .neg (F J)
  |Not=>
   obtain⟨x,J,rfl⟩:=mD h;exact .not (F J)
  |_=>exact nn h
 |BoolOp U ps q=>
  have h:trBo (R c) U q ps=Y2 e:=h;unfold trBo at h
  split at h
  ·refine bDk h λx J h=>?_;obtain⟨y,L,rfl⟩:=mD h;exact bo_ok (F J) (F L)
  ·refine bDk h λx J h=>?_;obtain⟨y,L,rfl⟩:=mD h;exact bo_ok (F J) (F L)
  ·exact nn h
 |Compare a os bs q=>
  have h:trCp o (R c) c a os bs=Y2 e:=h;unfold trCp at h
  split at h
  ·exact qf7 F h
  ·refine bDk h λx J h=>bDk h λy L h=>?_;obtain⟨z,O,rfl⟩:=mD h;exact .cmp2 (F J) (F L) (F O)
  ·exact nn h
 |IfExp q a b _=>
  refine bDk h λx J h=>bDk h λy L h=>?_;obtain⟨z,O,rfl⟩:=mD h;exact .ite (F J) (F L) (F O)
 |Tuple ps _ _=>
  obtain⟨x,J,rfl⟩:=mD h
  cases o==2 with
  |false=>exact .tup (qxy F J)
  |true=>exact .ttup (qxy F J)
 |List ps _=>
  obtain⟨x,J,rfl⟩:=mD h;exact .lst (qxy F J)
 |Subscript a b _=>exact qf4 F h
 |Call g ps ks q=>
  have h:trCl o (R c) c q g ps ks=Y2 e:=h;unfold trCl at h
  split at h
  ·refine gDk h λh1 h=>aDk h1 λg hd=>?_
   split at h
   ·rename_i a Z;obtain⟨x,J,rfl⟩:=mD h;obtain⟨rfl,q,p',e,hs⟩:=qd4 Z;cases e;exact .lenset (qz8 g) hs (F J)
   ·exact qf6 F g hd h
  ·exact qcd F h
  ·exact nn h
 |Attribute a f _=>
  refine gDk h λho h=>bDk h λz O h=>?_;obtain⟨x,J,rfl⟩:=mD h;obtain⟨hm,Y⟩:=fD O;refine aDk Y λZ hb=>?_;have:=qqa hb;subst this;exact .attr (F J) hm
 |Dict ks vs _=>
  have h:trDi o (R c) ks vs=Y2 e:=h;unfold trDi at h
  split at h
  ·cases h
   cases o==2 with
   |false=>exact .dic0
   |true=>exact .tdn
  ·refine gDk h λh1 h=>?_;obtain⟨x,J,rfl⟩:=mD h;exact .dic (qix F J) (of_decide_eq_true h1)
  ·exact nn h
 |ListComp elt gs sc _=>
  have h:trLc o R c elt sc gs=Y2 e:=h;unfold trLc at h
  split at h
  ·refine gDk h λh1 h=>?_;cases eq_of_beq h1;exact qvt (ifs:=Y3) F h
  ·refine gDk h λh1 h=>?_;cases eq_of_beq h1;exact qvt (ifs:=Y2 _) F h
  ·exact nn h
 |_=>exact nn h
def trF_ok{R:TrE}(L:TrO Q R):TrO (CkF Q) (trF o R):=λ{c p e} h=>by
 unfold trF at h;refine gDk h λq h=>bDk h λx F h=>gDk h λz h=>?_;cases h;have k:=trX_ok L q F
 cases J:(o (pk p.pos) % 2==1)&&gcOk p && !isGc x with
 |false=>exact .of q z k
 |true=>
  refine aDk J λh1 h2=>aDk h1 λ_ h1=>.gc q z h1 (λb e=>?_) k;rw[e]at h2;cases h2
theorem qy4:∀n,TrO (CkN n) (trE o n)
 |0=>λh=>nomatch h
 |n+1=>trF_ok (qy4 n)
noncomputable def qip:Qj->Bool
 |.ListComp ..=>Y0
 |_=>Y1
noncomputable def qld(o:Nat->Nat)(f:Qj->Option E)(c:Ctx)(p:Qj):Qj->Option S
 |.Name x _=>(ixS x c.N).bind λi=>gd (isL c x) ((f p).bind λe=>gd (isCd e).not (Y2 (.set (.var i) e)))
 |.Subscript a i tp=>(f p).bind λe=>(f a).bind λx=>(f i).map λy=>bif o (pk tp) / 2==2 then .tds x y e else .dset x y e
 |.Attribute a m tp=>(f p).bind λe=>gd (Nat.ble 3 (o (pk tp) / 2)) ((c.glo.ats.find? λz=>z.1==o (pk tp) / 2 - 3&&sq z.2 m).bind λz=>(f a).map λx=>.setA z.1 x z.2 e)
 |_=>Y3
noncomputable def trS1(o:Nat->Nat)(f:Qj->Option E)(B:List Stmt->List S)(c:Ctx):Stmt->Option S
 |.Assign [t] p _=>qld o f c p t
 |.Expr p _=>gd (swOk p) ((f p).map .expr)
 |.Return (Y2 p) _=>(f p).map .ret
 |.If q a b _=>(f q).map λe=>.ite e (B a) (B b)
 |.For tg it b [] pos=>gd (shOk it) ((trT c tg).bind λt=>bif o (pk pos) / 2==1 then(f it).map λe=>.ford t e (B b) else(trI f c tg it).map λe=>.forr t e (B b))
 |_=>Y3
noncomputable def qne:Stmt->Bool
 |.Expr (.Constant (.str _) _ _) _=>Y0
 |_=>Y1
noncomputable def trSL(g:Stmt->S):List Stmt->List S
 |[]=>[]
 |p::r=>bif qne p then trSL g r else g p::trSL g r
noncomputable def trSs(o:Nat->Nat)(f:TrE)(c:Ctx):Nat->List Stmt->List S
 |0,ps=>trSL (λ_=>.bad) ps
 |n+1,ps=>trSL (λp=>(trS1 o (f c) (trSs o f c n) c p).getD .bad) ps
theorem qk5(q:∀p,CkS c (g p) p):∀ps,CkSs c (trSL g ps) ps
 |[]=>.nil
 |p::r=>by
  unfold trSL
  cases hd:qne p with
  |false=>exact .cons (q p) (qk5 q r)
  |true=>
   unfold qne at hd
   split at hd
   ·exact .doc (qk5 q r)
   ·cases hd
def qf8(q:Fo CkE c f)(h:qld o f c p t=Y2 s):CkS c s (.Assign [t] p pos):=by
 unfold qld at h
 split at h
 ·rename_i x O;refine bDk h λi hi h=>gDk h λhl h=>bDk h λe F h=>gDk h λY h=>?_;cases h
  cases L:qip p with
  |true=>
   unfold qip at L
   split at L
   ·exact .setC (ixS_eq hi) (qap hl) (q F) (by simpa using Y) ⟨_,_,_,_,rfl⟩ λenv _=>qgw _ _ _ _ _ _ _ env
   ·cases L
  |false=>
   refine .set (ixS_eq hi) (qap hl) (q F) λenv=>sw_ok ?_ _ _ _;have:=(q F).sh
   cases p<;>first|rfl|(cases L; done)|(cases this; done)
 ·rename_i a i O;refine bDk h λe F h=>bDk h λx J h=>?_;obtain⟨y,Z,rfl⟩:=mD h
  cases o (pk O) / 2==2 with
  |false=>exact .dset (q J) (q Z) (q F)
  |true=>exact .tds (q J) (q Z) (q F)
 ·rename_i a m O;refine bDk h λe F h=>gDk h λ_ h=>bDk h λz hz h=>?_;obtain⟨x,J,rfl⟩:=mD h;obtain⟨hm,U⟩:=fD hz;refine aDk U λ_ hb=>?_;have:=qqa hb;subst this;exact .setA (q J) (q F) hm
 ·exact nn h
def qly(z:Fo CkE c f)(F:∀ps,CkSs c (B ps) ps)(h:trS1 o f B c p=Y2 s):CkS c s p:=by
 unfold trS1 at h
 split at h
 ·exact qf8 z h
 ·refine gDk h λh1 h=>?_;obtain⟨e,q,rfl⟩:=mD h;exact .expr (z q) λenv=>sw_ok h1 _ _ _
 ·obtain⟨e,q,rfl⟩:=mD h;exact .ret (z q)
 ·obtain⟨e,q,rfl⟩:=mD h;exact .ite (z q) (F _) (F _)
 ·rename_i tg it b pos;refine gDk h λh1 h=>bDk h λt J h=>?_
  cases L:o (pk pos) / 2==1 with
  |true=>
   rw[L]at h;obtain⟨e,q,rfl⟩:=mD h;exact .ford (qy3 J) (z q) (F _)
  |false=>
   rw[L]at h;obtain⟨e,q,rfl⟩:=mD h;exact .forr (qy3 J) (qij z q) (λenv x=>qlu h1 _ _) (F _)
 ·exact nn h
theorem qk4(q:TrO CkE f):∀n ps,CkSs c (trSs o f c n ps) ps
 |0,ps=>qk5 (λ_=>.bad) ps
 |n+1,ps=>qk5 (λp=>by
  cases h:trS1 o (f c) (trSs o f c n) c p with
  |none=>exact .bad
  |some s=>exact qly (q) (qk4 q n) h) ps
noncomputable def argN(st:Stmt):List Yb:=(qqf st).args.map (·.arg)
noncomputable def locN(st:Stmt):List Yb:=argN st++((qzy st).names.filter λy=>kL (Y2 y.2) && !((argN st).any (sq y.1))).map (·.1)
noncomputable def trFn(o:Nat->Nat)(names:List Yb)(glo:Glo)(st:Stmt):Fn:=
 ⟨(argN st).length,(locN st).length,trSs o (trE o 30) ⟨locN st,qzy st,names,glo⟩ 12 (qz1 st)⟩
noncomputable def scOk(st:Stmt):Bool:=(qzy st).kind==.function && !(qzy st).isCoroutine && !(qzy st).isGenerator&&ndB (locN st)&&(argN st).all (λx=>kL (lk (qzy st).names x))&&(qzy st).names.all (λy=>y.2 != .free)
def qc1{st:Stmt}(h:scOk st=Y0):FnScope (locN st) (argN st) (qzy st):=by
 refine aDk h λh F=>aDk h λh J=>aDk h λh L=>aDk h λh O=>aDk h λh1 h2=>?_;refine⟨eq_of_beq h1,by simpa using h2,by simpa using O,qae L,by unfold locN; rw[List.take_left],λx z=>?_,λy q=>?_⟩
 ·have:=kL_eq (Qq8.mp J x z);rwa [qww]at this
 ·simpa using Qq8.mp F y q
abbrev Orc:=List (Nat×List Nat)
abbrev Rw:=Option Ya×Yb×Yb×Stmt×Orc
noncomputable def orc:Orc->Nat->Nat
 |[],_=>0
 |(v,l)::r,k=>bif l.any (k.beq ·) then v else orc r k
noncomputable def msT:Nat->List Rw->List (Nat×Ya×Yb)
 |_,[]=>[]
 |n,(Y2 C,m,_)::r=>(n,C,m)::msT (n+1) r
 |n,(Y3,_)::r=>msT (n+1) r
noncomputable def fnsT(names:List Yb)(glo:Glo)(t:List Rw):List Fn:=t.map λr=>trFn (orc r.2.2.2.2) names glo r.2.2.2.1
def ms_mem:∀{n},q∈msT n t->∃k r,q.1=n+k/\t[k]?=Y2 r/\r.1=Y2 q.2.1/\r.2.1=q.2.2:=by
 induction t with
 |nil=>exact λh=>nomatch h
 |cons a t F=>
  obtain⟨C,m,z⟩:=a;intro n h;have up:q∈msT (n+1) t->∃k r,q.1=n+k/\((C,m,z)::t)[k]?=Y2 r/\r.1=Y2 q.2.1/\r.2.1=q.2.2:=λh=>by
   obtain⟨k,r,e,w⟩:=F h;exact⟨k+1,r,by lia,w⟩
  cases C with
  |none=>exact up h
  |some C=>
   rcases Qqa.mp h with rfl|h
   ·exact⟨0,_,rfl,rfl,rfl,rfl⟩
   ·exact up h
abbrev Bd(r:Rw):Prop:=∀(kV doc pm:Yv) (an:Option Ya) (cdv ct:Yv) (us:List Yv),us.length=(argN r.2.2.2.1).length->bindArgs (PySem.W.fnOf r.2.1 r.2.2.1 (qqf r.2.2.2.1) (qz1 r.2.2.2.1) (qzy r.2.2.2.1) .none kV doc pm an cdv ct) ⟨us,[]⟩=pure ((argN r.2.2.2.1).zip us)
inductive RwK (K:Qqq):Rw->Prop
 |fn {x:Yb}{st:Stmt}{o:Orc}{f:Ya}{od an:Option Ya}{sl:Array (Option Yv)}{oc kV dc pm cd ct:Yv}(a:Qx5 K mainGlobals x=Y2 (Y2 (.ref f))) (l:K.lookup f=Y2 ⟨oc,od,.func (PySem.W.fnOf x x (qqf st) (qz1 st) (qzy st) .none kV dc pm an cd ct),sl⟩) (c:PySem.W.codeIn K cd x=Y0) (k:Qzp K (.ref f)=Y0):RwK K (Y3,x,x,st,o)
 |me {C:Ya}{m x:Yb}{st:Stmt}{o:Orc}{f:Ya}{od an:Option Ya}{sl:Array (Option Yv)}{oc kV dc pm cd ct:Yv}(a:PySem.W.findIn K (.ref C) m=Y2 (Y2 (.ref f))) (fn:PySem.W.isFn K (.ref f)=Y0) (l:K.lookup f=Y2 ⟨oc,od,.func (PySem.W.fnOf m x (qqf st) (qz1 st) (qzy st) .none kV dc pm an cd ct),sl⟩) (c:PySem.W.codeIn K cd x=Y0) (k:Qzp K (.ref f)=Y0):RwK K (Y2 C,m,x,st,o)
noncomputable def rwOk(r:Rw):Bool:=scOk r.2.2.2.1&&(r.1.isNone||(qhj r.2.2.1).not)
def qgk{K:Qqq}(X:K.In h)(G:h.Ns mainGlobals mg)(q:glo.ms=msT 0 t)(L:∀r∈t,RwK K r)(U:∀r∈t,Bd r)(O:t.all rwOk=Y0)(f)(x)(e:(t.map (·.2.2.1))[f]?=Y2 x):FText K mg (fnsT (t.map (·.2.2.1)) glo t) (t.map (·.2.2.1)) glo f x:=by
 rw[Qqv]at e;obtain⟨r,F,rfl⟩:=mD e;have i:=Qqm F;have J:(fnsT (t.map (·.2.2.1)) glo t)[f]?=Y2 (trFn (orc r.2.2.2.2) (t.map (·.2.2.1)) glo r.2.2.2.1):=by
  unfold fnsT;rw[Qqv,F]
  rfl
 have q:∀C m,(f,C,m)∈glo.ms->r.1=Y2 C/\r.2.1=m:=λC m w=>by
  rw[q]at w;obtain⟨k,r',e,h1,h2⟩:=ms_mem w;obtain rfl:f=k:=e.trans (Qx3 k);cases F.symm.trans h1;exact h2
 refine aDk (Qq8.mp O r i) λh1 h2=>?_;have b:=U r i;have s:=qc1 h1
 cases L r i with
 |fn a l c k=>exact⟨_,_,_,_,_,_,_,J,qwg l c k,⟨λ_=>Qjx X G a,λC m w=>nomatch (q C m w).1⟩,(qwg l c k).binds b,s,qk4 (qy4 30) 12 _,rfl,rfl⟩
 |@me C m x st o f od an sl oc kV dc Z cd ct a fn l c k=>
  refine⟨_,_,_,_,_,_,_,J,qwg l c k,⟨λz=>?_,λC m w=>?_⟩,(qwg l c k).binds b,s,qk4 (qy4 30) 12 _,rfl,rfl⟩
  ·have h2:=h2;rw[z]at h2;cases h2
  ·obtain⟨e,Y⟩:=q C m w;cases e;cases Y;exact⟨a,fn,k⟩
structure Vof (K:Qqq) (u:Yv) (d:D):Prop where
 ex:∃v,RelV v u/\∀m H,IsD K m H d v
structure Vsf (K:Qqq) (us:List Yv) (ds:List D):Prop where
 ex:∃vs,Vals vs us/\∀m H,IsDs K m H ds vs
structure Enf (prm:Qs) (K:Qqq) (es:List Qp) (ks:List Yb) (ds:List D):Prop where
 ex:∃us vs,EntOk prm es ks us/\Vals vs us/\∀m H,IsDs K m H ds vs
def vInt{K:Qqq}:Vof K (.int i t) (.int i):=⟨.int _,⟨_,rfl⟩,λm H=>mkInt _⟩
def vStr{K:Qqq}:Vof K (.str s t) (.str s):=⟨.str _,⟨_,rfl⟩,λm H=>mkStr _⟩
def vNil{K:Qqq}:Vsf K [] []:=⟨[],.nil,λ_ _=>qqx⟩
def vCons{K:Qqq}:Vof K u d->Vsf K us ds->Vsf K (u::us) (d::ds)
 |⟨v,a,b⟩,⟨vs,c,e⟩=>⟨v::vs,.cons a c,λm H=>qzm (b m H) (e m H)⟩
def vTup{K:Qqq}{gd:Option Ya}(h:K.lookup a=Y2 ⟨.type "tuple",gd,.seq vs.toArray F,z⟩)(q:Vsf K vs ds)(n:Nat.ble vs.length sizeLine=Y0):Vof K (.ref a) (.tup ds):=by
 obtain⟨vs,c,d⟩:=q;exact⟨.ref _,rfl,λm H=>qq3 (.inr ⟨_,_,_,h,rfl,rfl,Nat.le_of_ble_eq_true n,c⟩) (d m H)⟩
def eNil{K:Qqq}:Enf q K [] [] []:=⟨[],[],.nil,.nil,λ_ _=>qqx⟩
def eCons{K:Qqq}:Vof K u d->Enf q K es z ds->Enf q K (⟨PyData.keyHash q k,.str k t,u⟩::es) (k::z) (d::ds)
 |⟨v,a,b⟩,⟨us,vs,e,c,f⟩=>⟨_,v::vs,.cons e,.cons a c,λm H=>qzm (b m H) (f m H)⟩
inductive GlK (K:Qqq) (q:Yb×D):Prop
 |mk {v:Yv}(g:Qx5 K mainGlobals q.1=Y2 (Y2 v)) (h:Vof K v q.2):GlK K q
inductive GdK (prm:Qs) (K:Qqq) (q:Yb×List Yb×List D):Prop
 |mk {a:Ya}{es:List Qp}{ep:Nat}(g:Qx5 K mainGlobals q.1=Y2 (Y2 (.ref a))) (l:K.lookup a=Y2 { cls:=.type "dict",data:=.dict es.toArray ep }) (h:Enf prm K es q.2.1 q.2.2) (n:(a==Qm)=Y1):GdK prm K q
noncomputable def gloOk(g:Glo):Bool:=(g.ats.all λq=>g.cl.any λz=>z.2==q.1)&&g.ds.all λq=>ndB q.2.1
def glo_mo{K:Qqq}(X:K.In h)(G:h.Ns mainGlobals mg)(O:gloOk glo=Y0)(Z:∀q∈glo.ds,GdK prm K q)(Y:∀q∈glo.cs,GlK K q)(F:∀q∈glo.cl,ClK K q.1 q.2)(U:∀q∈glo.ats,PySem.W.findIn K (.ref q.1) q.2=Y2 Y3)(z:∀x∈bNm,Qx5 K mainGlobals x=Y2 Y3):Mo K mg glo prm:=by
 refine aDk O λc1 c2=>⟨λcn C i=>(F _ i).mo X G,λC f i=>⟨?_,U _ i⟩,λx ks ds i=>?_,λx d i=>?_,λx i=>PySem.W.mg_none_of X G (z x i)⟩
 ·obtain⟨y,L,e⟩:=Qxo.mp (Qq8.mp c1 _ i);have e:=eq_of_beq e;subst e;exact(F _ L).cls
 ·cases Z _ i with
  |mk g l q n=>
   obtain⟨J,vs,e,c,d⟩:=q.ex;exact⟨_,Qjx X G g,⟨J,vs,_,_,l,e,c,d⟩,qae (Qq8.mp c2 _ i),n⟩
 ·cases Y _ i with
  |mk g q=>
   obtain⟨v,a,b⟩:=q.ex;exact⟨_,v,Qjx X G g,a,b⟩
def law_mk{l:PySem.W.OpenLaw}{K:Qqq}{st:Stmt}(X:K.In h)(G:h.Ns mainGlobals mg)(J:mg x=Y2 (.ref Y))(O:t[i]?=Y2 (Y3,x,x,st,o))(hy:argN st=[y])(hm:glo.ms=msT 0 t)(U:∀r∈t,Bd r)(hc:(t.all rwOk&&gloOk glo)=Y0)(ok:∀ns:List Int,ns.length<=63->∃st',M.callD (fnsT (t.map (·.2.2.1)) glo t) (n+1) i [.lst (ns.map D.int)] []=Y2 (.bl Y0,st'))(L:∀r∈t,RwK K r)(h1:∀q∈glo.ds,GdK w.params K q)(h2:∀q∈glo.cs,GlK K q)(h3:∀q∈glo.cl,ClK K q.1 q.2)(h4:∀q∈glo.ats,PySem.W.findIn K (.ref q.1) q.2=Y2 Y3)(z:∀x∈bNm,Qx5 K mainGlobals x=Y2 Y3):∃fd:Qr,(∀(s:Qz) (v:Yv),BindsTo s fd ⟨[v],[]⟩ [(y,v)])/\∀base:Heap,K.In base->base.Ns mainGlobals mg->FnOk l.prog w K mg base CX0 (2*(n+1)) Y fd [y] (qlp K):=by
 refine aDk hc λc1 c2=>?_;have Z:=glo_mo X G c2 h1 h2 h3 h4 z;have T:=qgk X G hm L U c1;have j:=Qqm O;have b:=U _ j;have s:=qc1 (aD (Qq8.mp c1 _ j)).1
 cases L _ j with
 |fn a l' c k=>
  cases J.symm.trans (Qjx X G a);have F:=λbase=>(qi0 (P:=l.prog) (base:=base) (tab_ok T Z _) Z (by unfold fnsT; rw[Qqv,O]; rfl) (qwg l' c k) s (qk4 (qy4 30) 12 _) rfl rfl).imp (law_sp ok);have b:=b;dsimp only[Bd]at b;rw[hy]at F b;exact⟨_,λs v=>.of_eq (b _ _ _ _ _ _ [v] rfl),λbase _ _=>F base⟩
end MS
end
section
namespace K38
open PySem L2 MS
open M (D Fn)
noncomputable abbrev tF(x:Yb)(i:Nat)(l:Orc):Rw:=(Y3,x,x,top i,l)
noncomputable abbrev tM(C:Ya)(m x:Yb)(i j:Nat)(l:Orc):Rw:=(Y2 C,m,x,cb (top i) j,l)
noncomputable def tab:List Rw:=[tF "bounds" 18 [],
 tF "fits" 19 [],
 tF "all_fit" 20 [(1,[38015079]),(2,[38028039])],
 tF "is_cell" 21 [(1,[40040072])],
 tF "good_steps" 22 [(1,[42040081])],
 tF "good_outcrops" 23 [(1,[46015059])],
 tF "sound_vein" 24 [],
 tF "numbers_agree" 25 [],
 tF "sound" 26 [(1,[62011049])],
 tF "inside" 32 [],
 tF "has_one" 33 [(1,[71015052])],
 tF "can_part" 34 [],
 tF "parted" 35 [],
 tF "in_ground" 36 [],
 tF "counted" 38 [],
 tF "through" 39 [(1,[94011030])],
 tM 265 "__init__" "Claim.__init__" 41 0 [(536,[99008018,100008019,101008017,102008017,103008019,104008018])],
 tM 265 "piece" "Claim.piece" 41 1 [(536,[107042051,107054063,108008020,108023034])],
 tM 265 "state" "Claim.state" 41 3 [(536,[115011021,117017026,119011022])],
 tM 347 "__init__" "Claims.__init__" 42 0 [(700,[125008017,126008017,127008016])],
 tM 347 "names" "Claims.names" 42 1 [(700,[130020029])],
 tM 347 "named" "Claims.named" 42 2 [(2,[133011032,135015030]),(700,[133023032,135015024])],
 tM 347 "standing" "Claims.standing" 42 3 [(700,[138033041,138045054]),(2,[138045060]),(536,[138045071])],
 tM 347 "stake" "Claims.stake" 42 4 [(700,[141008017,141059068,142008037]),(2,[141008022]),(1,[141070075])],
 tM 347 "vest" "Claims.vest" 42 5 [(700,[145016025,148012020]),(2,[145016031]),(536,[146011027,146054066,147012024])],
 tM 347 "vest_all" "Claims.vest_all" 42 6 [(701,[151020032]),(700,[152012042])],
 tM 347 "change" "Claims.change" 42 7 [(2,[156011032,158016031]),(700,[156023032,158016025,162019039,165033042]),(536,[159011027,164012022,165012022,165044054,167012023,169012023])],
 tM 347 "part" "Claims.part" 42 8 [(700,[173016025,178008017,180012020,180028036]),(2,[173016034,178008022]),(536,[174024036,177008020,178025056,179011023])],
 tF "climbed" 45 [],
 tF "met_columns" 46 [(1290,[197012028,198012030,201022034]),(2,[200037050])],
 tF "columns_at" 47 [(1290,[204021033]),(1291,[208016029]),(2,[209008017,210051060]),(1,[210021061])],
 tF "ground_of" 49 [(1290,[214011029])],
 tF "outcrop" 50 [(1290,[216011030])],
 tF "outcrops" 51 [],
 tF "covers" 52 [],
 tF "standing_grounds" 54 [(1291,[223058074])],
 tF "ranked" 55 [],
 tF "heirs" 56 [(1,[234012052,234028051,235018041])],
 tF "first_claim" 57 [],
 tF "title" 58 [(1,[239023041])],
 tF "owner" 59 [(1,[241012030]),(1290,[242038056])],
 tF "over" 60 [(1,[244025048])],
 tF "check_district" 66 [],
 tF "check_day" 67 [],
 tM 642 "__init__" "Field.__init__" 68 0 [(1290,[263008019,264008017,265008016,266008018,267008019,268008019,269008016,270008018]),(4,[269019021])],
 tM 642 "enter" "Field.enter" 68 1 [(1290,[274021032,276018026,278008016,279015032])],
 tM 642 "answer" "Field.answer" 68 2 [(1290,[283019040,285019040,287019041,289019039,291019039,292015026,292034042]),(700,[292015049])],
 tM 642 "enter_vein" "Field.enter_vein" 68 3 [(1290,[295008018,295019027,296008019,296029037]),(2,[295008028]),(700,[296008047])],
 tM 642 "enter_join" "Field.enter_join" 68 4 [(2,[302011033,302037060,306011030,308008025]),(1290,[302023033,302050060,306019030,308008019])],
 tM 642 "enter_stake" "Field.enter_stake" 68 5 [(2,[313008048,314028044]),(1290,[313020030,314028038,315008019,315026034]),(700,[315008065])],
 tM 642 "enter_dig" "Field.enter_dig" 68 6 [(4,[320015024,322011027,324008022,325034038]),(1290,[322019027,324008016,325008054,326008065]),(1,[325022039]),(1291,[326022057])],
 tM 642 "enter_pay" "Field.enter_pay" 68 7 [(1290,[330008050])],
 tM 642 "gatekeeper" "Field.gatekeeper" 68 8 [(1,[334016033]),(1290,[335042059])],
 tM 642 "owe" "Field.owe" 68 9 [(1290,[339012022,339031039])],
 tM 642 "size" "Field.size" 68 12 [(1290,[348015026])],
 tM 642 "veins" "Field.veins" 68 14 [(1290,[354020030])],
 tM 642 "vein" "Field.vein" 68 16 [(2,[360011033,362015031]),(1290,[360023033,362015025])],
 tM 642 "joined" "Field.joined" 68 17 [(2,[365011033]),(1290,[365023033,367015026])],
 tM 642 "claim" "Field.claim" 68 18 [(1290,[370016027]),(700,[370016039]),(536,[371016027,371029041,371043053,371055067,371069080])],
 tM 642 "standing" "Field.standing" 68 21 [(1290,[380015026,380036044]),(700,[380015045])],
 tM 642 "entries" "Field.entries" 68 22 [(1290,[383020030])],
 tF "check_folk" 70 [],
 tF "sums" 71 [(4,[392011013,394008030,394013029,394042060,395008030,395013029,395042060]),(1291,[393041056])],
 tF "owes" 72 [(4,[400027039])],
 tF "balance" 73 [(5,[404015062]),(4,[404016026,404047051])],
 tF "_law_draw" 75 [],
 tF "_law_size" 76 [(1,[425017101,426017111,426030111])],
 tF "_law_term" 77 [(1,[430011085])],
 tF "_law_rect" 78 [(1,[432013127,432020126,433013131,433020130])],
 tF "_law_steps" 79 [(1,[436017125,436018039])],
 tF "_law_outs" 80 [(1,[442072085])],
 tF "_law_who" 81 [(1,[448054073])],
 tF "_law_pick" 82 [],
 tF "_law_vein" 83 [(1,[454075124])],
 tF "_law_claim_fact" 84 [(1,[462011129])],
 tF "_law_fact" 85 [(1,[465017105,466017116])],
 tF "_law_plan" 86 [(1,[476016029])],
 tF "_law_dig" 87 [(1,[486056073])],
 tF "_law_pay" 88 [(1,[493081093])],
 tF "_law_dug" 89 [(1,[496036093])],
 tF "_law_entered" 90 [(1290,[507008050])],
 tF "law" 91 [(1,[512021100,514016086,514017051,515015105,518016055,518016060,518016116,518063102,518063106,518109116,522025063,523030068]),(1291,[517016036])]]
noncomputable def names:List Yb:=tab.map (·.2.2.1)
noncomputable def glo:Glo:=⟨[("COIN",.int 10),("COINS",.tup [.int 1,.int 1000000]),("DAYS",.tup [.int 1,.int 400]),("DEPTHS",.tup [.int 0,.int 12]),("FOLK",.tup [.int 1,.int 40]),("LEFT",.int 0),("LENGTHS",.tup [.int 1,.int 24]),("LINES",.tup [.int 1,.int 23]),("LOW",.int 3),("MOST_COLUMNS",.int 16),("MOVES",.tup [.tup [.int 0,.int 0],.tup [.int 1,.int 0],.tup [.int (-1),.int 0],.tup [.int 0,.int 1],.tup [.int 0,.int (-1)]]),("RIGHT",.int 2),("SIDES",.tup [.int 0,.int 1]),("STEPS",.tup [.int 0,.int 4]),("TERMS",.tup [.int 1,.int 400]),("TOP",.int 1)],[("ASKS",["join","stake","work","sell","part","give","dig","pay"],[.tup [.str "day",.str "day",.str "below"],.tup [.str "folk",.str "x",.str "y",.str "x",.str "y"],.tup [.str "day"],.tup [.str "day",.str "folk"],.tup [.str "day",.str "side",.str "line",.str "folk"],.tup [.str "day"],.tup [.str "folk",.str "x",.str "y",.str "x",.str "y",.str "floor",.str "coins"],.tup [.str "folk",.str "folk",.str "coins"]])],msT 0 tab,[("Claim",265),("Claims",347),("Field",642)],[(265,"days"),(265,"given"),(265,"ground"),(265,"last"),(265,"owner"),(265,"vested"),(347,"book"),(347,"row"),(347,"year"),(642,"day"),(642,"debts"),(642,"dug"),(642,"extent"),(642,"found"),(642,"joints"),(642,"staked"),(642,"year")]⟩
noncomputable def fns:List Fn:=fnsT names glo tab
end K38
end
section
namespace K38
open PySem (Str)
open M
noncomputable abbrev sO(x:String):D:=.str (Str.ofString x)
structure Cl where
 nm:Int
 j:Nat
 o:Int
 g:Int×Int×Int×Int
 ds:List Int
 la:Int
 v:Option Int
 gv:Option Int
noncomputable def oD:Option Int->D
 |none=>.non
 |some i=>.int i
noncomputable def rD(g:Int×Int×Int×Int):D:=.tup [.int g.1,.int g.2.1,.int g.2.2.1,.int g.2.2.2]
noncomputable def Cl.cell(c:Cl):Yc:=.obj 265 [("owner",.int c.o),("ground",rD c.g),("days",.loc (c.j+8)),("last",.int c.la),("vested",oD c.v),("given",oD c.gv)]
noncomputable def Cl.dl(c:Cl):Yc:=.lst Y0 (c.ds.map .int)
structure Zt where
 s:D
 dg:List (List Int×D)
 es:List D
noncomputable def FS(sz:Zt)(T d:Int)(fo jo bo:List (D×D))(ro:List D)(rest:Yo):Yo:=
 .obj 642 [("extent",sz.s),("year",.int T),("day",.int d),("found",.loc 1),("joints",.loc 2),("staked",.loc 3),("dug",.loc 6),("debts",.loc 7)]::.dic Y0 fo::.dic Y0 jo::.obj 347 [("year",.int T),("book",.loc 4),("row",.loc 5)]::.dic Y0 bo::.lst Y0 ro::.tdc Y0 sz.dg::.lst Y0 sz.es::rest
def isN(h:o=Y3):isNon (oD o)=true:=by rw[h]; rfl
def isS(h:o=Y2 x):isNon (oD o)=false:=by rw[h]; rfl
def nnN(h:o=Y3):(!isNon (oD o))=false:=by rw[h]; rfl
def nnS(h:o=Y2 x):(!isNon (oD o))=true:=by rw[h]; rfl
section
variable {sz:Zt}{T d:Int}{fo jo bo:List (D×D)}{ro:List D}{rest:Yo}
noncomputable def stW(c:Cl)(day:Int):String:=if c.gv.isSome then "given" else if c.la<day then "fallen" else if c.v.isNone then "unvested" else "stands"
def qqd(m)(c)(z)(h:rest[c.j+1]?=Y2 c.cell):callD fns (m+1) 18 [.loc (c.j+9),.int z] (FS sz T d fo jo bo ro rest)=Y2 (sO (stW c z),FS sz T d fo jo bo ro rest):=by
 unfold stW
 cases J:c.gv with
 |some x=>
  exact qzz 8 [] 1 (λq=>_/\_/\q) [.r c.cell,.b Y0] ⟨h,nnS J,rfl⟩
 |none=>
  by_cases F:c.la<z
  ·rw[Xq F];exact qzz 8 [] 1 (λq=>_/\_/\_/\_/\q) [.r c.cell,.b Y1,.r c.cell,.b Y0] ⟨h,nnN J,h,Z7 F,rfl⟩
  ·rw[Z9 F]
   cases L:c.v with
   |none=>exact qzz 8 [] 1 (λq=>_/\_/\_/\_/\_/\_/\q) [.r c.cell,.b Y1,.r c.cell,.b Y1,.r c.cell,.b Y0] ⟨h,nnN J,h,Z8 F,h,isN L,rfl⟩
   |some x=>exact qzz 8 [] 1 (λq=>_/\_/\_/\_/\_/\_/\q) [.r c.cell,.b Y1,.r c.cell,.b Y1,.r c.cell,.b Y1] ⟨h,nnN J,h,Z8 F,h,isS L,rfl⟩
end
noncomputable def cD(p:Int×Int):D:=.tup [.int p.1,.int p.2]
noncomputable def inB(g:Int×Int×Int×Int)(p:Int×Int):Bool:=decide (g.1<=p.1)&&decide (p.1<=g.2.2.1)&&(decide (g.2.1<=p.2)&&decide (p.2<=g.2.2.2))
def qj6(m)(st)(g)(p):callD fns (m+1) 9 [rD g,cD p] st=Y2 (.bl (inB g p),st):=by
 unfold inB
 by_cases h1:g.1<=p.1
 ·by_cases h2:p.1<=g.2.2.1
  ·by_cases z:g.2.1<=p.2
   ·by_cases F:p.2<=g.2.2.2
    ·rw[Z7 h1,Z7 h2,Z7 z,Z7 F];exact qzz 0 [] 1 (λq=>_/\_/\_/\_/\q) [.b Y0,.b Y0,.b Y0,.b Y0] ⟨Z7 h1,Z7 h2,Z7 z,Z7 F,rfl⟩
    ·rw[Z7 h1,Z7 h2,Z7 z,Z8 F];exact qzz 0 [] 1 (λq=>_/\_/\_/\_/\q) [.b Y0,.b Y0,.b Y0,.b Y1] ⟨Z7 h1,Z7 h2,Z7 z,Z8 F,rfl⟩
   ·rw[Z7 h1,Z7 h2,Z8 z,Bool.false_and];exact qzz 0 [] 1 (λq=>_/\_/\_/\q) [.b Y0,.b Y0,.b Y1] ⟨Z7 h1,Z7 h2,Z8 z,rfl⟩
  ·rw[Z7 h1,Z8 h2];exact qzz 0 [] 1 (λq=>_/\_/\q) [.b Y0,.b Y1] ⟨Z7 h1,Z8 h2,rfl⟩
 ·rw[Z8 h1];exact qzz 0 [] 1 (λq=>_/\q) [.b Y1] ⟨Z8 h1,rfl⟩
theorem asB:∀bs:List Bool,asBools (bs.map .bl)=Y2 bs
 |[]=>rfl
 |b::r=>by show(asBools (r.map .bl)).map (b::·)=_; rw[asB r]; rfl
def nlB(bs:List Bool):noLocs (bs.map .bl)=true:=qzl λ_ _=>rfl
def qcp(h:τ[i]?=Y2 (Y2 q))(z:rowAt st q=Y2 ds):∃s,src (RL c) τ st (.var i)=Y2 (s,st)/\(∀i,s.at st i=Y2 ds[i]?)/\s.size st=ds.length:=by
 have e:=qqo c τ st (.var i) (q,st) (by show(match τ[i]? with|some (Y2 d)=>Y2 (d,st)|_=>Y3)=_; rw[h])
 cases q with
 |tup xs=>
  cases z;exact⟨.tup ds,by show((RL c).ev τ st (.var i)).bind _=_; rw[e]; rfl,λi=>rfl,rfl⟩
 |lst xs=>
  have z:=z;exact⟨.lst (.lst xs),by show((RL c).ev τ st (.var i)).bind _=_; rw[e]; rfl,qqu z,qzt z⟩
 |loc l=>
  have z:seqAt st (.loc l)=Y2 ds:=z;exact⟨.lst (.loc l),by show((RL c).ev τ st (.var i)).bind _=_; rw[e]; show(seqAt st (.loc l)).map _=_; rw[z]; rfl,qqu z,qzt z⟩
 |_=>cases z
def qx2{α:Type}(xs:List α)(f g:α->D)(h:τ[i]?=Y2 (Y2 q))(O:rowAt st q=Y2 (xs.map f))(U:xs.length<lim)(F:inner sr τ=Y3::z)(Y:∀x∈xs,(RL c).ev (Y2 (f x)::z) st elt=Y2 (g x,st)):
  stepEv (RL c) τ st (.comp (.var 0) (.var i) Y3 elt sr)=Y2 (.loc st.length,st++[.lst Y0 (xs.map g)]):=by
 obtain⟨s,h1,h2,Z⟩:=qcp h O;refine qa6 h1 h2 Z F (by simp) (by simpa using U) λk d e hd J=>?_;rw[Qqv]at hd J;obtain⟨x,L,rfl⟩:=Qqf.mp hd;rw[L]at J;cases J;exact Y x (Qqm L)
noncomputable def hasB(g:Int×Int×Int×Int)(ps:List (Int×Int)):Bool:=ps.any (inB g)
def qit(m)(z:rowAt st q=Y2 (ps.map cD))(F:ps.length<lim):callD fns (m+2) 10 [rD g,q] st=Y2 (.bl (hasB g ps),st):=by
 have h1:=qx2 (c:=callD fns (m+1)) (τ:=[Y2 (rD g),Y2 q]) (i:=1) (elt:=.call 9 [.var 1,.var 0]) (sr:=[Y3,Y2 0]) ps cD (λp=>.bl (inB g p)) rfl z F rfl λp _=>qzf 0 [9] 1 (λq=>_/\q) [.c (.bl (inB g p),st)] ⟨qj6 m st g p,rfl⟩;have e:ps.map (λp=>D.bl (inB g p))=(ps.map (inB g)).map .bl:=by rw[Qq5]; rfl
 rw[e]at h1;have J:bfun st .any [.lst ((ps.map (inB g)).map .bl)]=Y2 (.bl (hasB g ps),st):=by
  show(asBools _).map _=_;rw[asB];simp[hasB,List.any_map,Function.comp_def]
 exact qzz 0 [] 2 (λq=>_/\_/\_/\q) [.c (.loc st.length,st++[.lst Y0 ((ps.map (inB g)).map .bl)]),.l ((ps.map (inB g)).map .bl),.c (.bl (hasB g ps),st)] ⟨h1,qza (st:=st) (nlB (ps.map (inB g))),J,rfl⟩
def gl{st:Yo}:(st++[c])[st.length]?=Y2 c:=by simp
def sl{st:Yo}:(st++[c]).set st.length c'=st++[c']:=by simp
def qa0(P:Nat->Sl->Yo->Prop)(h:τ[i]?=Y2 (Y2 q))(h0:P 0 τ st)(Y:∀k z st',P k z st'->rowAt st' q=Y2 ds)(hs:∀k z st' d,ds[k]?=Y2 d->P k z st'->∃F J,((setT t d z).bind λU=>(RL c).ex U st' body)=Y2 (.nx F,J)/\P (k+1) F J):
  ∃z st',stepEx (RL c) τ st (.forr t (.var i) body)=Y2 (.nx z,st')/\P ds.length z st':=by
 have e:=qqo c τ st (.var i) (q,st) (by show(match τ[i]? with|some (Y2 d)=>Y2 (d,st)|_=>Y3)=_; rw[h]);have L:∀s:Src,src (RL c) τ st (.var i)=Y2 (s,st)->s.size st=ds.length->(∀k z st',P k z st'->s.at st' k=Y2 ds[k]?)->∃z st',stepEx (RL c) τ st (.forr t (.var i) body)=Y2 (.nx z,st')/\P ds.length z st':=λs h1 h2 h3=>by
  obtain⟨z,st',e1,Z⟩:=qvk P (λ_ _=>False) h0 h2 h3 (λk z st' d hd O=>by
   obtain⟨F,J,e1,Z⟩:=hs k z st' d hd O
   exact .inl ⟨F,J,.inl e1,Z⟩)
  refine⟨z,st',?_,Z.resolve_right id⟩;show(src (RL c) τ st (.var i)).bind _=_;rw[h1];exact e1
 have h1:=Y 0 τ st h0
 cases q with
 |tup xs=>
  cases h1;exact L (.tup ds) (by show((RL c).ev τ st (.var i)).bind _=_; rw[e]; rfl) rfl λk z st' _=>rfl
 |lst xs=>
  exact L (.lst (.lst xs)) (by show((RL c).ev τ st (.var i)).bind _=_; rw[e]; rfl) (qzt h1) λk z st' O=>qqu (show seqAt st' (.lst xs)=_ from Y k z st' O) k
 |loc l=>
  have h1:seqAt st (.loc l)=Y2 ds:=h1;exact L (.lst (.loc l)) (by show((RL c).ev τ st (.var i)).bind _=_; rw[e]; show(seqAt st (.loc l)).map _=_; rw[h1]; rfl) (qzt h1) λk z st' O=>qqu (show seqAt st' (.loc l)=_ from Y k z st' O) k
 |_=>cases h1
def qyc{q:List Int}(h):idxD (st++[.lst w (q.map .int)]) (.loc st.length) (.int (-1))=Y2 (.int (q.getLast h)):=by
 have z:=Qxf.mpr h;show(seqAt (st++[.lst w (q.map .int)]) (.loc st.length)).bind _=_;have:seqAt (st++[.lst w (q.map .int)]) (.loc st.length)=Y2 (q.map .int):=by show listAt _ _=_; unfold listAt; rw[gl]
 rw[this];show atI (q.map D.int) (-1)=_;unfold atI ixN;rw[Z9 (by decide),Xq (by simp; lia)];simp only[oBs,Qqz];rw[show(-1+(q.length:Int)).toNat=q.length - 1 by lia,Qqv,List.getLast_eq_getElem,Qql (by lia)]
 rfl
def qb2(m){T:Int}(hx:xs≠[])(hl:xs.length<1000)(hq:∀r,rowAt (st++r) q=Y2 (xs.map .int)):∃ks:List Int,ks≠[]/\callD fns (m+1) 14 [.int T,q] st=Y2 (.loc st.length,st++[.lst Y0 (ks.map .int)]):=by
 obtain⟨F,st',h1,k,o,ks,rfl,rfl,h4,h5⟩:=qa0 (c:=callD fns m) (i:=1) (t:=.var 3) (body:=[.ite (.or (.not (.var 2)) (.cmp .LtE (.var 3) (.bin .Add (.idx (.var 2) (.neg (.lit (.int 1)))) (.var 0)))) [.expr (.meth (.var 2) .append [.var 3])] []])
  (λk F st'=>k<=xs.length/\∃o ks,F=[Y2 (.int T),Y2 q,Y2 (.loc st.length),o]/\st'=st++[.lst Y0 ((ks:List Int).map .int)]/\(0<k->ks≠[])/\ks.length<=k)
  rfl ⟨Qzq _,Y3,[],rfl,rfl,λh=>absurd h (by lia),Qqj _⟩ (λk F st' h=>by obtain⟨_,o,ks,_,rfl,_⟩:=h; exact hq _) (λk F st' d hd h=>by
   obtain⟨hk,o,ks,rfl,rfl,h1,h2⟩:=h;rw[Qqv]at hd;obtain⟨x,Y,rfl⟩:=Qqf.mp hd;have L:=(Qqk.mp Y).1;have J:(ks.map D.int).length<lim:=by simp; unfold lim; lia
   have Z:(st++[Yc.lst Y0 (ks.map .int)]).set st.length (.lst Y0 (ks.map .int++[.int x]))=st++[.lst Y0 ((ks++[x]).map .int)]:=by rw[sl]; simp
   have O:=gl (st:=st) (c:=.lst Y0 (ks.map .int))
   by_cases z:ks=[]
   ·subst z;exact⟨[Y2 (.int T),Y2 q,Y2 (.loc st.length),Y2 (.int x)],(st++[Yc.lst Y0 []]).set st.length (.lst Y0 [.int x]),qzc 0 [] 0 (λq=>_/\_/\_/\_/\q) [.r (.lst Y0 []),.k,.r (.lst Y0 []),.r (.lst Y0 []),.b Y0] ⟨O,O,O,Z7 J,rfl⟩,L,Y2 (.int x),[x],rfl,sl,λ_=>by simp,by simp⟩
   ·have U:(!(ks.map D.int).isEmpty)=true:=by cases ks with|nil=>exact absurd rfl z|cons a b=>rfl
    by_cases hc:x<=ks.getLast z+T
    ·exact⟨[Y2 (.int T),Y2 q,Y2 (.loc st.length),Y2 (.int x)],(st++[Yc.lst Y0 (ks.map .int)]).set st.length (.lst Y0 (ks.map .int++[.int x])),qzc 0 [] 0 (λq=>_/\_/\_/\_/\_/\_/\_/\q) [.r (.lst Y0 (ks.map .int)),.b Y0,.i (.int (ks.getLast z)),.b Y0,.r (.lst Y0 (ks.map .int)),.r (.lst Y0 (ks.map .int)),.b Y0] ⟨O,U,qyc (st:=st) (w:=Y0) z,Z7 hc,O,O,Z7 J,rfl⟩,L,Y2 (.int x),ks++[x],rfl,Z,λ_=>by simp,by simp; lia⟩
    ·exact⟨[Y2 (.int T),Y2 q,Y2 (.loc st.length),Y2 (.int x)],st++[.lst Y0 (ks.map .int)],qzc 0 [] 0 (λq=>_/\_/\_/\_/\q) [.r (.lst Y0 (ks.map .int)),.b Y0,.i (.int (ks.getLast z)),.b Y1] ⟨O,U,qyc (st:=st) (w:=Y0) z,Z8 hc,rfl⟩,L,Y2 (.int x),ks,rfl,rfl,λ_=>z,by lia⟩)
 refine⟨ks,h4 (by simp; exact Qxf.mpr hx),?_⟩;exact qzz 0 [] 1 (λq=>_/\q) [.s (.nx [Y2 (.int T),Y2 q,Y2 (.loc st.length),o],st++[.lst Y0 (ks.map .int)])] ⟨h1,rfl⟩
def nlI(q:List Int):noLocs (q.map .int)=true:=qzl λ_ _=>rfl
def qke(m){T:Int}(z:xs≠[])(J:xs.length<1000)(F:∀r,rowAt (st++r) q=Y2 (xs.map .int)):∃L:Int,callD fns (m+2) 15 [.int T,q] st=Y2 (.int L,st):=by
 obtain⟨ks,h1,h2⟩:=qb2 m (T:=T) z J F;refine⟨ks.getLast h1+T,?_⟩;have e:idxD st (.lst (ks.map .int)) (.int (-1))=Y2 (.int (ks.getLast h1)):=by
  have:=qyc (st:=[]) (w:=Y0) h1;exact this
 exact qzz 0 [14] 2 (λq=>_/\_/\_/\q) [.c (.loc st.length,st++[.lst Y0 (ks.map .int)]),.l (ks.map .int),.i (.int (ks.getLast h1))] ⟨h2,qza (st:=st) (nlI ks),e,rfl⟩
noncomputable def ik(st:Yo)(C:Nat)(F:List (Yb×D)):Nat->Yo
 |0=>st++[.obj C (F.take 0)]
 |k+1=>(ik st C F k).set st.length (.obj C (F.take (k+1)))
theorem qnm:∀k,ik st C F k=st++[.obj C (F.take k)]
 |0=>rfl
 |k+1=>by show(ik st C F k).set _ _=_; rw[qnm k,sl]
def ik_at(k):(ik st C F k)[st.length]?=Y2 (.obj C (F.take k)):=by rw[qnm k,gl]
noncomputable def clF(o:Int)(g:Int×Int×Int×Int)(dl:D)(la:Int):List (Yb×D):=[("owner",.int o),("ground",rD g),("days",dl),("last",.int la),("vested",.non),("given",.non)]
def cinit(m)(st)(o la)(g)(dl):callD fns (m+1) 16 [.loc st.length,.int o,rD g,dl,.int la] (st++[.obj 265 []])=Y2 (.non,st++[.obj 265 (clF o g dl la)]):=by
 have h:=λk=>ik_at (st:=st) (C:=265) (F:=clF o g dl la) k;exact qvm 0 [] 1 (.non,ik st 265 (clF o g dl la) 6) (λq=>_/\_/\_/\_/\_/\_/\q) [.r (.obj 265 ((clF o g dl la).take 0)),.r (.obj 265 ((clF o g dl la).take 1)),.r (.obj 265 ((clF o g dl la).take 2)),.r (.obj 265 ((clF o g dl la).take 3)),.r (.obj 265 ((clF o g dl la).take 4)),.r (.obj 265 ((clF o g dl la).take 5))] ⟨h 0,h 1,h 2,h 3,h 4,h 5,by rw[qnm]; rfl⟩
structure Inv (B:Nat) (rest:Yo) (cs:List Cl):Prop where
 lo:∀c∈cs,B<=c.j
 at_:∀c∈cs,rest[c.j]?=Y2 c.dl/\rest[c.j+1]?=Y2 c.cell
 pw:cs.Pairwise λa b=>a.j+1<b.j
 ne:∀c∈cs,c.ds≠[]/\c.ds.length<900
 nd:(cs.map (·.nm)).Nodup
noncomputable def qzh(cs:List Cl):List (D×D):=cs.map λc=>(.int c.nm,.loc (c.j+9))
def Inv.inj{B:Nat}(h:Inv B rest cs)(F:a∈cs)(L:b∈cs)(e:a.nm=b.nm):a=b:=by
 have:=h.nd;clear h
 induction cs with
 |nil=>cases F
 |cons c r J=>
  rw[Qqb,Qzv]at this;rcases Qqa.mp F with rfl|z<;>rcases Qqa.mp L with rfl|q
  ·rfl
  ·exact absurd (Qqw.mpr ⟨b,q,e.symm⟩) this.1
  ·exact absurd (Qqw.mpr ⟨a,z,e⟩) this.1
  ·exact J z q this.2
def qwo(a)(r)(n):dget (qzh (a::r)) (.int n)=bif a.nm==n then Y2 (.loc (a.j+9)) else dget (qzh r) (.int n):=by
 unfold dget qzh;rw[Qqb,Qqu];show Option.map _ (match (a.nm==n) with|true=>_|false=>_)=_;cases a.nm==n<;>rfl
def qn9(h:∀c∈cs,c.nm≠n):dget (qzh cs) (.int n)=none:=by
 induction cs with
 |nil=>rfl
 |cons c r q=>
  rw[qwo,beq_false_of_ne (h c (.head _))];exact q λc z=>h c (.tail _ z)
def qhr(h:c∈cs)(q:(cs.map (·.nm)).Nodup):dget (qzh cs) (.int c.nm)=Y2 (.loc (c.j+9)):=by
 induction cs with
 |nil=>cases h
 |cons a r z=>
  rw[qwo];rw[Qqb,Qzv]at q;rcases Qqa.mp h with rfl|h'
  ·rw[beq_self_eq_true]; rfl
  ·rw[beq_false_of_ne λe=>q.1 (Qqw.mpr ⟨c,h',e.symm⟩)];exact z h' q.2
def Inv.get{B:Nat}(h:Inv B rest cs)(q:c∈cs):dget (qzh cs) (.int c.nm)=Y2 (.loc (c.j+9)):=qhr q h.nd
def Inv.apart{B:Nat}(h:Inv B rest cs)(F:a∈cs)(L:b∈cs)(e:a.nm≠b.nm):a.j+1<b.j\/b.j+1<a.j:=by
 have:=h.pw;clear h
 induction cs with
 |nil=>cases F
 |cons c r J=>
  rw[Qxh]at this;rcases Qqa.mp F with rfl|z<;>rcases Qqa.mp L with rfl|q
  ·exact absurd rfl e
  ·exact .inl (this.1 b q)
  ·exact .inr (this.1 a z)
  ·exact J z q this.2
noncomputable def upd(cs:List Cl)(c':Cl):List Cl:=cs.map λx=>if x.nm=c'.nm then c' else x
def qjx(O:c∈cs)(q:(cs.map (·.nm)).Nodup)(e:c'.nm=c.nm)(Y:c'.j=c.j):qzh (upd cs c')=qzh cs:=by
 unfold qzh upd;rw[Qq5];refine Qzc λx J=>?_;show(D.int (if x.nm=c'.nm then c' else x).nm,D.loc ((if x.nm=c'.nm then c' else x).j+9))=_
 by_cases h:x.nm=c'.nm
 ·have L:x=c:=by
   have:∀{l:List Cl},(l.map (·.nm)).Nodup->x∈l->c∈l->x.nm=c.nm->x=c:=λ{l} q J O e=>by
    induction l with
    |nil=>cases J
    |cons y r U=>
     rw[Qqb,Qzv]at q;rcases Qqa.mp J with rfl|z<;>rcases Qqa.mp O with rfl|F
     ·rfl
     ·exact absurd (Qqw.mpr ⟨c,F,e.symm⟩) q.1
     ·exact absurd (Qqw.mpr ⟨x,z,e⟩) q.1
     ·exact U q.2 z F
   exact this q J O (h.trans e)
  rw[Xq h,e,Y,L]
 ·rw[Z9 h]
def qy1:(upd cs c').map (·.nm)=cs.map (·.nm):=by
 unfold upd;rw[Qq5];refine Qzc λx _=>?_;show(if x.nm=c'.nm then c' else x).nm=x.nm
 by_cases h:x.nm=c'.nm
 ·rw[Xq h,h]
 ·rw[Z9 h]
def Inv.put{B:Nat}(h:Inv B rest cs)(J:c∈cs)(e:c'.nm=c.nm)(L:c'.j=c.j)(hd:c'.ds≠[]/\c'.ds.length<900):Inv B ((rest.set c.j c'.dl).set (c.j+1) c'.cell) (upd cs c'):=by
 have lt:=(Qqk.mp (h.at_ c J).2).1;refine⟨λx F=>?_,λx F=>?_,?_,λx F=>?_,by rw[qy1]; exact h.nd⟩
 ·obtain⟨y,q,rfl⟩:=Qqw.mp F
  by_cases hn:y.nm=c'.nm
  ·rw[Xq hn,L]; exact h.lo c J
  ·rw[Z9 hn]; exact h.lo y q
 ·obtain⟨y,q,rfl⟩:=Qqw.mp F
  by_cases hn:y.nm=c'.nm
  ·rw[Xq hn,L];constructor
   ·rw[Qqs (by lia),Qq9 (by lia)]
   ·rw[Qq9 (by rw[Qzs]; lia)]
  ·rw[Z9 hn];have:=h.at_ y q;rcases h.apart q J (λz=>hn (z.trans e.symm)) with z|z
   ·exact⟨by rw[Qqs (by lia),Qqs (by lia)]; exact this.1,by rw[Qqs (by lia),Qqs (by lia)]; exact this.2⟩
   ·exact⟨by rw[Qqs (by lia),Qqs (by lia)]; exact this.1,by rw[Qqs (by lia),Qqs (by lia)]; exact this.2⟩
 ·unfold upd;rw[List.pairwise_map];have O:∀y∈cs,(if y.nm=c'.nm then c' else y).j=y.j:=λy q=>by
   by_cases hn:y.nm=c'.nm
   ·rw[Xq hn,L,h.inj q J (hn.trans e)]
   ·rw[Z9 hn]
  refine List.Pairwise.imp_of_mem (λ{a b} Y U z=>?_) h.pw;rw[O a Y,O b U];exact z
 ·obtain⟨y,q,rfl⟩:=Qqw.mp F
  by_cases hn:y.nm=c'.nm
  ·rw[Xq hn]; exact hd
  ·rw[Z9 hn]; exact h.ne y q
theorem Inv.cell{B:Nat}(h:Inv B rest cs)(q:c∈cs)(e:c'.nm=c.nm)(F:c'.j=c.j)(hd:c'.ds=c.ds):Inv B (rest.set (c.j+1) c'.cell) (upd cs c'):=by
 have:=h.put q e F (hd▸h.ne c q);have lt:=(Qqk.mp (h.at_ c q).2).1;have z:rest.set c.j c'.dl=rest:=by
  apply Qj0;intro i
  by_cases hi:c.j=i
  ·subst hi;rw[Qq9 (by lia),(h.at_ c q).1];unfold Cl.dl;rw[hd]
  ·rw[Qqs hi]
 rwa [z]at this
def Inv.more{B:Nat}(h:Inv B rest cs)(r):Inv B (rest++r) cs:=
 ⟨h.lo,λc q=>⟨by rw[Qq2 (Qqk.mp (h.at_ c q).1).1]; exact(h.at_ c q).1,by rw[Qq2 (Qqk.mp (h.at_ c q).2).1]; exact(h.at_ c q).2⟩,h.pw,h.ne,h.nd⟩
def Inv.add{B:Nat}(h:Inv B rest cs)(c)(L:c.j=rest.length)(J:∀x∈cs,x.nm≠c.nm)(hd:c.ds≠[]/\c.ds.length<900)(O:B<=rest.length):Inv B (rest++[c.dl,c.cell]) (cs++[c]):=by
 have m:=h.more [c.dl,c.cell];refine⟨λx q=>?_,λx q=>?_,?_,λx q=>?_,?_⟩
 ·rcases Qqh.mp q with q|q
  ·exact h.lo x q
  ·cases Qqy.mp q; lia
 ·rcases Qqh.mp q with q|q
  ·exact m.at_ x q
  ·cases Qqy.mp q;rw[L];constructor<;>simp
 ·rw[Qjf];refine⟨h.pw,List.pairwise_singleton ..,λa F b z=>?_⟩;cases Qqy.mp z;have:=(Qqk.mp (h.at_ a F).2).1
  lia
 ·rcases Qqh.mp q with q|q
  ·exact h.ne x q
  ·cases Qqy.mp q; exact hd
 ·rw[Qqn,Qxd];refine⟨h.nd,by simp,λa F b z=>?_⟩;obtain⟨x,q,rfl⟩:=Qqw.mp F;simp only[Qqb,Qxx,Qqy]at z;subst z;exact J x q
def qa3(F:∀x∈cs,x.nm≠c.nm):dput (qzh cs) (.int c.nm) (.loc (c.j+9))=qzh (cs++[c]):=by
 unfold dput;have:(qzh cs).any (λp=>eqT p.1 (.int c.nm))=false:=by
  rw[Qjo];intro p z;obtain⟨x,q,rfl⟩:=Qqw.mp z;show ¬ (x.nm==c.nm)=Y0;simpa using F x q
 rw[this];simp[qzh]
def qq0{B:Nat}{rest:Yo}(h:B<=i):(rest.set i c).take B=rest.take B:=by
 apply Qj0;intro k;rw[Qx2,Qx2]
 by_cases q:k<B
 ·rw[Xq q,Xq q,Qqs (by lia)]
 ·rw[Z9 q,Z9 q]
def qcx{R:List Cl}(e:c'.nm=c.nm)(h:((A++c::R).map (·.nm)).Nodup):upd (A++c::R) c'=A++c'::R:=by
 rw[Qqn,Qqb,Qxd,Qzv]at h;have a:∀x∈A,x.nm≠c'.nm:=λx q=>by
  rw[e];exact h.2.2 _ (Qqw.mpr ⟨x,q,rfl⟩) _ (Qq6 ..)
 have b:∀x∈R,x.nm≠c'.nm:=λx q z=>h.2.1.1 (Qqw.mpr ⟨x,q,by rw[z,e]⟩);unfold upd;rw[Qqn,Qqb,Xq e.symm];have J:A.map (λx=>if x.nm=c'.nm then c' else x)=A:=by
  conv=>rhs; rw[<- Qx9 A]
  exact Qzc λx q=>Z9 (a x q)
 have F:R.map (λx=>if x.nm=c'.nm then c' else x)=R:=by
  conv=>rhs; rw[<- Qx9 R]
  exact Qzc λx q=>Z9 (b x q)
 rw[J,F]
noncomputable abbrev rowD(ro:List Int):List D:=ro.map .int
section
variable {sz:Zt}{T d:Int}{fo jo:List (D×D)}{ro:List Int}{rest:Yo}{cs:List Cl}{B:Nat}
noncomputable abbrev FC(sz:Zt)(T d:Int)(fo jo:List (D×D))(cs:List Cl)(ro:List Int)(rest:Yo):Yo:=FS sz T d fo jo (qzh cs) (rowD ro) rest
def qxb(c)(q):(stW c q = "unvested"/\c.v=Y3/\c.gv=Y3/\q<=c.la)\/(stW c q = "stands"/\c.v≠Y3/\c.gv=Y3/\q<=c.la)\/(stW c q = "given"/\c.gv≠Y3)\/(stW c q = "fallen"/\c.la<q/\c.gv=Y3):=by
 unfold stW
 cases J:c.gv with
 |some x=>exact .inr (.inr (.inl ⟨rfl,by simp⟩))
 |none=>
  by_cases z:c.la<q
  ·exact .inr (.inr (.inr ⟨by simp[z],z,rfl⟩))
  ·cases F:c.v with
   |none=>exact .inl ⟨by simp[z],rfl,rfl,by lia⟩
   |some x=>exact .inr (.inl ⟨by simp[z],by simp,rfl,by lia⟩)
noncomputable def hit(day:Int)(ps:List (Int×Int))(c:Cl):Bool:=decide (stW c day = "unvested")&&hasB c.g ps
noncomputable def vst(day:Int)(ps:List (Int×Int))(c:Cl):Cl:=if hit day ps c then { c with v:=Y2 day } else c
def qcq(m)(I:Inv B rest cs)(U:c∈cs)(z)(hq:rowAt (FC sz T d fo jo cs ro rest) q=Y2 (ps.map cD))(hl:ps.length<lim)(hr:ro.length<1000):
  callD fns (m+3) 24 [.loc 3,.int c.nm,.int z,q] (FC sz T d fo jo cs ro rest)=Y2 (.non,if hit z ps c then FC sz T d fo jo cs (ro++[c.nm]) (rest.set (c.j+1) (vst z ps c).cell) else FC sz T d fo jo cs ro rest):=by
 have J:=qqd (sz:=sz) (T:=T) (d:=d) (fo:=fo) (jo:=jo) (bo:=qzh cs) (ro:=rowD ro) (m+1) c z (I.at_ c U).2;have L:=I.get U;have O:=qit m (g:=c.g) hq hl;have F:=(I.at_ c U).2;have no:∀w,stW c z=w->(w = "stands"\/w = "given"\/w = "fallen")->hit z ps c=false:=λw e h=>by
  unfold hit;rw[e];rcases h with rfl|rfl|rfl<;>rfl
 rcases qxb c z with⟨e,h1,h2,h3⟩|⟨e,_⟩|⟨e,_⟩|⟨e,_⟩
 ·rw[e]at J;have hi:hit z ps c=hasB c.g ps:=by unfold hit; rw[e]; rfl
  cases Y:hasB c.g ps with
  |true=>
   rw[Y]at hi O;have Z:vst z ps c={ c with v:=Y2 z }:=by unfold vst; rw[hi]; rfl
   rw[hi,Xq rfl,Z];have el:rowD (ro++[c.nm])=rowD ro++[.int c.nm]:=by simp
   unfold FC;rw[el];exact qzz 8 [18,10] 3 (λq=>_/\_/\_/\_/\_/\_/\_/\q) [.q (Y2 (.loc (c.j+9))),.r c.cell,.c (sO "unvested",FC sz T d fo jo cs ro rest),.r c.cell,.c (.bl Y0,FC sz T d fo jo cs ro rest),.r c.cell,.b Y0] ⟨L,F,J,F,O,F,Z7 (show(rowD ro).length<lim by simp; unfold lim; lia),rfl⟩
  |false=>
   rw[Y]at hi O;rw[hi,Z9 (by simp)];exact qzz 8 [18,10] 3 (λq=>_/\_/\_/\_/\_/\q) [.q (Y2 (.loc (c.j+9))),.r c.cell,.c (sO "unvested",FC sz T d fo jo cs ro rest),.r c.cell,.c (.bl Y1,FC sz T d fo jo cs ro rest)] ⟨L,F,J,F,O,rfl⟩
 ·rw[no _ e (.inl rfl),Z9 (by simp)];rw[e]at J;exact qzz 8 [18,10] 3 (λq=>_/\_/\_/\q) [.q (Y2 (.loc (c.j+9))),.r c.cell,.c (sO "stands",FC sz T d fo jo cs ro rest)] ⟨L,F,J,rfl⟩
 ·rw[no _ e (.inr (.inl rfl)),Z9 (by simp)];rw[e]at J;exact qzz 8 [18,10] 3 (λq=>_/\_/\_/\q) [.q (Y2 (.loc (c.j+9))),.r c.cell,.c (sO "given",FC sz T d fo jo cs ro rest)] ⟨L,F,J,rfl⟩
 ·rw[no _ e (.inr (.inr rfl)),Z9 (by simp)];rw[e]at J;exact qzz 8 [18,10] 3 (λq=>_/\_/\_/\q) [.q (Y2 (.loc (c.j+9))),.r c.cell,.c (sO "fallen",FC sz T d fo jo cs ro rest)] ⟨L,F,J,rfl⟩
def qqt{ds:List D}(P:Nat->Sl->Yo->Prop)(h1:src (RL c) τ st it=Y2 (s,st))(h2:s.size st=ds.length)(Z:∀k q st',P k q st'->s.at st' k=Y2 ds[k]?)(h0:P 0 τ st)(U:∀k q st' d,ds[k]?=Y2 d->P k q st'->∃z F,((setT t d q).bind λJ=>(RL c).ex J st' body)=Y2 (.nx z,F)/\P (k+1) z F):
  ∃q st',stepEx (RL c) τ st (.forr t it body)=Y2 (.nx q,st')/\P ds.length q st':=by
 obtain⟨q,st',O,L⟩:=qvk P (λ_ _=>False) h0 h2 Z (λk q st' d hd Y=>by
  obtain⟨z,F,O,L⟩:=U k q st' d hd Y
  exact .inl ⟨z,F,.inl O,L⟩)
 refine⟨q,st',?_,L.resolve_right id⟩;show(src (RL c) τ st it).bind _=_;rw[h1];exact O
def qqj(q)(ps)(c):(vst q ps c).nm=c.nm/\(vst q ps c).j=c.j/\(vst q ps c).ds=c.ds:=by
 unfold vst;cases hit q ps c<;>exact⟨rfl,rfl,rfl⟩
def qi9(m)(I:Inv B rest cs)(z)(ps)(hl:ps.length<lim)(hr:ro.length+cs.length<1000):
  ∃F,callD fns (m+4) 25 [.loc 3,.int z,.tup (ps.map cD)] (FC sz T d fo jo cs ro rest)=Y2 (.non,FC sz T d fo jo (cs.map (vst z ps)) (ro++(cs.filter (hit z ps)).map (·.nm)) F)/\Inv B F (cs.map (vst z ps))/\F.take B=rest.take B/\F.length=rest.length:=by
 have bk:∀A R:List Cl,qzh (A.map (vst z ps)++R)=qzh (A++R):=λA R=>by
  unfold qzh;rw[Qqn,Qqn,Qq5]
  congr 1
  exact Qzc λc _=>by
   show(D.int (vst z ps c).nm,D.loc ((vst z ps c).j+9))=_;rw[(qqj z ps c).1,(qqj z ps c).2.1]
 have keys:keysOf (qzh cs)=cs.map λc=>D.int c.nm:=by unfold keysOf qzh; rw[Qq5]; rfl
 have a1:(RL (callD fns (m+3))).ev [Y2 (.loc 3),Y2 (.int z),Y2 (.tup (ps.map cD)),Y3] (FC sz T d fo jo cs ro rest) (.gc (.mcall 347 20 "names" (.var 0) []))=Y2 (.lst (cs.map λc=>D.int c.nm),FC sz T d fo jo cs ro rest):=by
  have g:=qza (st:=FC sz T d fo jo cs ro rest) (ds:=keysOf (qzh cs)) (by rw[keys]; exact qzl λ_ _=>rfl);rw[<- keys];exact qzf 8 [] 3 (λq=>_/\q) [.l (keysOf (qzh cs))] ⟨g,rfl⟩
 obtain⟨L,st',h1,o,r',h2,h3,Y,Z,h6⟩:=qqt (it:=.gc (.mcall 347 20 "names" (.var 0) [])) (ds:=cs.map λc=>D.int c.nm) (t:=.var 3) (body:=[.expr (.mcall 347 24 "vest" (.var 0) [.var 3,.var 1,.var 2])])
  (λk L st'=>∃o r',L=[Y2 (.loc 3),Y2 (.int z),Y2 (.tup (ps.map cD)),o]/\st'=FC sz T d fo jo ((cs.take k).map (vst z ps)++cs.drop k) (ro++((cs.take k).filter (hit z ps)).map (·.nm)) r'/\Inv B r' ((cs.take k).map (vst z ps)++cs.drop k)/\r'.take B=rest.take B/\r'.length=rest.length)
  (by show((RL (callD fns (m+3))).ev _ _ _).bind _=_; rw[a1]; rfl) (by simp[Src.size,seqAt]) (λk L st' h=>rfl) ⟨Y3,rest,rfl,by simp,by simpa using I,rfl,rfl⟩ (λk L st' x hx h=>by
   obtain⟨o,r',rfl,rfl,J,Y,Z⟩:=h;rw[Qqv]at hx;obtain⟨c,hc,rfl⟩:=Qqf.mp hx;have hk:=(Qqk.mp hc).1;have U:=(Qqk.mp hc).2;have dr:cs.drop k=c::cs.drop (k+1):=by rw[Qj1 hk,U]
   have tk:cs.take (k+1)=cs.take k++[c]:=by rw[Qzi hk,U]
   rw[dr]at J ⊢;have hm:c∈(cs.take k).map (vst z ps)++c::cs.drop (k+1):=by simp
   have a0:(ro++((cs.take k).filter (hit z ps)).map (·.nm)).length<1000:=by
    have:=Qz9 (hit z ps) (cs.take k);rw[Qqi,Qqz];rw[Qzz]at this
    lia
   have hv:=qcq (sz:=sz) (T:=T) (d:=d) (fo:=fo) (jo:=jo) m J hm z (q:=.tup (ps.map cD)) rfl hl a0;generalize hS:(if hit z ps c=Y0 then _ else _:Yo)=S1 at hv;refine⟨[Y2 (.loc 3),Y2 (.int z),Y2 (.tup (ps.map cD)),Y2 (.int c.nm)],S1,qzc 8 [24] 3 (λq=>_/\q) [.c (.non,S1)] ⟨hv,rfl⟩,Y2 (.int c.nm),if hit z ps c then r'.set (c.j+1) (vst z ps c).cell else r',rfl,?_,?_,?_,?_⟩
   ·rw[<- hS]
    cases O:hit z ps c with
    |true=>
     have hb:qzh ((cs.take (k+1)).map (vst z ps)++cs.drop (k+1))=qzh ((cs.take k).map (vst z ps)++c::cs.drop (k+1)):=by rw[bk,bk,Qjy,<- dr,Qjy]
     rw[Xq rfl,Xq rfl];unfold FC;rw[hb,tk,Qx1,Qqn];simp[O]
    |false=>
     rw[Z9 (by simp),Z9 (by simp),tk,Qqn,Qx1,Qqn];have:vst z ps c=c:=by unfold vst; rw[O]; rfl
     simp[O,this]
   ·rw[tk,Qqn,Qzj];show Inv B _ (List.map (vst z ps) (cs.take k)++vst z ps c::cs.drop (k+1))
    cases O:hit z ps c with
    |true=>
     have:=J.cell hm (qqj z ps c).1 (qqj z ps c).2.1 (qqj z ps c).2.2;rwa [qcx (qqj z ps c).1 J.nd]at this
    |false=>
     have:vst z ps c=c:=by unfold vst; rw[O]; rfl
     rw[this];exact J
   ·cases O:hit z ps c with
    |true=>
     rw[Xq rfl,qq0 (by have:=J.lo c hm; lia)];exact Y
    |false=>exact Y
   ·cases O:hit z ps c with
    |true=>rw[Xq rfl,Qzs]; exact Z
    |false=>exact Z)
 simp only[Qqz,Qzu,List.drop_length,Qzh]at h3 Y;subst h2 h3;exact⟨r',qzz 8 [] 4 (λq=>_/\q) [.s (.nx [Y2 (.loc 3),Y2 (.int z),Y2 (.tup (ps.map cD)),o],FC sz T d fo jo (cs.map (vst z ps)) (ro++(cs.filter (hit z ps)).map (·.nm)) r')] ⟨h1,rfl⟩,Y,Z,h6⟩
end
section
variable {sz:Zt}{T d:Int}{fo jo:List (D×D)}{ro:List Int}{rest:Yo}{cs:List Cl}{B:Nat}
theorem set2:∀{rest:Yo},(rest++[a,b]).set (rest.length+1) q=rest++[a,q]
 |[]=>rfl
 |x::r=>congrArg (x::·) (set2)
def bk1(e:c'.nm=c.nm)(q:c'.j=c.j):qzh (cs++[c'])=qzh (cs++[c]):=by simp[qzh,e,q]
def qeg(bo)(r)(s):(FS sz T d fo jo bo r s).length=s.length+8:=by simp[FS]
def qgc(m)(I:Inv B rest cs)(hB:B<=rest.length)(dy o)(g)(hq:∀bo r,rowAt (FS sz T d fo jo bo (rowD ro) (rest++r)) q=Y2 (ps.map cD))(hl:ps.length<lim)(hr:ro.length+cs.length<900)(Y:∀x∈cs,x.nm≠dy):
  ∃L:Int,callD fns (m+4) 23 [.loc 3,.int dy,.int o,rD g,q] (FC sz T d fo jo cs ro rest)=Y2 (.non,FC sz T d fo jo (cs++[vst dy ps ⟨dy,rest.length,o,g,[dy],L,Y3,Y3⟩]) (ro++if hit dy ps ⟨dy,rest.length,o,g,[dy],L,Y3,Y3⟩ then [dy] else []) (rest++[.lst Y0 [.int dy],(vst dy ps ⟨dy,rest.length,o,g,[dy],L,Y3,Y3⟩).cell]))/\
   Inv B (rest++[.lst Y0 [.int dy],(vst dy ps ⟨dy,rest.length,o,g,[dy],L,Y3,Y3⟩).cell]) (cs++[vst dy ps ⟨dy,rest.length,o,g,[dy],L,Y3,Y3⟩]):=by
 obtain⟨L,hL⟩:=qke (m+1) (st:=FC sz T d fo jo cs ro (rest++[.lst Y0 [.int dy]])) (T:=T) (q:=.lst [.int dy]) (xs:=[dy]) (by simp) (by simp) (λr=>rfl);refine⟨L,?_⟩;generalize z:(⟨dy,rest.length,o,g,[dy],L,Y3,Y3⟩:Cl)=c;have c1:c.nm=dy:=by rw[<- z]
 have c2:c.j=rest.length:=by rw[<- z]
 have c3:c.dl=.lst Y0 [.int dy]:=by rw[<- z]; rfl
 have c4:c.cell=.obj 265 (clF o g (.loc (rest.length+8)) L):=by rw[<- z]; rfl
 have J:=I.add c c2 (by rw[c1]; exact Y) (by rw[<- z]; simp) hB;have V:=qqj dy ps c;have O:=cinit (m+2) (FC sz T d fo jo cs ro (rest++[.lst Y0 [.int dy]])) o L g (.loc (rest.length+8));have F:=qcq m J (c:=c) (by simp) dy (hq _ _) hl (by lia);have Z:FS sz T d fo jo (dput (qzh cs) (.int dy) (.loc (FC sz T d fo jo cs ro (rest++[.lst Y0 [.int dy]])).length)) (rowD ro) (rest++[.lst Y0 [.int dy]]++[.obj 265 (clF o g (.loc (rest.length+8)) L)])=FC sz T d fo jo (cs++[c]) ro (rest++[c.dl,c.cell]):=by
  have:(FC sz T d fo jo cs ro (rest++[.lst Y0 [.int dy]])).length=c.j+9:=by rw[qeg,c2]; simp
  rw[this,<- c1,qa3 (by rw[c1]; exact Y),c1,<- c3,<- c4];simp
 rw[c1,<- Z]at F;have hg:=qza (st:=FC sz T d fo jo cs ro (rest++[.lst Y0 [.int dy]])) (ds:=[.int dy]) rfl;generalize hS:(if hit dy ps c=Y0 then _ else _:Yo)=S1 at F;have U:decide ((qzh cs).length<lim)=true:=Z7 (by unfold qzh lim; rw[Qqz]; lia);have run:callD fns (m+4) 23 [.loc 3,.int dy,.int o,rD g,q] (FC sz T d fo jo cs ro rest)=Y2 (.non,S1):=
  qzz 8 [15,16,24] 4 (λq=>_/\_/\_/\_/\_/\q) [.l [.int dy],.c (.int L,FC sz T d fo jo cs ro (rest++[.lst Y0 [.int dy]])),.c (.non,FC sz T d fo jo cs ro (rest++[.lst Y0 [.int dy]])++[.obj 265 (clF o g (.loc (rest.length+8)) L)]),.b Y0,.c (.non,S1)] ⟨hg,hL,O,U,F,rfl⟩
 rw[run,<- hS];rw[Z]
 cases hh:hit dy ps c with
 |true=>
  have:=J.cell (by simp) V.1 V.2.1 V.2.2;rw[qcx V.1 J.nd,c2,set2]at this;rw[c3]at this;refine⟨?_,this⟩;rw[Xq rfl,Xq rfl,c2,set2,c3];unfold FC;rw[bk1 V.1 V.2.1]
 |false=>
  have:vst dy ps c=c:=by unfold vst; rw[hh]; rfl
  rw[this,<- c3];refine⟨?_,J⟩;rw[Z9 (by simp),Z9 (by simp),Qzh]
end
def over(day:Int)(c:Cl):Prop:=c.gv≠Y3\/c.la<day
def Ow(c:Cl):Prop:=1<=c.o/\c.o<=40
inductive Op (day:Int):List Cl->List Int->List Cl->List Int->Prop
 |same {cs ro}:Op day cs ro cs ro
 |upd {cs ro c c'} (hc:c∈cs) (hn:c'.nm=c.nm) (hv:c'.v=c.v) (hw:Ow c'):Op day cs ro (upd cs c') ro
 |vein {cs ro} (ps:List (Int×Int)):Op day cs ro (cs.map (vst day ps)) (ro++(cs.filter (hit day ps)).map (·.nm))
 |stake {cs ro c} (ps:List (Int×Int)) (hn:c.nm=day) (hv:c.v=Y3) (hw:Ow c):Op day cs ro (cs++[vst day ps c]) (ro++if hit day ps c then [day] else [])
 |part0 {cs ro c c' p} (hc:c∈cs) (hn:c'.nm=c.nm) (hv:c'.v=c.v) (hw:Ow c') (pw:Ow p) (pn:p.nm=day) (pv:p.v=c.v) (h:c.v=Y3):Op day cs ro (K38.upd cs c'++[p]) ro
 |part1 {cs ro c c' p A R} (hc:c∈cs) (hn:c'.nm=c.nm) (hv:c'.v=c.v) (hw:Ow c') (pw:Ow p) (pn:p.nm=day) (hr:ro=A++c.nm::R):Op day cs ro (K38.upd cs c'++[p]) (A++c.nm::day::R)
def ix1:idxD st (.tup (a::b::r)) (.int 1)=Y2 b:=by
 show atI (a::b::r) 1=_;unfold atI ixN;rw[Xq (by decide),Xq (by simp; lia)]
 rfl
section
variable {sz:Zt}{T d:Int}{fo jo:List (D×D)}{ro:List Int}{rest:Yo}{cs:List Cl}{B:Nat}
def chg_no(m)(z n)(w)(r)(F:∀c∈cs,c.nm≠n):callD fns (m+1) 26 [.loc 3,.int z,.tup (sO w::.int n::r)] (FC sz T d fo jo cs ro rest)=Y2 (sO "noclaim",FC sz T d fo jo cs ro rest):=
 qzz 8 [] 1 (λq=>_/\_/\q) [.i (.int n),.q Y3] ⟨ix1 (st:=FC sz T d fo jo cs ro rest) (a:=sO w) (b:=.int n) (r:=r),qn9 F,rfl⟩
def qh1(m)(I:Inv B rest cs)(F)(w)(r)(U:c∈cs)(Y:over F c):callD fns (m+2) 26 [.loc 3,.int F,.tup (sO w::.int c.nm::r)] (FC sz T d fo jo cs ro rest)=Y2 (sO "ended",FC sz T d fo jo cs ro rest):=by
 have L:=qqd (sz:=sz) (T:=T) (d:=d) (fo:=fo) (jo:=jo) (bo:=qzh cs) (ro:=rowD ro) m c F (I.at_ c U).2;have O:=I.get U;have J:=(I.at_ c U).2;rcases qxb c F with⟨e,h1,h2,Z⟩|⟨e,h1,h2,Z⟩|⟨e,_⟩|⟨e,_⟩
 ·rcases Y with z|z
  ·exact absurd h2 z
  ·lia
 ·rcases Y with z|z
  ·exact absurd h2 z
  ·lia
 ·rw[e]at L;exact qzz 8 [18] 2 (λq=>_/\_/\_/\_/\_/\q) [.i (.int c.nm),.q (Y2 (.loc (c.j+9))),.q (Y2 (.loc (c.j+9))),.r c.cell,.c (sO "given",FC sz T d fo jo cs ro rest)] ⟨ix1 (st:=FC sz T d fo jo cs ro rest) (a:=sO w) (b:=.int c.nm) (r:=r),O,O,J,L,rfl⟩
 ·rw[e]at L;exact qzz 8 [18] 2 (λq=>_/\_/\_/\_/\_/\q) [.i (.int c.nm),.q (Y2 (.loc (c.j+9))),.q (Y2 (.loc (c.j+9))),.r c.cell,.c (sO "fallen",FC sz T d fo jo cs ro rest)] ⟨ix1 (st:=FC sz T d fo jo cs ro rest) (a:=sO w) (b:=.int c.nm) (r:=r),O,O,J,L,rfl⟩
def qai(z:¬ over q c):stW c q = "unvested"\/stW c q = "stands":=by
 rcases qxb c q with⟨e,_⟩|⟨e,_⟩|⟨_,e⟩|⟨_,e,_⟩
 ·exact .inl e
 ·exact .inr e
 ·exact absurd (.inl e) z
 ·exact absurd (.inr e) z
def qh2(m)(I:Inv B rest cs)(F)(O:c∈cs)(U:¬ over F c):callD fns (m+2) 26 [.loc 3,.int F,.tup [sO "give",.int c.nm]] (FC sz T d fo jo cs ro rest)=Y2 (sO "good",FC sz T d fo jo cs ro (rest.set (c.j+1) { c with gv:=Y2 F:Cl }.cell)):=by
 have J:=qqd (sz:=sz) (T:=T) (d:=d) (fo:=fo) (jo:=jo) (bo:=qzh cs) (ro:=rowD ro) m c F (I.at_ c O).2;have L:=I.get O;have z:=(I.at_ c O).2;rcases qai U with e|e
 ·rw[e]at J;exact qzz 8 [18] 2 (λq=>_/\_/\_/\_/\_/\q) [.q (Y2 (.loc (c.j+9))),.q (Y2 (.loc (c.j+9))),.r c.cell,.c (sO "unvested",FC sz T d fo jo cs ro rest),.r c.cell] ⟨L,L,z,J,z,rfl⟩
 ·rw[e]at J;exact qzz 8 [18] 2 (λq=>_/\_/\_/\_/\_/\q) [.q (Y2 (.loc (c.j+9))),.q (Y2 (.loc (c.j+9))),.r c.cell,.c (sO "stands",FC sz T d fo jo cs ro rest),.r c.cell] ⟨L,L,z,J,z,rfl⟩
def qh0(m)(I:Inv B rest cs)(F o)(O:c∈cs)(U:¬ over F c):callD fns (m+2) 26 [.loc 3,.int F,.tup [sO "sell",.int c.nm,.int o]] (FC sz T d fo jo cs ro rest)=Y2 (sO "good",FC sz T d fo jo cs ro (rest.set (c.j+1) { c with o:=o:Cl }.cell)):=by
 have J:=qqd (sz:=sz) (T:=T) (d:=d) (fo:=fo) (jo:=jo) (bo:=qzh cs) (ro:=rowD ro) m c F (I.at_ c O).2;have L:=I.get O;have z:=(I.at_ c O).2;rcases qai U with e|e
 ·rw[e]at J;exact qzz 8 [18] 2 (λq=>_/\_/\_/\_/\_/\q) [.q (Y2 (.loc (c.j+9))),.q (Y2 (.loc (c.j+9))),.r c.cell,.c (sO "unvested",FC sz T d fo jo cs ro rest),.r c.cell] ⟨L,L,z,J,z,rfl⟩
 ·rw[e]at J;exact qzz 8 [18] 2 (λq=>_/\_/\_/\_/\_/\q) [.q (Y2 (.loc (c.j+9))),.q (Y2 (.loc (c.j+9))),.r c.cell,.c (sO "stands",FC sz T d fo jo cs ro rest),.r c.cell] ⟨L,L,z,J,z,rfl⟩
def qhu(m)(I:Inv B rest cs)(z)(hc:c∈cs)(ho:¬ over z c)(h9:c.ds.length<899):∃L:Int,callD fns (m+3) 26 [.loc 3,.int z,.tup [sO "work",.int c.nm]] (FC sz T d fo jo cs ro rest)=Y2 (sO "good",FC sz T d fo jo cs ro ((rest.set c.j { c with ds:=c.ds++[z],la:=L:Cl }.dl).set (c.j+1) { c with ds:=c.ds++[z],la:=L:Cl }.cell)):=by
 have Y:=qqd (sz:=sz) (T:=T) (d:=d) (fo:=fo) (jo:=jo) (bo:=qzh cs) (ro:=rowD ro) (m+1) c z (I.at_ c hc).2;have Z:=I.get hc;obtain⟨J,O⟩:=I.at_ c hc;have lt:=(Qqk.mp J).1;have F:(rest.set c.j (.lst Y0 (c.ds.map .int++[.int z])))[c.j+1]?=Y2 c.cell:=by rw[Qqs (by lia)]; exact O
 have U:(c.ds.map D.int).length<lim:=by rw[Qqz]; unfold lim; lia
 obtain⟨L,hL⟩:=qke m (T:=T) (q:=.loc (c.j+8)) (xs:=c.ds++[z]) (by simp) (by simp; lia) (λr=>by
  show listAt _ _=_;unfold listAt;have:(FC sz T d fo jo cs ro (rest.set c.j (.lst Y0 (c.ds.map .int++[.int z])))++r)[c.j+8]?=((rest.set c.j (.lst Y0 (c.ds.map .int++[.int z])))++r)[c.j]?:=rfl;rw[this,Qq2 (by rw[Qzs]; exact lt),Qq9 lt]
  simp)
 refine⟨L,?_⟩;have e1:({ c with ds:=c.ds++[z],la:=L:Cl }).dl=.lst Y0 (c.ds.map .int++[.int z]):=by unfold Cl.dl; simp
 rw[e1];rcases qai ho with e|e
 ·rw[e]at Y;exact qzz 8 [18,15] 3 (λq=>_/\_/\_/\_/\_/\_/\_/\_/\_/\_/\_/\q) [.q (Y2 (.loc (c.j+9))),.q (Y2 (.loc (c.j+9))),.r c.cell,.c (sO "unvested",FC sz T d fo jo cs ro rest),.r c.cell,.r c.dl,.r c.dl,.b Y0,.r c.cell,.c (.int L,FC sz T d fo jo cs ro (rest.set c.j (.lst Y0 (c.ds.map .int++[.int z])))),.r c.cell] ⟨Z,Z,O,Y,O,J,J,Z7 U,F,hL,F,rfl⟩
 ·rw[e]at Y;exact qzz 8 [18,15] 3 (λq=>_/\_/\_/\_/\_/\_/\_/\_/\_/\_/\_/\q) [.q (Y2 (.loc (c.j+9))),.q (Y2 (.loc (c.j+9))),.r c.cell,.c (sO "stands",FC sz T d fo jo cs ro rest),.r c.cell,.r c.dl,.r c.dl,.b Y0,.r c.cell,.c (.int L,FC sz T d fo jo cs ro (rest.set c.j (.lst Y0 (c.ds.map .int++[.int z])))),.r c.cell] ⟨Z,Z,O,Y,O,J,J,Z7 U,F,hL,F,rfl⟩
end
section
variable {sz:Zt}{T d:Int}{fo jo:List (D×D)}{ro:List Int}{rest:Yo}{cs:List Cl}{B:Nat}
def qgs(m){c:Cl}(J:rest[c.j]?=Y2 c.dl)(z:rest[c.j+1]?=Y2 c.cell)(nm o)(g):callD fns (m+2) 17 [.loc (c.j+9),.int o,rD g] (FC sz T d fo jo cs ro rest)=Y2 (.loc (rest.length+9),FC sz T d fo jo cs ro (rest++[c.dl,(⟨nm,rest.length,o,g,c.ds,c.la,c.v,Y3⟩:Cl).cell])):=by
 have F:=cinit m (FC sz T d fo jo cs ro (rest++[c.dl])) o c.la g (.loc (rest.length+8));have h1:(rest++[c.dl])[c.j+1]?=Y2 c.cell:=by rw[Qq2 (Qqk.mp z).1]; exact z
 have h2:(rest++[c.dl]++[Yc.obj 265 (clF o g (.loc (rest.length+8)) c.la)])[c.j+1]?=Y2 c.cell:=by rw[Qq2 (Qqk.mp h1).1]; exact h1
 have L:=gl (st:=rest++[c.dl]) (c:=.obj 265 (clF o g (.loc (rest.length+8)) c.la));refine qvm 8 [16] 2 (.loc (FC sz T d fo jo cs ro (rest++[c.dl])).length,FC sz T d fo jo cs ro ((rest++[c.dl]++[Yc.obj 265 (clF o g (.loc (rest.length+8)) c.la)]).set (rest++[c.dl]).length (⟨nm,rest.length,o,g,c.ds,c.la,c.v,Y3⟩:Cl).cell)) (λq=>_/\_/\_/\_/\_/\_/\q) [.r c.cell,.r c.dl,.r c.cell,.c (.non,FC sz T d fo jo cs ro (rest++[c.dl])++[.obj 265 (clF o g (.loc (rest.length+8)) c.la)]),.r c.cell,.r (.obj 265 (clF o g (.loc (rest.length+8)) c.la))] ⟨z,J,h1,F,h2,L,?_⟩;rw[sl,qeg];simp
def qdf(m)(st)(g)(s line)(z:s=0\/s=1):callD fns (m+2) 12 [rD g,.int s,.int line] st=Y2 (.non,st)\/∃a b,callD fns (m+2) 12 [rD g,.int s,.int line] st=Y2 (.tup [rD a,rD b],st):=by
 rcases z with rfl|rfl
 ·by_cases h1:g.1<line
  ·by_cases h2:line<=g.2.2.1
   ·exact .inr ⟨(g.1,g.2.1,line - 1,g.2.2.2),(line,g.2.1,g.2.2.1,g.2.2.2),qzz 0 [] 2 (λq=>_/\_/\q) [.b Y0,.b Y0,.k] ⟨Z7 h1,Z7 h2,rfl⟩⟩
   ·exact .inl (qzz 0 [] 2 (λq=>_/\_/\q) [.b Y0,.b Y1] ⟨Z7 h1,Z8 h2,rfl⟩)
  ·exact .inl (qzz 0 [] 2 (λq=>_/\q) [.b Y1] ⟨Z8 h1,rfl⟩)
 ·by_cases h1:g.2.1<line
  ·by_cases h2:line<=g.2.2.2
   ·exact .inr ⟨(g.1,g.2.1,g.2.2.1,line - 1),(g.1,line,g.2.2.1,g.2.2.2),qzz 0 [] 2 (λq=>_/\_/\q) [.b Y0,.b Y0,.k] ⟨Z7 h1,Z7 h2,rfl⟩⟩
   ·exact .inl (qzz 0 [] 2 (λq=>_/\_/\q) [.b Y0,.b Y1] ⟨Z7 h1,Z8 h2,rfl⟩)
  ·exact .inl (qzz 0 [] 2 (λq=>_/\q) [.b Y1] ⟨Z8 h1,rfl⟩)
def qnh(X:List D)(y z)(Z):(X++y::Z).take (X.length+1)++z::(X++y::Z).drop (X.length+1)=X++y::z::Z:=by
 induction X with
 |nil=>rfl
 |cons x r q=>exact congrArg (x::·) q
def eqI(a b):eqT (.int a) (.int b)=(a==b):=rfl
def row_ix{R:List Int}(h:n ∉ A)(st:Yo):(if flat 9 (.int n)&&flats 9 (rowD (A++n::R)) then((rowD (A++n::R)).findIdx? λy=>eqT y (.int n)).map λ(j:Nat)=>(D.int (j:Int),st) else Y3)=Y2 (.int (A.length:Int),st):=by
 have f:∀l:List Int,flats 9 (rowD l)=true:=λl=>by
  induction l with
  |nil=>rfl
  |cons a r q=>show(flat 9 (.int a)&&flats 9 (rowD r))=Y0; rw[q]; rfl
 rw[f,show flat 9 (.int n)=Y0 from rfl,Qjz,Xq rfl];have:(rowD (A++n::R)).findIdx? (λy=>eqT y (.int n))=Y2 A.length:=by
  induction A with
  |nil=>show(if (n==n)=Y0 then _ else _)=_; simp
  |cons a r q=>
   have F:(a==n)=false:=by simp only[Qqa,not_or]at h; simpa using λe=>h.1 e.symm
   show List.findIdx? _ (D.int a::rowD (r++n::R))=_;rw[List.findIdx?_cons];rw[eqI,F];simp only[Qzk,if_false];rw[q (λz=>h (Qqt _ z))]
   rfl
 rw[this]
 rfl
def qmo(m)(I:Inv B rest cs)(hB:B<=rest.length)(day line o s)(hs:s=0\/s=1)(Y:c∈cs)(hw:Ow c)(b2:1<=o/\o<=40)(hr:ro.length+cs.length<900)(hn:∀x∈cs,x.nm≠day)(hv:c.v≠Y3->∃A R,ro=A++c.nm::R/\c.nm ∉ A):
  ∃w a2 a4 F,callD fns (m+3) 27 [.loc 3,.int day,.tup [sO "part",.int c.nm,.int s,.int line,.int o]] (FC sz T d fo jo cs ro rest)=Y2 (sO w,FC sz T d fo jo a2 a4 F)/\Inv B F a2/\Op day cs ro a2 a4/\F.take B=rest.take B/\rest.length<=F.length/\(∀c∈a2,∃x,x.ds.length<=c.ds.length/\c.ds.length<=x.ds.length+1/\x∈cs):=by
 have hg:=I.get Y;obtain⟨b3,U⟩:=I.at_ c Y;rcases qdf (m:=m) (FC sz T d fo jo cs ro rest) c.g s line hs with hp|⟨a,b,hp⟩
 ·exact⟨"nocut",cs,ro,rest,qzz 8 [12] 3 (λq=>_/\_/\_/\q) [.q (Y2 (.loc (c.j+9))),.r c.cell,.c (.non,FC sz T d fo jo cs ro rest),.k] ⟨hg,U,hp,rfl⟩,I,.same,rfl,Qqj _,λc Y=>⟨c,by lia,by lia,Y⟩⟩
 ·have J:=I.cell (c':={ c with g:=a }) Y rfl rfl rfl;have lt:=(Qqk.mp U).1;have k1:(rest.set (c.j+1) ({ c with g:=a }:Cl).cell)[c.j]?=Y2 ({ c with g:=a }:Cl).dl:=by rw[Qqs (by lia)]; exact b3
  have k2:(rest.set (c.j+1) ({ c with g:=a }:Cl).cell)[c.j+1]?=Y2 ({ c with g:=a }:Cl).cell:=Qq9 (by lia);have O:=qgs (sz:=sz) (T:=T) (d:=d) (fo:=fo) (jo:=jo) (cs:=cs) (ro:=ro) (m:=m) (c:={ c with g:=a }) k1 k2 day o b;have b4:=qjx (c':={ c with g:=a }) Y I.nd rfl rfl;generalize a0:rest.set (c.j+1) ({ c with g:=a }:Cl).cell=Z at J k1 k2 O;have b5:Z.length=rest.length:=by rw[<- a0,Qzs]
  have b0:Z.take B=rest.take B:=by rw[<- a0]; exact qq0 (by have:=I.lo c Y; lia)
  generalize L:(⟨day,Z.length,o,b,({ c with g:=a }:Cl).ds,({ c with g:=a }:Cl).la,({ c with g:=a }:Cl).v,Y3⟩:Cl)=p at O;have p1:p.nm=day:=by rw[<- L]
  have p2:p.j=Z.length:=by rw[<- L]
  have p3:p.dl=({ c with g:=a }:Cl).dl:=by rw[<- L]; rfl
  have p4:p.v=c.v:=by rw[<- L]
  have p5:Ow p:=by rw[<- L]; exact b2
  have a5:∀x∈upd cs { c with g:=a },x.nm≠p.nm:=λx hx=>by
   have:x.nm∈(upd cs { c with g:=a }).map (·.nm):=Qqw.mpr ⟨x,hx,rfl⟩;rw[qy1]at this;obtain⟨y,hy,e⟩:=Qqw.mp this;rw[<- e,p1];exact hn y hy
  have J2:=J.add p p2 a5 (by rw[<- L]; exact I.ne c Y) (by lia);rw[p3]at J2;have a3:dput (qzh cs) (.int day) (.loc (Z.length+9))=qzh (upd cs { c with g:=a }++[p]):=by
   rw[<- qa3 a5,b4,p1,p2]
  have tk:(Z++[({ c with g:=a }:Cl).dl,p.cell]).take B=rest.take B:=by rw[Qjh (by lia),b0]
  have ln:rest.length<=(Z++[({ c with g:=a }:Cl).dl,p.cell]).length:=by rw[Qqi]; lia
  have k3:(Z++[({ c with g:=a }:Cl).dl,p.cell])[c.j+1]?=Y2 ({ c with g:=a }:Cl).cell:=by rw[Qq2 (by lia)]; exact k2
  have a9:decide ((qzh cs).length<lim)=true:=Z7 (by unfold qzh lim; rw[Qqz]; lia);have a8:∀y∈upd cs { c with g:=a }++[p],∃x,x.ds.length<=y.ds.length/\y.ds.length<=x.ds.length+1/\x∈cs:=λy hy=>by
   rcases Qqh.mp hy with hy|hy
   ·obtain⟨z,hz,rfl⟩:=Qqw.mp hy
    by_cases e:z.nm=({ c with g:=a }:Cl).nm
    ·rw[Xq e]; exact⟨c,Qqj _,Qxq _,Y⟩
    ·rw[Z9 e]; exact⟨z,Qqj _,Qxq _,hz⟩
   ·cases Qqy.mp hy;exact⟨c,by rw[<- L]; exact Qqj _,by rw[<- L]; exact Qxq _,Y⟩
  cases a1:c.v with
  |none=>
   refine⟨"good",upd cs { c with g:=a }++[p],ro,Z++[({ c with g:=a }:Cl).dl,p.cell],?_,J2,.part0 Y rfl rfl hw p5 p1 p4 a1,tk,ln,a8⟩;rw[<- a0]at O k2 k3 a3 ⊢;unfold FC;rw[<- a3];exact qzz 8 [12,17] 3 (λq=>_/\_/\_/\_/\_/\_/\_/\_/\_/\q) [.q (Y2 (.loc (c.j+9))),.r c.cell,.c (.tup [rD a,rD b],FC sz T d fo jo cs ro rest),.k,.r c.cell,.r ({ c with g:=a }:Cl).cell,.c (.loc ((rest.set (c.j+1) ({ c with g:=a }:Cl).cell).length+9),FC sz T d fo jo cs ro (rest.set (c.j+1) ({ c with g:=a }:Cl).cell++[({ c with g:=a }:Cl).dl,p.cell])),.b Y0,.r ({ c with g:=a }:Cl).cell,.b Y1] ⟨hg,U,hp,U,k2,O,a9,k3,nnN a1,rfl⟩
  |some x=>
   obtain⟨A,R,e,hA⟩:=hv (by rw[a1]; simp);refine⟨"good",upd cs { c with g:=a }++[p],A++c.nm::day::R,Z++[({ c with g:=a }:Cl).dl,p.cell],?_,J2,.part1 Y rfl rfl hw p5 p1 e,tk,ln,a8⟩;rw[<- a0]at O k2 k3 a3 ⊢;have a7:=row_ix (R:=R) hA (FS sz T d fo jo (dput (qzh cs) (.int day) (.loc ((rest.set (c.j+1) ({ c with g:=a }:Cl).cell).length+9))) (rowD ro) (rest.set (c.j+1) ({ c with g:=a }:Cl).cell++[({ c with g:=a }:Cl).dl,p.cell]));rw[<- e]at a7;have a6:(rowD ro).length=ro.length:=by simp
   have b6:ro.length=A.length+(R.length+1):=by rw[e]; simp
   have hok:decide (0<=(A.length:Int)+1/\(A.length:Int)+1<=(rowD ro).length/\(rowD ro).length<lim)=true:=Z7 ⟨by lia,by rw[a6]; lia,by rw[a6]; unfold lim; lia⟩;have b1:(rowD ro).take ((A.length:Int)+1).toNat++.int day::(rowD ro).drop ((A.length:Int)+1).toNat=rowD (A++c.nm::day::R):=by
    rw[show((A.length:Int)+1).toNat=(rowD A).length+1 by simp,e];have:=qnh (rowD A) (.int c.nm) (.int day) (rowD R);simpa[rowD] using this
   unfold FC;rw[<- a3,<- b1];exact qzz 8 [12,17] 3 (λq=>_/\_/\_/\_/\_/\_/\_/\_/\_/\_/\_/\q) [.q (Y2 (.loc (c.j+9))),.r c.cell,.c (.tup [rD a,rD b],FC sz T d fo jo cs ro rest),.k,.r c.cell,.r ({ c with g:=a }:Cl).cell,.c (.loc ((rest.set (c.j+1) ({ c with g:=a }:Cl).cell).length+9),FC sz T d fo jo cs ro (rest.set (c.j+1) ({ c with g:=a }:Cl).cell++[({ c with g:=a }:Cl).dl,p.cell])),.b Y0,.r ({ c with g:=a }:Cl).cell,.b Y0,.c (.int (A.length:Int),FS sz T d fo jo (dput (qzh cs) (.int day) (.loc ((rest.set (c.j+1) ({ c with g:=a }:Cl).cell).length+9))) (rowD ro) (rest.set (c.j+1) ({ c with g:=a }:Cl).cell++[({ c with g:=a }:Cl).dl,p.cell])),.b Y0] ⟨hg,U,hp,U,k2,O,a9,k3,nnS a1,a7,hok,rfl⟩
end
structure RowI (day:Int) (cs:List Cl) (ro:List Int):Prop where
 in1:∀n∈ro,∃c∈cs,c.nm=n
 in2:∀c∈cs,c.v≠Y3->c.nm∈ro
 le:∀c∈cs,c.nm<=day
 ow:∀c∈cs,Ow c
noncomputable def voD(vs:List (Int×D×List (Int×Int))):List (D×D):=vs.map λv=>(.int v.1,.tup [v.2.1,.tup (v.2.2.map cD)])
section
variable {sz:Zt}{T d:Int}{fo jo:List (D×D)}{ro:List Int}{rest:Yo}{cs:List Cl}{B:Nat}
def qif(h:Op z cs ro cs' O):(∀c∈cs',(∃x∈cs,x.nm=c.nm)\/c.nm=z)/\cs'.length<=cs.length+1/\O.length+cs.length<=ro.length+cs'.length+cs.length:=by
 have L:∀(cs:List Cl) J,(upd cs J).length=cs.length:=λcs J=>by unfold upd; simp
 have un:∀(cs:List Cl) J,∀c∈upd cs J,∃x∈cs,x.nm=c.nm:=λcs J c F=>by
  have:c.nm∈(upd cs J).map (·.nm):=Qqw.mpr ⟨c,F,rfl⟩;rw[qy1]at this;exact Qqw.mp this
 cases h with
 |same=>exact⟨λc F=>.inl ⟨c,F,rfl⟩,by lia,by lia⟩
 |upd F hn Y U=>exact⟨λc F=>.inl (un _ _ c F),by rw[L]; lia,by rw[L]; lia⟩
 |vein ps=>
  refine⟨λc F=>?_,by simp,?_⟩
  ·obtain⟨x,q,rfl⟩:=Qqw.mp F;exact .inl ⟨x,q,(qqj z ps x).1.symm⟩
  ·have:=Qz9 (hit z ps) cs;simp
   lia
 |@stake c ps hn Y U=>
  refine⟨λx q=>?_,by simp,?_⟩
  ·rcases Qqh.mp q with q|q
   ·exact .inl ⟨x,q,rfl⟩
   ·cases Qqy.mp q;exact .inr ((qqj z ps c).1.trans hn)
  ·split<;>simp<;>lia
 |@part0 c J p F hn Y U pw pn pv h=>
  refine⟨λx q=>?_,by simp[L],by simp[L]<;>lia⟩;rcases Qqh.mp q with q|q
  ·exact .inl (un _ _ x q)
  ·cases Qqy.mp q; exact .inr pn
 |@part1 c J p A R F hn Y U pw pn Z=>
  subst Z;refine⟨λx q=>?_,by simp[L],by simp[L]; lia⟩;rcases Qqh.mp q with q|q
  ·exact .inl (un _ _ x q)
  ·cases Qqy.mp q; exact .inr pn
inductive CF':D->Prop
 |work (n:Int):CF' (.tup [sO "work",.int n])
 |give (n:Int):CF' (.tup [sO "give",.int n])
 |sell (n o:Int) (ho:1<=o/\o<=40):CF' (.tup [sO "sell",.int n,.int o])
 |part (n s l o:Int) (hs:s=0\/s=1) (ho:1<=o/\o<=40):CF' (.tup [sO "part",.int n,.int s,.int l,.int o])
def qas(cs:List Cl)(n):(∀c∈cs,c.nm≠n)\/∃c∈cs,c.nm=n:=by
 by_cases h:∃c∈cs,c.nm=n
 ·exact .inr h
 ·exact .inl λc q e=>h ⟨c,q,e⟩
theorem qwk:∀{l:List Int},n∈l->∃A R,l=A++n::R/\n ∉ A
 |a::r,h=>by
  by_cases e:a=n
  ·exact⟨[],r,by rw[e]; rfl,by simp⟩
  ·rcases Qqa.mp h with z|z
   ·exact absurd z.symm e
   ·obtain⟨A,R,rfl,F⟩:=qwk z;exact⟨a::A,R,rfl,by simp only[Qqa,not_or]; exact⟨λq=>e q.symm,F⟩⟩
def qe7(m)(I:Inv B rest cs)(hB:B<=rest.length)(a2 J)(hd:a2<J)(hr:ro.length+cs.length<900)(h9:∀c∈cs,c.ds.length<899)(Rw:RowI a2 cs ro)(hf:CF' f):
  ∃w U Y F,callD fns (m+4) 26 [.loc 3,.int J,f] (FC sz T d fo jo cs ro rest)=Y2 (sO w,FC sz T d fo jo U Y F)/\Inv B F U/\Op J cs ro U Y/\F.take B=rest.take B/\rest.length<=F.length/\(∀c∈U,∃x,x.ds.length<=c.ds.length/\c.ds.length<=x.ds.length+1/\(x∈cs)):=by
 have self:∀c∈cs,∃x,x.ds.length<=c.ds.length/\c.ds.length<=x.ds.length+1/\x∈cs:=λc O=>⟨c,by lia,by lia,O⟩
 have a0:∀{c c':Cl},c∈cs->c.ds.length<=c'.ds.length->c'.ds.length<=c.ds.length+1->∀y∈upd cs c',∃x,x.ds.length<=y.ds.length/\y.ds.length<=x.ds.length+1/\x∈cs:=λ{c c'} O h1 h2 y hy=>by
  obtain⟨z,hz,rfl⟩:=Qqw.mp hy
  by_cases e:z.nm=c'.nm
  ·rw[Xq e]; exact⟨c,h1,h2,O⟩
  ·rw[Z9 e]; exact self z hz
 have no:∀n w r,(∀c∈cs,c.nm≠n)->∃w' U Y F,callD fns (m+4) 26 [.loc 3,.int J,.tup (sO w::.int n::r)] (FC sz T d fo jo cs ro rest)=Y2 (sO w',FC sz T d fo jo U Y F)/\Inv B F U/\Op J cs ro U Y/\F.take B=rest.take B/\rest.length<=F.length/\(∀c∈U,∃x,x.ds.length<=c.ds.length/\c.ds.length<=x.ds.length+1/\(x∈cs)):=λn w r h=>
  ⟨"noclaim",cs,ro,rest,chg_no (m+3) J n w r h,I,.same,rfl,Qqj _,self⟩
 have ov:∀c w r,c∈cs->over J c->∃w' U Y F,callD fns (m+4) 26 [.loc 3,.int J,.tup (sO w::.int c.nm::r)] (FC sz T d fo jo cs ro rest)=Y2 (sO w',FC sz T d fo jo U Y F)/\Inv B F U/\Op J cs ro U Y/\F.take B=rest.take B/\rest.length<=F.length/\(∀c∈U,∃x,x.ds.length<=c.ds.length/\c.ds.length<=x.ds.length+1/\(x∈cs)):=λc w r h Z=>
  ⟨"ended",cs,ro,rest,qh1 (m+2) I J w r h Z,I,.same,rfl,Qqj _,self⟩
 cases hf with
 |work n=>
  rcases qas cs n with h|⟨c,O,rfl⟩
  ·exact no n _ _ h
  ·by_cases Z:over J c
   ·exact ov c _ _ O Z
   ·obtain⟨L,h⟩:=qhu (m+1) I J O Z (h9 c O);refine⟨"good",upd cs { c with ds:=c.ds++[J],la:=L },ro,_,?_,I.put O rfl rfl ⟨by simp,by have:=h9 c O; simp; lia⟩,.upd O rfl rfl (Rw.ow c O),?_,?_,a0 O (by simp) (by simp)⟩
    ·unfold FC;rw[qjx (c':={ c with ds:=c.ds++[J],la:=L }) O I.nd rfl rfl];exact h
    ·rw[qq0 (by have:=I.lo c O; lia),qq0 (I.lo c O)]
    ·simp
 |give n=>
  rcases qas cs n with h|⟨c,O,rfl⟩
  ·exact no n _ _ h
  ·by_cases Z:over J c
   ·exact ov c _ _ O Z
   ·refine⟨"good",upd cs { c with gv:=Y2 J },ro,_,?_,I.cell O rfl rfl rfl,.upd O rfl rfl (Rw.ow c O),qq0 (by have:=I.lo c O; lia),by simp,a0 O (Qqj _) (by simp)⟩;unfold FC;rw[qjx (c':={ c with gv:=Y2 J }) O I.nd rfl rfl];exact qh2 (m+2) I J O Z
 |sell n o a3=>
  rcases qas cs n with h|⟨c,O,rfl⟩
  ·exact no n _ _ h
  ·by_cases Z:over J c
   ·exact ov c _ _ O Z
   ·refine⟨"good",upd cs { c with o:=o },ro,_,?_,I.cell O rfl rfl rfl,.upd O rfl rfl a3,qq0 (by have:=I.lo c O; lia),by simp,a0 O (Qqj _) (by simp)⟩;unfold FC;rw[qjx (c':={ c with o:=o }) O I.nd rfl rfl];exact qh0 (m+2) I J o O Z
 |part n s l o hs a3=>
  rcases qas cs n with h|⟨c,O,rfl⟩
  ·exact no n _ _ h
  ·by_cases Z:over J c
   ·exact ov c _ _ O Z
   ·obtain⟨w,U,Y,F,h1,h2,h3,h4,h5,h6⟩:=qmo (sz:=sz) (T:=T) (d:=d) (fo:=fo) (jo:=jo) m I hB J l o s hs O (Rw.ow c O) a3 hr (λx hx e=>by have:=Rw.le x hx; lia) (λhv=>qwk (Rw.in2 c O hv));have hg:=I.get O;have a4:=(I.at_ c O).2;have a1:=qqd (sz:=sz) (T:=T) (d:=d) (fo:=fo) (jo:=jo) (bo:=qzh cs) (ro:=rowD ro) (m+2) c J a4;refine⟨w,U,Y,F,?_,h2,h3,h4,h5,h6⟩;rcases qai Z with e|e
    ·rw[e]at a1;exact qzz 8 [18,27] 4 (λq=>_/\_/\_/\_/\_/\q) [.q (Y2 (.loc (c.j+9))),.q (Y2 (.loc (c.j+9))),.r c.cell,.c (sO "unvested",FC sz T d fo jo cs ro rest),.c (sO w,FC sz T d fo jo U Y F)] ⟨hg,hg,a4,a1,h1,rfl⟩
    ·rw[e]at a1;exact qzz 8 [18,27] 4 (λq=>_/\_/\_/\_/\_/\q) [.q (Y2 (.loc (c.j+9))),.q (Y2 (.loc (c.j+9))),.r c.cell,.c (sO "stands",FC sz T d fo jo cs ro rest),.c (sO w,FC sz T d fo jo U Y F)] ⟨hg,hg,a4,a1,h1,rfl⟩
end
section
variable {sz:Zt}{T d:Int}{fo jo:List (D×D)}{ro:List Int}{rest:Yo}{cs:List Cl}{B:Nat}
def day_ok(m)(st)(z)(J:1<=z)(F:z<=400):callD fns (m+2) 43 [.int z] st=Y2 (.non,st):=
 qzz 0 [] 2 (λq=>_/\_/\q) [.b Y0,.b Y0] ⟨Z7 J,Z7 F,rfl⟩
def qq2(m){S:Yo}(O:1<=z)(L:z<=400)(hd:d<z)(F:callD fns (m+6) 8 [sz.s,f] (FC sz T d fo jo cs ro rest)=Y2 (.bl Y0,FC sz T d fo jo cs ro rest))(J:callD fns (m+6) 46 [.loc 0,f] (FC sz T z fo jo cs ro rest)=Y2 (v,S)):
  callD fns (m+7) 45 [.loc 0,.int z,f] (FC sz T d fo jo cs ro rest)=Y2 (v,S):=
 qzz 8 [43,8,46] 7 (λq=>_/\_/\_/\_/\q) [.c (.non,FC sz T d fo jo cs ro rest),.c (.bl Y0,FC sz T d fo jo cs ro rest),.b Y1,.c (v,S)] ⟨day_ok (m+4) (FC sz T d fo jo cs ro rest) z O L,F,Z8 (show ¬ z<=d by lia),J,rfl⟩
def qfp(m){S:Yo}(z:CF' f)(h:callD fns (m+4) 26 [.loc 3,.int d,f] (FC sz T d fo jo cs ro rest)=Y2 (v,S)):callD fns (m+5) 46 [.loc 0,f] (FC sz T d fo jo cs ro rest)=Y2 (v,S):=by
 cases z with
 |work n=>exact qzz 8 [26] 5 (λq=>_/\q) [.c (v,S)] ⟨h,rfl⟩
 |give n=>exact qzz 8 [26] 5 (λq=>_/\q) [.c (v,S)] ⟨h,rfl⟩
 |sell n o _=>exact qzz 8 [26] 5 (λq=>_/\q) [.c (v,S)] ⟨h,rfl⟩
 |part n s l o F _=>exact qzz 8 [26] 5 (λq=>_/\q) [.c (v,S)] ⟨h,rfl⟩
def qh7(m)(a b f)(U:jo.length<1000):∃w F,callD fns (m+2) 46 [.loc 0,.tup [sO "join",.int a,.int b,.int f]] (FC sz T d fo jo cs ro rest)=Y2 (sO w,FC sz T d fo F cs ro rest)/\F.length<=jo.length+1/\(F=jo\/(b<a/\(dget fo (.int b)).isSome/\F=dput jo (.int a) (.tup [.int b,.int f]))):=by
 have O:decide (jo.length<lim)=true:=Z7 (by unfold lim; lia);have dl:∀v,(dput jo (.int a) v).length<=jo.length+1:=λv=>by unfold dput; split<;>simp
 cases h1:dget fo (.int a) with
 |none=>exact⟨"novein",jo,qzz 8 [] 2 (λq=>_/\q) [.q Y3] ⟨h1,rfl⟩,by lia,.inl rfl⟩
 |some x=>
  cases h2:dget fo (.int b) with
  |none=>exact⟨"novein",jo,qzz 8 [] 2 (λq=>_/\_/\q) [.q (Y2 x),.q Y3] ⟨h1,h2,rfl⟩,by lia,.inl rfl⟩
  |some y=>
   by_cases J:a<=b
   ·exact⟨"order",jo,qzz 8 [] 2 (λq=>_/\_/\_/\q) [.q (Y2 x),.q (Y2 y),.b Y0] ⟨h1,h2,Z7 J,rfl⟩,by lia,.inl rfl⟩
   ·cases L:dget jo (.int a) with
    |some z=>exact⟨"joined",jo,qzz 8 [] 2 (λq=>_/\_/\_/\_/\q) [.q (Y2 x),.q (Y2 y),.b Y1,.q (Y2 z)] ⟨h1,h2,Z8 J,L,rfl⟩,by lia,.inl rfl⟩
    |none=>exact⟨"good",dput jo (.int a) (.tup [.int b,.int f]),qzz 8 [] 2 (λq=>_/\_/\_/\_/\_/\q) [.q (Y2 x),.q (Y2 y),.b Y1,.q Y3,.b Y0] ⟨h1,h2,Z8 J,L,O,rfl⟩,dl _,.inr ⟨by lia,rfl,rfl⟩⟩
def qkt(h:∀p∈kvs,eqT p.1 (.int n)=Y1):dput kvs (.int n) v=kvs++[(.int n,v)]:=by
 unfold dput;have:kvs.any (λp=>eqT p.1 (.int n))=false:=by
  rw[Qjo];intro p q;rw[h p q];simp
 rw[this];simp
def qfu(h:∀v∈vs,v.1≠n)(s)(ps):dput (voD vs) (.int n) (.tup [s,.tup (ps.map cD)])=voD (vs++[(n,s,ps)]):=by
 rw[qkt λp z=>?_]
 ·simp[voD]
 ·obtain⟨v,q,rfl⟩:=Qqw.mp z;show(v.1==n)=Y1;simpa using h v q
def qh6(m)(I:Inv B rest cs)(s)(ps)(vs)(J:∀v∈vs,v.1≠d)(F:vs.length<1000)(Z:ps.length<1000)(L:ro.length+cs.length<1000):
  ∃z,callD fns (m+6) 46 [.loc 0,.tup [sO "vein",s,.tup (ps.map cD)]] (FC sz T d (voD vs) jo cs ro rest)=Y2 (sO "good",FC sz T d (voD (vs++[(d,s,ps)])) jo (cs.map (vst d ps)) (ro++(cs.filter (hit d ps)).map (·.nm)) z)/\Inv B z (cs.map (vst d ps))/\z.take B=rest.take B/\z.length=rest.length:=by
 obtain⟨z,h1,h2,Y,U⟩:=qi9 (sz:=sz) (T:=T) (d:=d) (fo:=voD (vs++[(d,s,ps)])) (jo:=jo) m I d ps (by unfold lim; lia) L;refine⟨z,?_,h2,Y,U⟩;have O:decide ((voD vs).length<lim)=true:=Z7 (by unfold voD lim; rw[Qqz]; lia);rw[<- qfu J]at h1 ⊢;exact qzz 8 [25] 6 (λq=>_/\_/\q) [.b Y0,.c (.non,FC sz T d (dput (voD vs) (.int d) (.tup [s,.tup (ps.map cD)])) jo (cs.map (vst d ps)) (ro++(cs.filter (hit d ps)).map (·.nm)) z)] ⟨O,h1,rfl⟩
end
section
variable {sz:Zt}{T d:Int}{jo:List (D×D)}{ro:List Int}{rest:Yo}{cs:List Cl}{B:Nat}
noncomputable def FSf(sz:Zt)(T d:Int)(fo jo bo:List (D×D))(ro:List D)(rest:Yo):Yo:=
 .obj 642 [("extent",sz.s),("year",.int T),("day",.int d),("found",.loc 1),("joints",.loc 2),("staked",.loc 3),("dug",.loc 6),("debts",.loc 7)]::.dic Y1 fo::.dic Y0 jo::.obj 347 [("year",.int T),("book",.loc 4),("row",.loc 5)]::.dic Y0 bo::.lst Y0 ro::.tdc Y0 sz.dg::.lst Y0 sz.es::rest
theorem qys:∀{vs}{v},v∈vs->(vs.map (·.1)).Nodup->dget (voD vs) (.int v.1)=Y2 (.tup [v.2.1,.tup (v.2.2.map cD)])
 |a::r,v,h,hn=>by
  unfold dget voD;rw[Qqb,Qqu];show Option.map _ (match (a.1==v.1) with|true=>_|false=>_)=_;rw[Qqb,Qzv]at hn;rcases Qqa.mp h with rfl|h'
  ·simp
  ·have e:(a.1==v.1)=false:=by
    rw[beq_eq_false_iff_ne];exact λe=>hn.1 (Qqw.mpr ⟨v,h',e.symm⟩)
   rw[e];exact qys h' hn.2
def qfn(m)(I:Inv B rest cs)(hB:B<=rest.length)(o)(a5:1<=o/\o<=40)(g:Int×Int×Int×Int)(vs)(a2:(vs.map (·.1)).Nodup)(a7:vs.length<1000)(U:∀v∈vs,v.2.2.length<=16)(hr:ro.length+cs.length<900)(hn:∀x∈cs,x.nm≠d):
  ∃F J z,callD fns (m+6) 46 [.loc 0,.tup [sO "stake",.int o,.int g.1,.int g.2.1,.int g.2.2.1,.int g.2.2.2]] (FC sz T d (voD vs) jo cs ro rest)=Y2 (sO "good",FC sz T d (voD vs) jo F J z)/\Inv B z F/\Op d cs ro F J/\z.take B=rest.take B/\rest.length<=z.length/\(∀c∈F,c∈cs\/c.ds.length=1):=by
 have keys:keysOf (voD vs)=vs.map λv=>D.int v.1:=by unfold keysOf voD; rw[Qq5]; rfl
 have a0:∀k,((vs.take k).flatMap (·.2.2)).length<=16*k:=λk=>by
  rw[List.length_flatMap];have:∀l:List (Int×D×List (Int×Int)),(∀v∈l,v.2.2.length<=16)->(l.map λv=>v.2.2.length).sum<=16*l.length:=λl=>by
   induction l with
   |nil=>intro _; simp
   |cons a r ih=>
    intro h;have h1:=h a (Qq6 ..);have h2:=ih λv Y=>h v (Qqt _ Y);simp only[Qqb,Qzo,Qqg]
    lia
  have h:=this (vs.take k) λv Y=>U v (Qxr Y);have:(vs.take k).length<=k:=by rw[Qzz]; lia
  lia
 obtain⟨O,st',h1,h2⟩:=qvk (f:=λτ st x=>(setT (.var 3) x τ).bind λO=>(RL (callD fns (m+4))).ex O st [.expr (.meth (.var 2) .extend [.idx (.didx (.attr 642 (.var 0) "found") (.var 3)) (.lit (.int 1))])]) (s:=.tup (keysOf (voD vs))) (ds:=vs.map λv=>D.int v.1) (st:=FSf sz T d (voD vs) jo (qzh cs) (rowD ro) (rest++[.lst Y0 []]))
  (λk O st'=>∃x,O=[Y2 (.loc 0),Y2 (.tup [sO "stake",.int o,.int g.1,.int g.2.1,.int g.2.2.1,.int g.2.2.2]),Y2 (.loc (rest.length+8)),x]/\st'=FSf sz T d (voD vs) jo (qzh cs) (rowD ro) (rest++[.lst Y0 (((vs.take k).flatMap (·.2.2)).map cD)])) (λ_ _=>False)
  ⟨Y3,rfl,by simp⟩ (by simp[Src.size,keys]) (λk O st' _=>by rw[keys]; rfl) (λk O st' x hx h=>by
   obtain⟨y,rfl,rfl⟩:=h;rw[Qqv]at hx;obtain⟨v,Y,rfl⟩:=Qqf.mp hx;have hk:=(Qqk.mp Y).1;have a6:=(Qqk.mp Y).2;have tk:vs.take (k+1)=vs.take k++[v]:=by rw[Qzi hk,a6]
   have hg:=qys (Qqm Y) a2;have g0:=gl (st:=rest) (c:=.lst Y0 (((vs.take k).flatMap (·.2.2)).map cD))
   have hb:decide ((((vs.take k).flatMap (·.2.2)).map cD).length+(v.2.2.map cD).length<=lim)=true:=Z7 (by
    have:=a0 k;have:=U v (Qqm Y);rw[Qqz,Qqz];unfold lim
    lia)
   refine .inl ⟨[Y2 (.loc 0),Y2 (.tup [sO "stake",.int o,.int g.1,.int g.2.1,.int g.2.2.1,.int g.2.2.2]),Y2 (.loc (rest.length+8)),Y2 (.int v.1)],FSf sz T d (voD vs) jo (qzh cs) (rowD ro) ((rest++[Yc.lst Y0 (((vs.take k).flatMap (·.2.2)).map cD)]).set rest.length (.lst Y0 (((vs.take k).flatMap (·.2.2)).map cD++v.2.2.map cD))),.inl (qzc 8 [] 4 (λq=>_/\_/\_/\_/\q) [.r (.lst Y0 (((vs.take k).flatMap (·.2.2)).map cD)),.q (Y2 (.tup [v.2.1,.tup (v.2.2.map cD)])),.r (.lst Y0 (((vs.take k).flatMap (·.2.2)).map cD)),.b Y0] ⟨g0,hg,g0,hb,rfl⟩),Y2 (.int v.1),rfl,?_⟩;rw[sl,tk]
   simp)
 obtain⟨x,rfl,rfl⟩:=h2.resolve_right id;rw[Qqz,Qzu]at h1;generalize a3:vs.flatMap (·.2.2)=ps at h1;have a4:ps.length<lim:=by
  have:=a0 vs.length;rw[Qzu,a3]at this;unfold lim
  lia
 have Z:stepEx (RL (callD fns (m+4))) [Y2 (.loc 0),Y2 (.tup [sO "stake",.int o,.int g.1,.int g.2.1,.int g.2.2.1,.int g.2.2.2]),Y2 (.loc (rest.length+8)),Y3] (FC sz T d (voD vs) jo cs ro (rest++[.lst Y0 []])) (.ford (.var 3) (.attr 642 (.var 0) "found") [.expr (.meth (.var 2) .extend [.idx (.didx (.attr 642 (.var 0) "found") (.var 3)) (.lit (.int 1))])])=Y2 (.nx [Y2 (.loc 0),Y2 (.tup [sO "stake",.int o,.int g.1,.int g.2.1,.int g.2.2.1,.int g.2.2.2]),Y2 (.loc (rest.length+8)),x],FC sz T d (voD vs) jo cs ro (rest++[.lst Y0 (ps.map cD)])):=by
  have ea:(RL (callD fns (m+4))).ev [Y2 (.loc 0),Y2 (.tup [sO "stake",.int o,.int g.1,.int g.2.1,.int g.2.2.1,.int g.2.2.2]),Y2 (.loc (rest.length+8)),Y3] (FC sz T d (voD vs) jo cs ro (rest++[.lst Y0 []])) (.attr 642 (.var 0) "found")=Y2 (.loc 1,FC sz T d (voD vs) jo cs ro (rest++[.lst Y0 []])):=qzf 8 [] 4 (λq=>q) [] rfl;show((RL (callD fns (m+4))).ev _ _ _).bind _=_;rw[ea];show((loop (.tup (keysOf (voD vs))) _ ((voD vs).length+1) 0 _ (FSf sz T d (voD vs) jo (qzh cs) (rowD ro) (rest++[.lst Y0 []]))).bind _)=_;have:(voD vs).length+1=(Src.tup (keysOf (voD vs))).size (FSf sz T d (voD vs) jo (qzh cs) (rowD ro) (rest++[.lst Y0 []]))+1:=by simp[Src.size,keysOf]
  rw[this,h1]
  rfl
 obtain⟨L,h3,h4⟩:=qgc m (I.more [.lst Y0 (ps.map cD)]) (by simp; lia) d o g (q:=.loc (rest.length+8)) (λbo r=>by
  show listAt _ _=_;unfold listAt;have:(FS sz T d (voD vs) jo bo (rowD ro) (rest++[.lst Y0 (ps.map cD)]++r))[rest.length+8]?=(rest++[Yc.lst Y0 (ps.map cD)]++r)[rest.length]?:=rfl;rw[this]
  simp) a4 hr hn
 have a1:∀F J z,callD fns (m+4) 23 [.loc 3,.int d,.int o,rD g,.loc (rest.length+8)] (FC sz T d (voD vs) jo cs ro (rest++[.lst Y0 (ps.map cD)]))=Y2 (.non,FC sz T d (voD vs) jo F J z)->callD fns (m+6) 46 [.loc 0,.tup [sO "stake",.int o,.int g.1,.int g.2.1,.int g.2.2.1,.int g.2.2.2]] (FC sz T d (voD vs) jo cs ro rest)=Y2 (sO "good",FC sz T d (voD vs) jo F J z):=λF J z h3=>
  qzz 8 [23] 6 (λq=>_/\_/\q) [.s (.nx [Y2 (.loc 0),Y2 (.tup [sO "stake",.int o,.int g.1,.int g.2.1,.int g.2.2.1,.int g.2.2.2]),Y2 (.loc (rest.length+8)),x],FC sz T d (voD vs) jo cs ro (rest++[.lst Y0 (ps.map cD)])),.c (.non,FC sz T d (voD vs) jo F J z)] ⟨Z,h3,rfl⟩
 refine⟨_,_,_,a1 _ _ _ h3,h4,.stake ps rfl rfl a5,?_,?_,?_⟩
 ·rw[Qzj,Qjh hB]
 ·simp
 ·intro c hc;rcases Qqh.mp hc with hc|hc
  ·exact .inl hc
  ·cases Qqy.mp hc;rw[(qqj _ _ _).2.2];exact .inr rfl
end
noncomputable def stB(cs:List Cl)(day:Int)(n:Int):Bool:=match cs.find? λc=>c.nm==n with
 |some c=>decide (stW c day = "stands")
 |none=>Y1
section
variable {sz:Zt}{T d:Int}{fo jo:List (D×D)}{ro:List Int}{rest:Yo}{cs:List Cl}{B:Nat}
def stB_of(F:(cs.map (·.nm)).Nodup)(J:c∈cs)(z):stB cs z c.nm=decide (stW c z = "stands"):=by
 have:cs.find? (λx=>x.nm==c.nm)=Y2 c:=by
  induction cs with
  |nil=>cases J
  |cons a r L=>
   rw[Qqb,Qzv]at F;rw[Qqu];rcases Qqa.mp J with rfl|q
   ·simp
   ·have e:(a.nm==c.nm)=false:=by
     rw[beq_eq_false_iff_ne];exact λe=>F.1 (Qqw.mpr ⟨c,q,e.symm⟩)
    rw[e];exact L F.2 q
 unfold stB;rw[this]
def qgb(m)(I:Inv B rest cs)(O:∀n∈ro,∃c∈cs,c.nm=n)(Z:ro.length<1000):callD fns (m+3) 59 [.loc 0] (FC sz T d fo jo cs ro rest)=Y2 (.loc (FC sz T d fo jo cs ro rest).length,FC sz T d fo jo cs ro rest++[.lst Y0 (rowD (ro.filter (stB cs d)))]):=by
 have U:(RL (callD fns (m+1))).ev [Y2 (.loc 3),Y2 (.int d)] (FC sz T d fo jo cs ro rest) (.attr 347 (.var 0) "row")=Y2 (.loc 5,FC sz T d fo jo cs ro rest):=qzf 8 [] 1 (λq=>q) [] rfl;have h:=qyo (it:=.attr 347 (.var 0) "row") (elt:=.var 0) (c:=.cmp .Eq (.mcall 265 18 "state" (.didx (.attr 347 (.var 2) "book") (.var 0)) [.var 1]) (.lit (sO "stands"))) (sr:=[Y3,Y2 1,Y2 0]) (p:=λx=>match x with|.int n=>stB cs d n|_=>Y1) id
  (by show((RL (callD fns (m+1))).ev _ _ _).bind _=_; rw[U]; rfl) (λi=>rfl) rfl rfl (by simp; unfold lim; lia)
  (λi x Y=>by
   rw[Qqv]at Y;obtain⟨n,hn,rfl⟩:=Qqf.mp Y;obtain⟨c,L,rfl⟩:=O n (Qqm hn);have z:=qqd (sz:=sz) (T:=T) (d:=d) (fo:=fo) (jo:=jo) (bo:=qzh cs) (ro:=rowD ro) m c d (I.at_ c L).2;have J:=I.get L;have F:=(I.at_ c L).2;show _=Y2 (stB cs d c.nm,_);rw[stB_of I.nd L];rcases qxb c d with⟨e,_⟩|⟨e,_⟩|⟨e,_⟩|⟨e,_⟩<;>rw[e]at z ⊢
   ·exact qzi 8 [18] 1 (λq=>_/\_/\_/\q) [.q (Y2 (.loc (c.j+9))),.r c.cell,.c (sO "unvested",FC sz T d fo jo cs ro rest)] ⟨J,F,z,rfl⟩
   ·exact qzi 8 [18] 1 (λq=>_/\_/\_/\q) [.q (Y2 (.loc (c.j+9))),.r c.cell,.c (sO "stands",FC sz T d fo jo cs ro rest)] ⟨J,F,z,rfl⟩
   ·exact qzi 8 [18] 1 (λq=>_/\_/\_/\q) [.q (Y2 (.loc (c.j+9))),.r c.cell,.c (sO "given",FC sz T d fo jo cs ro rest)] ⟨J,F,z,rfl⟩
   ·exact qzi 8 [18] 1 (λq=>_/\_/\_/\q) [.q (Y2 (.loc (c.j+9))),.r c.cell,.c (sO "fallen",FC sz T d fo jo cs ro rest)] ⟨J,F,z,rfl⟩)
  (λi x _ _=>qqo _ _ _ _ _ rfl)
 have e:((rowD ro).filter λx=>match x with|.int n=>stB cs d n|_=>Y1).map id=rowD (ro.filter (stB cs d)):=by
  rw[Qx9];unfold rowD;rw[List.filter_map]
  rfl
 rw[e]at h;exact qzz 8 [] 3 (λq=>_/\q) [.c (.loc (FC sz T d fo jo cs ro rest).length,FC sz T d fo jo cs ro rest++[.lst Y0 (rowD (ro.filter (stB cs d)))])] ⟨h,rfl⟩
def qvi(m)(I:Inv B rest cs)(J:c∈cs):callD fns (m+2) 58 [.loc 0,.int c.nm] (FC sz T d fo jo cs ro rest)=Y2 (.tup [.int c.o,rD c.g,.int c.la,oD c.v,oD c.gv],FC sz T d fo jo cs ro rest):=by
 have F:=I.get J;have z:=(I.at_ c J).2;exact qzz 8 [] 2 (λq=>_/\_/\_/\_/\_/\_/\_/\q) [.q (Y2 (.loc (c.j+9))),.q (Y2 (.loc (c.j+9))),.r c.cell,.r c.cell,.r c.cell,.r c.cell,.r c.cell] ⟨F,F,z,z,z,z,z,rfl⟩
end
def qn3{cs q:List Cl}(e:q.map (·.nm)=cs.map (·.nm))(h:∃c∈cs,c.nm=n):∃c∈q,c.nm=n:=by
 have:=Qqw.mpr h;rw[<- e]at this;exact Qqw.mp this
def qeo{p:Cl}(h:∃c∈cs,c.nm=n):∃c∈cs++[p],c.nm=n:=by
 obtain⟨c,q,e⟩:=h;exact⟨c,Qzy _ q,e⟩
def qkq{Q:Cl->Prop}(h:∀c∈cs,Q c)(z:Q p):∀c∈cs++[p],Q c:=λc q=>by
 rcases Qqh.mp q with q|q
 ·exact h c q
 ·cases Qqy.mp q; exact z
def qvp{Q:Cl->Prop}(h:∀c∈cs,Q c)(F:Q c'):∀c∈upd cs c',Q c:=λc J=>by
 obtain⟨y,q,rfl⟩:=Qqw.mp J
 by_cases z:y.nm=c'.nm
 ·rw[Xq z]; exact F
 ·rw[Z9 z]; exact h y q
def vst_o(q)(ps)(c):(vst q ps c).o=c.o:=by
 unfold vst;cases hit q ps c<;>rfl
def op_row(hd:d0<day)(R:RowI d0 cs ro)(h:Op day cs ro Z ro'):RowI day Z ro':=by
 have F:∀c∈Z,c.nm<=day:=λc L=>by
  rcases (qif h).1 c L with⟨x,q,e⟩|e
  ·have:=R.le x q; lia
  ·lia
 have un:∀{c O:Cl},c∈cs->O.nm=c.nm->O.v=c.v->∀x∈upd cs O,x.v≠Y3->x.nm∈ro:=λ{c O} L e U=>qvp R.in2 λz=>by rw[e]; exact R.in2 c L (by rw[<- U]; exact z)
 have ui:∀{O:Cl},∀n∈ro,∃c∈upd cs O,c.nm=n:=λ{O} n hn=>qn3 qy1 (R.in1 n hn)
 cases h with
 |same=>exact⟨R.in1,R.in2,F,R.ow⟩
 |@upd c O L e U Y=>exact⟨ui,un L e U,F,qvp R.ow Y⟩
 |vein ps=>
  have nm:(cs.map (vst day ps)).map (·.nm)=cs.map (·.nm):=by
   rw[Qq5];exact Qzc λc _=>(qqj day ps c).1
  refine⟨λn q=>?_,λx q J=>?_,F,λx q=>?_⟩
  ·rcases Qqh.mp q with q|q
   ·exact qn3 nm (R.in1 n q)
   ·obtain⟨c,L,e⟩:=Qqw.mp q;exact qn3 nm ⟨c,(Qxz.mp L).1,e⟩
  ·obtain⟨y,hy,rfl⟩:=Qqw.mp q;rw[(qqj day ps y).1]
   cases hh:hit day ps y with
   |true=>exact Qqp _ (Qqw.mpr ⟨y,Qxz.mpr ⟨hy,hh⟩,rfl⟩)
   |false=>
    have:vst day ps y=y:=by unfold vst; rw[hh]; rfl
    rw[this]at J;exact Qzy _ (R.in2 y hy J)
  ·obtain⟨y,hy,rfl⟩:=Qqw.mp q;unfold Ow;rw[vst_o];exact R.ow y hy
 |@stake c ps e U Y=>
  have e1:=(qqj day ps c).1.trans e;refine⟨λn q=>?_,λx q J=>?_,F,qkq R.ow (by unfold Ow; rw[vst_o]; exact Y)⟩
  ·rcases Qqh.mp q with q|q
   ·exact qeo (R.in1 n q)
   ·split at q
    ·exact⟨_,Qqp _ (.head _),e1.trans (Qqy.mp q).symm⟩
    ·cases q
  ·rcases Qqh.mp q with q|q
   ·exact Qzy _ (R.in2 x q J)
   ·cases Qqy.mp q
    cases hh:hit day ps c with
    |true=>exact Qqp _ (by rw[e1,Xq rfl]; exact .head _)
    |false=>
     have:vst day ps c=c:=by unfold vst; rw[hh]; rfl
     rw[this]at J;exact absurd U J
 |@part0 c O p L e U Y pw pn pv a0=>exact⟨λn q=>qeo (ui n q),qkq (un L e U) (λz=>absurd (pv.trans a0) z),F,qkq (qvp R.ow Y) pw⟩
 |@part1 c O p A Q L e U Y pw pn hr=>
  subst hr;have ext:∀n,n∈A++c.nm::Q->n∈A++c.nm::day::Q:=λn z=>by
   simp only[Qqh,Qqa]at z ⊢;rcases z with z|z|z
   ·exact .inl z
   ·exact .inr (.inl z)
   ·exact .inr (.inr (.inr z))
  refine⟨λn q=>?_,qkq (λx q z=>ext _ (un L e U x q z)) (λ_=>by rw[pn]; simp),F,qkq (qvp R.ow Y) pw⟩;have:n=day\/n∈A++c.nm::Q:=by
   simp only[Qqh,Qqa]at q ⊢;rcases q with z|z|z|z
   ·exact .inr (.inl z)
   ·exact .inr (.inr (.inl z))
   ·exact .inl z
   ·exact .inr (.inr (.inr z))
  rcases this with rfl|z
  ·exact⟨p,Qqp _ (.head _),pn⟩
  ·exact qeo (ui n z)
theorem qjp{ds:List D}{S:Yo}(g:D->Option D)(P:Sl->Prop)(z:∀i,it.at S i=Y2 ds[i]?)(O:ds.length<lim)(L:∀τ d,d∈ds->P τ->∃q,f τ S d=Y2 (g d,q,S)/\P q):
  ∀(k i:Nat) (τ:Sl),i+k=ds.length->P τ->loopC it f (k+1) i ((ds.take i).filterMap g) τ S=Y2 (ds.filterMap g,S)
 |0,i,τ,h,p=>by
  have e:i=ds.length:=by lia
  subst e;rw[loopC,z,Qzg (Qqj _),Qzu];simp only[oBs];rw[Z9 (by have:=Qj5 g ds; lia)]
 |k+1,i,τ,h,p=>by
  have hi:i<ds.length:=by lia
  obtain⟨q,Y,U⟩:=L τ ds[i] (Qxp hi) p;rw[loopC,z,Qql hi];simp only[oBs];rw[Z9 (by have:=Qj5 g (ds.take i); rw[Qzz]at this; lia),Y];have F:=qjp g P z O L k (i+1) q (by lia) U;rw[Qzi hi,List.filterMap_append]at F;simp only[oBs]
  cases J:g ds[i] with
  |none=>simpa[J] using F
  |some x=>simpa[J] using F
def qqg{ds:List D}(g:D->Option D)(P:Sl->Prop)(L:src (RL c) τ st it=Y2 (s,st))(F:∀i,s.at st i=Y2 ds[i]?)(J:s.size st=ds.length)(O:ds.length<lim)(Y:P (inner sr τ))(U:∀τ d,d∈ds->P τ->∃z,turnC (RL c) t test elt τ st d=Y2 (g d,z,st)/\P z):
  stepEv (RL c) τ st (.comp t it test elt sr)=Y2 (.loc st.length,st++[.lst Y0 (ds.filterMap g)]):=by
 show((src (RL c) τ st it).bind λp=>(loopC p.1 (turnC (RL c) t test elt) (p.1.size p.2+1) 0 [] (inner sr τ) p.2).map λq=>alloc q.2 (.lst Y0 q.1))=_;rw[L];simp only[oBs,J];have:=qjp g P F O U ds.length 0 (inner sr τ) (by lia) Y;rw[Qxl,List.filterMap_nil]at this;rw[this]
 rfl
def qk3(h:setT t d τ=Y2 q)(z:(RL c).ev q st elt=Y2 (x,st)):turnC (RL c) t Y3 elt τ st d=Y2 (Y2 x,q,st):=by
 unfold turnC;rw[h];simp only[oBs,z,oMs]
def turn_if(h:setT t d τ=Y2 z)(F:(RL c).tst z st q=Y2 (b,st))(J:b=Y0->(RL c).ev z st elt=Y2 (x,st)):turnC (RL c) t (Y2 q) elt τ st d=Y2 (if b then Y2 x else Y3,z,st):=by
 unfold turnC;rw[h];simp only[oBs,F]
 cases b with
 |false=>rfl
 |true=>rw[Xq rfl,J rfl]; rfl
noncomputable def szD(W H P:Int):D:=.tup [.int W,.int H,.int P]
noncomputable def bD(W H P:Int):List (D×D):=[(sO "day",.tup [.int 1,.int 400]),(sO "folk",.tup [.int 1,.int 40]),(sO "x",.tup [.int 0,.int (W - 1)]),(sO "y",.tup [.int 0,.int (H - 1)]),(sO "floor",.tup [.int 0,.int P]),(sO "below",.tup [.int 1,.int P]),(sO "side",.tup [.int 0,.int 1]),(sO "line",.tup [.int 1,.int 23]),(sO "step",.tup [.int 0,.int 4]),(sO "coins",.tup [.int 1,.int 1000000])]
def Fit(W H P:Int)(p:Int×String):Prop:=∃lo hi,dget (bD W H P) (sO p.2)=Y2 (.tup [.int lo,.int hi])/\lo<=p.1/\p.1<=hi
def qnu(m)(st)(J:lo<=v)(F:v<=z):callD fns (m+1) 1 [.int v,.tup [.int lo,.int z]] st=Y2 (.bl Y0,st):=
 qzz 0 [] 1 (λq=>_/\_/\q) [.b Y0,.b Y0] ⟨Z7 J,Z7 F,rfl⟩
def qfc(m)(st)(W H P):callD fns (m+1) 0 [szD W H P] st=Y2 (.loc st.length,st++[.dic Y0 (bD W H P)]):=
 qvm 0 [] 1 (.loc st.length,(st++[Yc.dic Y0 []]).set st.length (.dic Y0 (bD W H P))) (λq=>_/\q) [.r (.dic Y0 [])] ⟨gl (st:=st) (c:=.dic Y0 []),by rw[sl]⟩
def qq7(m)(st)(z:List (Int×String))(hl:z.length<1000)(Z:∀p∈z,Fit W H P p):callD fns (m+2) 2 [szD W H P,.tup (z.map λp=>sO p.2),.tup (z.map λp=>.int p.1)] st=Y2 (.bl Y0,st++[.dic Y0 (bD W H P)]):=by
 have h1:(!((((z.map λp=>D.int p.1).length:Nat):Int)==((z.map λp=>sO p.2).length:Nat)))=false:=by simp
 have O:∀i,pairAt (z.map λp=>D.int p.1) (z.map λp=>sO p.2) i=(z.map λp=>D.tup [.int p.1,sO p.2])[i]?:=λi=>by
  unfold pairAt;rw[Qqv,Qqv,Qqv];cases z[i]?<;>rfl
 have L:=qqg (t:=.tup [0,1]) (it:=.zip (.var 2) (.var 1)) (sr:=[Y3,Y3,Y2 3]) (λ_=>Y2 (.bl Y0)) (λτ=>∃a b,τ=[a,b,Y2 (.loc st.length)])
  (by
   have e2:(RL (callD fns (m+1))).ev [Y2 (szD W H P),Y2 (.tup (z.map λp=>sO p.2)),Y2 (.tup (z.map λp=>.int p.1)),Y2 (.loc st.length)] (st++[.dic Y0 (bD W H P)]) (.var 2)=Y2 (.tup (z.map λp=>.int p.1),st++[.dic Y0 (bD W H P)]):=qqo _ _ _ _ _ rfl;have e1:(RL (callD fns (m+1))).ev [Y2 (szD W H P),Y2 (.tup (z.map λp=>sO p.2)),Y2 (.tup (z.map λp=>.int p.1)),Y2 (.loc st.length)] (st++[.dic Y0 (bD W H P)]) (.var 1)=Y2 (.tup (z.map λp=>sO p.2),st++[.dic Y0 (bD W H P)]):=qqo _ _ _ _ _ rfl;show((RL (callD fns (m+1))).ev _ _ (.var 2)).bind _=_;rw[e2];show((RL (callD fns (m+1))).ev _ _ (.var 1)).bind _=_;rw[e1]
   rfl) (λi=>by rw[<- O]; rfl) (by simp[Src.size,rowAt]) (by simp; unfold lim; lia) ⟨Y3,Y3,rfl⟩ (λτ x U F=>by
   obtain⟨a,b,rfl⟩:=F;obtain⟨p,F,rfl⟩:=Qqw.mp U;obtain⟨lo,hi,Y,h4,J⟩:=Z p F;refine⟨[Y2 (.int p.1),Y2 (sO p.2),Y2 (.loc st.length)],?_,Y2 (.int p.1),Y2 (sO p.2),rfl⟩;have:=qzf (fns:=fns) (k:=m) (τ:=[Y2 (.int p.1),Y2 (sO p.2),Y2 (.loc st.length)]) (st:=st++[.dic Y0 (bD W H P)]) (e:=.call 1 [.var 0,.didx (.var 2) (.var 1)]) (r:=(.bl Y0,st++[.dic Y0 (bD W H P)])) 0 [1] 1 (λq=>_/\_/\_/\q) [.r (.dic Y0 (bD W H P)),.q (Y2 (.tup [.int lo,.int hi])),.c (.bl Y0,st++[.dic Y0 (bD W H P)])] ⟨gl (st:=st) (c:=.dic Y0 (bD W H P)),Y,qnu m (st++[.dic Y0 (bD W H P)]) h4 J,rfl⟩
   exact qk3 rfl this)
 have e4:(z.map λp=>D.tup [.int p.1,sO p.2]).filterMap (λ_=>Y2 (D.bl Y0))=(z.map λ_=>Y0).map .bl:=by
  rw[Qx0,Qq5];exact Qja▸rfl
 rw[e4]at L;have J:bfun (st++[.dic Y0 (bD W H P)]) .all [.lst ((z.map λ_=>Y0).map .bl)]=Y2 (.bl Y0,st++[.dic Y0 (bD W H P)]):=by
  show(asBools _).map _=_;rw[asB];exact congrArg (λb=>Y2 (D.bl b,_)) (by simp)
 exact qzz 0 [0] 2 (λq=>_/\_/\_/\_/\_/\q) [.b Y1,.c (.loc st.length,st++[.dic Y0 (bD W H P)]),.c (.loc (st++[Yc.dic Y0 (bD W H P)]).length,st++[.dic Y0 (bD W H P)]++[.lst Y0 ((z.map λ_=>Y0).map .bl)]),.l ((z.map λ_=>Y0).map .bl),.c (.bl Y0,st++[.dic Y0 (bD W H P)])] ⟨h1,qfc m st W H P,L,qza (st:=st++[.dic Y0 (bD W H P)]) (nlB (z.map λ_=>Y0)),J,rfl⟩
def tkl{st:Yo}:(st++[c]).take st.length=st:=by simp
def gB(st:Yo)(c):noLoc (.bl Y0)=Y0/\(st++[c]).take st.length=st:=⟨rfl,tkl⟩
section
def qb0(z:1<=n)(q:n<=400):Fit W H P (n,"day"):=⟨1,400,by kernel_rfl,z,q⟩
def qkr(z:1<=n)(q:n<=40):Fit W H P (n,"folk"):=⟨1,40,by kernel_rfl,z,q⟩
def f_x(q:0<=n)(z:n<W):Fit W H P (n,"x"):=⟨0,W - 1,by kernel_rfl,q,by simp; lia⟩
def f_y(q:0<=n)(z:n<H):Fit W H P (n,"y"):=⟨0,H - 1,by kernel_rfl,q,by simp; lia⟩
def qn2(z:1<=n)(q:n<=P):Fit W H P (n,"below"):=⟨1,P,by kernel_rfl,z,q⟩
def f_side(z:0<=n)(q:n<=1):Fit W H P (n,"side"):=⟨0,1,by kernel_rfl,z,q⟩
def f_line(z:1<=n)(q:n<=23):Fit W H P (n,"line"):=⟨1,23,by kernel_rfl,z,q⟩
def f_step(z:0<=n)(q:n<=4):Fit W H P (n,"step"):=⟨0,4,by kernel_rfl,z,q⟩
def s_work(m)(st)(F:1<=n)(z:n<=400):callD fns (m+3) 8 [szD W H P,.tup [sO "work",.int n]] st=Y2 (.bl Y0,st):=
 qzz 0 [2] 3 (λq=>_/\_/\q) [.c (.bl Y0,st++[.dic Y0 (bD W H P)]),.g] ⟨qq7 m st (W:=W) (H:=H) (P:=P) [(n,"day")] (by simp) (by simp only[Qqy,forall_eq]; exact qb0 F z),gB st (.dic Y0 (bD W H P)),rfl⟩
def s_give(m)(st)(F:1<=n)(z:n<=400):callD fns (m+3) 8 [szD W H P,.tup [sO "give",.int n]] st=Y2 (.bl Y0,st):=
 qzz 0 [2] 3 (λq=>_/\_/\q) [.c (.bl Y0,st++[.dic Y0 (bD W H P)]),.g] ⟨qq7 m st (W:=W) (H:=H) (P:=P) [(n,"day")] (by simp) (by simp only[Qqy,forall_eq]; exact qb0 F z),gB st (.dic Y0 (bD W H P)),rfl⟩
def s_sell(m)(st)(L:1<=n)(J:n<=400)(F:1<=o)(z:o<=40):callD fns (m+3) 8 [szD W H P,.tup [sO "sell",.int n,.int o]] st=Y2 (.bl Y0,st):=
 qzz 0 [2] 3 (λq=>_/\_/\q) [.c (.bl Y0,st++[.dic Y0 (bD W H P)]),.g] ⟨qq7 m st (W:=W) (H:=H) (P:=P) [(n,"day"),(o,"folk")] (by simp) (by simp only[Qqa,Qzx,or_false,forall_eq_or_imp,forall_eq]; exact⟨qb0 L J,qkr F z⟩),gB st (.dic Y0 (bD W H P)),rfl⟩
def s_part(m)(st)(Z:1<=n)(Y:n<=400)(U:0<=s)(O:s<=1)(L:1<=l)(J:l<=23)(F:1<=o)(z:o<=40):callD fns (m+3) 8 [szD W H P,.tup [sO "part",.int n,.int s,.int l,.int o]] st=Y2 (.bl Y0,st):=
 qzz 0 [2] 3 (λq=>_/\_/\q) [.c (.bl Y0,st++[.dic Y0 (bD W H P)]),.g] ⟨qq7 m st (W:=W) (H:=H) (P:=P) [(n,"day"),(s,"side"),(l,"line"),(o,"folk")] (by simp) (by simp only[Qqa,Qzx,or_false,forall_eq_or_imp,forall_eq]; exact⟨qb0 Z Y,f_side U O,f_line L J,qkr F z⟩),gB st (.dic Y0 (bD W H P)),rfl⟩
def s_join(m)(st)(U:1<=a)(O:a<=400)(L:1<=b)(J:b<=400)(F:1<=f)(z:f<=P):callD fns (m+3) 8 [szD W H P,.tup [sO "join",.int a,.int b,.int f]] st=Y2 (.bl Y0,st):=
 qzz 0 [2] 3 (λq=>_/\_/\q) [.c (.bl Y0,st++[.dic Y0 (bD W H P)]),.g] ⟨qq7 m st (W:=W) (H:=H) [(a,"day"),(b,"day"),(f,"below")] (by simp) (by simp only[Qqa,Qzx,or_false,forall_eq_or_imp,forall_eq]; exact⟨qb0 U O,qb0 L J,qn2 F z⟩),gB st (.dic Y0 (bD W H P)),rfl⟩
def s_stake(m)(st){g:Int×Int×Int×Int}(Z:1<=o)(Y:o<=40)(U:0<=g.1)(O:g.1<=g.2.2.1)(L:g.2.2.1<W)(J:0<=g.2.1)(F:g.2.1<=g.2.2.2)(z:g.2.2.2<H):callD fns (m+3) 8 [szD W H P,.tup [sO "stake",.int o,.int g.1,.int g.2.1,.int g.2.2.1,.int g.2.2.2]] st=Y2 (.bl Y0,st):=
 qzz 0 [2] 3 (λq=>_/\_/\_/\_/\q) [.c (.bl Y0,st++[.dic Y0 (bD W H P)]),.g,.b Y0,.b Y0] ⟨qq7 m st (P:=P) [(o,"folk"),(g.1,"x"),(g.2.1,"y"),(g.2.2.1,"x"),(g.2.2.2,"y")] (by simp) (by simp only[Qqa,Qzx,or_false,forall_eq_or_imp,forall_eq]; exact⟨qkr Z Y,f_x U (by lia),f_y J (by lia),f_x (by lia) L,f_y (by lia) z⟩),gB st (.dic Y0 (bD W H P)),Z7 O,Z7 F,rfl⟩
def Cin(W H:Int)(p:Int×Int):Prop:=0<=p.1/\p.1<W/\0<=p.2/\p.2<H
def qoj(m)(st)(h:Cin W H p):callD fns (m+3) 3 [szD W H P,cD p] st=Y2 (.bl Y0,st):=
 qzz 0 [2] 3 (λq=>_/\_/\q) [.c (.bl Y0,st++[.dic Y0 (bD W H P)]),.g] ⟨qq7 m st (P:=P) [(p.1,"x"),(p.2,"y")] (by simp) (by simp only[Qqa,Qzx,or_false,forall_eq_or_imp,forall_eq]; exact⟨f_x h.1 h.2.1,f_y h.2.2.1 h.2.2.2⟩),gB st (.dic Y0 (bD W H P)),rfl⟩
theorem qj8:∀(ks:List (List Int)),ks.Nodup->∀S,(S++ks).Nodup->ks.foldl addK S=S++ks
 |[],_,S,_=>by simp
 |k::r,h,S,q=>by
  rw[Qxy];have:addK S k=S++[k]:=by
   unfold addK;rw[Z9];rw[Qxd]at q;exact λz=>q.2.2 k z k (Qq6 ..) rfl
  rw[this,qj8 r (Qzv.mp h).2 (S++[k]) (by simpa using q)];simp
theorem qim:∀ps:List (Int×Int),(ps.map cD).mapM keyD=Y2 (ps.map λp=>[p.1,p.2])
 |[]=>rfl
 |p::r=>by
  rw[Qqb,Qkx,qim r]
  rfl
def qnq{ps:List (Int×Int)}(F:ps.Nodup)(J:ps.length<=16):qvw (.tup (ps.map cD))=Y2 (.int (ps.length:Int)):=by
 show((ps.map cD).mapM keyD).bind _=_;rw[qim];have h:(ps.map λp=>[p.1,p.2]).Nodup:=by
  refine List.Pairwise.map _ (λa b q z=>q ?_) F;simp only[List.cons.injEq,and_true]at z;exact Prod.ext z.1 z.2
 show(if (ps.map cD).length<=16 then _ else _)=_;rw[Xq (by simpa using J)];unfold distinct;rw[qj8 _ h [] (by simpa using h)];simp
def s_vein(m)(st){z:List Int}{ps:List (Int×Int)}(hP:(z.length:Int)=P)(a2:z.length<=100)(hs:∀s∈z,0<=s/\s<=4)(h1:1<=ps.length)(h2:ps.length<=16)(hn:ps.Nodup)(hc:∀p∈ps,Cin W H p):callD fns (m+6) 8 [szD W H P,.tup [sO "vein",.tup (z.map .int),.tup (ps.map cD)]] st=Y2 (.bl Y0,st):=by
 have F:=qq7 (m+1) st (W:=W) (H:=H) (P:=P) (z.map λs=>(s,"step")) (by simp; lia) (λp O=>by obtain⟨s,J,rfl⟩:=Qqw.mp O; exact f_step (hs s J).1 (hs s J).2);rw[Qq5,Qq5]at F;have e1:z.map ((λp:Int×String=>sO p.2)∘λs=>(s,"step"))=List.replicate z.length (sO "step"):=by
  rw[List.eq_replicate_iff];refine⟨by simp,λb hb=>?_⟩;obtain⟨s,_,rfl⟩:=Qqw.mp hb
  rfl
 have e2:z.map ((λp:Int×String=>D.int p.1)∘λs=>(s,"step"))=z.map .int:=rfl;rw[e1,e2]at F;have hm:binop st .Mult (.tup [sO "step"]) (.int P)=Y2 (.tup (List.replicate z.length (sO "step")),st):=by
  show(if decide (P < -(2 ^ 62))||decide (2 ^ 62<=P)||decide (lim<1*P.toNat) then Y3 else Y2 (D.tup (List.replicate P.toNat [sO "step"]).flatten,st))=_;have:P.toNat=z.length:=by lia
  rw[Z9 (by simp; unfold lim; lia),this]
  congr 3
  induction z.length with
  |zero=>rfl
  |succ k ih=>rw[Qzr,Qxj,ih]; rfl
 have a0:decide ((1:Int)<=((ps.map cD).length:Nat))=true:=Z7 (by simp; lia);have Z:decide (((ps.map cD).length:Int)<=16)=true:=Z7 (by simp; lia);have L:=qx2 (c:=callD fns (m+3)) (τ:=[Y2 (szD W H P),Y2 (.tup (ps.map cD))]) (st:=st) (i:=1) (elt:=.call 3 [.var 1,.var 0]) (sr:=[Y3,Y2 0]) ps cD (λ_=>.bl Y0) rfl rfl (by unfold lim; lia) rfl λp O=>qzf 0 [3] 3 (λq=>_/\q) [.c (.bl Y0,st)] ⟨qoj m st (P:=P) (hc p O),rfl⟩;have e3:ps.map (λ_=>D.bl Y0)=(ps.map λ_=>Y0).map .bl:=by rw[Qq5]; rfl
 rw[e3]at L;have a1:bfun st .all [.lst ((ps.map λ_=>Y0).map .bl)]=Y2 (.bl Y0,st):=by
  show(asBools _).map _=_;rw[asB];exact congrArg (λb=>Y2 (D.bl b,_)) (by simp)
 have U:qvw (.tup (ps.map cD))=Y2 (.int ((ps.map cD).length:Int)):=by rw[qnq hn h2]; simp
 have Y:(((ps.map cD).length:Int)==((ps.map cD).length:Nat))=true:=by simp
 exact qzz 0 [2,3] 6 (λq=>_/\_/\_/\_/\_/\_/\_/\_/\_/\_/\q) [.k,.c (.tup (List.replicate z.length (sO "step")),st),.c (.bl Y0,st++[.dic Y0 (bD W H P)]),.g,.b Y0,.b Y0,.c (.loc st.length,st++[.lst Y0 ((ps.map λ_=>Y0).map .bl)]),.l ((ps.map λ_=>Y0).map .bl),.c (.bl Y0,st),.i (.int ((ps.map cD).length:Int)),.b Y0] ⟨hm,F,gB st (.dic Y0 (bD W H P)),a0,Z,L,qza (st:=st) (nlB (ps.map λ_=>Y0)),a1,U,Y,rfl⟩
end
noncomputable def scr(ns:List Int):D:=.lst (ns.map .int)
def modE(a)(h:0<b):∃v,(∀S,binop S .Mod (.int a) (.int b)=Y2 (.int v,S))/\0<=v/\v<b:=⟨_,λS=>bMo S a h,Int.emod_nonneg _ (by lia),Int.emod_lt_of_pos _ h⟩
def divE(a)(h:0<b)(q:b<2 ^ 64):∃v,∀S,binop S .FloorDiv (.int a) (.int b)=Y2 (.int v,S):=⟨_,λS=>bDi S a h q⟩
noncomputable def itD:Nat->Int->Int
 |0,a=>a
 |n+1,a=>itD n a / 10000000000
noncomputable abbrev drT(ns:List Int)(k j many cell turn rest:Int)(o:Option D):Sl:=[Y2 (scr ns),Y2 (.int k),Y2 (.int j),Y2 (.int many),Y2 (.int cell),Y2 (.int turn),Y2 (.int rest),o,Y3,Y3]
def qet(m)(st)(J:0<=j)(F:j<100000):∃o,stepEx (RL (callD fns m)) (drT ns k j many cell turn cell Y3) st (.forr (.var 7) (.rng1 (.var 2)) [.set (.var 6) (.bin .FloorDiv (.var 6) (.bin .Pow (.lit (.int 10)) (.lit (.int 10))))])=Y2 (.nx (drT ns k j many cell turn (itD j.toNat cell) o),st):=by
 obtain⟨z,st',e,o,rfl,rfl⟩:=qqt (c:=callD fns m) (τ:=drT ns k j many cell turn cell Y3) (st:=st) (it:=.rng1 (.var 2)) (s:=.rng 0 j.toNat) (ds:=(List.range j.toNat).map λ(i:Nat)=>D.int (0+i)) (t:=.var 7) (body:=[.set (.var 6) (.bin .FloorDiv (.var 6) (.bin .Pow (.lit (.int 10)) (.lit (.int 10))))])
  (λi z st'=>∃o,z=drT ns k j many cell turn (itD i cell) o/\st'=st)
  (by
   have e:(RL (callD fns m)).ev (drT ns k j many cell turn cell Y3) st (.var 2)=Y2 (.int j,st):=qqo _ _ _ _ _ rfl;show((RL (callD fns m)).ev _ _ (.var 2)).bind _=_;rw[e];show(if big j=Y0 then Y3 else Y2 (Src.rng 0 j.toNat,st))=_
   rw[Z9 (by unfold big; simp; lia)])
  (by simp[Src.size]) (λi _ _ _=>qk2 _ _ _) ⟨Y3,rfl,rfl⟩ (λi z st' d hd h=>by
   obtain⟨o,rfl,rfl⟩:=h;rw[Qqv]at hd;obtain⟨x,_,rfl⟩:=Qqf.mp hd;refine⟨drT ns k j many cell turn (itD i cell / 10000000000) (Y2 (.int (0+x))),st',?_,_,rfl,rfl⟩;show(RL (callD fns m)).ex (drT ns k j many cell turn (itD i cell) (Y2 (.int (0+x)))) st' _=_
   exact qzc (k:=m) 0 [] 0 (λq=>_/\q) [.c (.int (itD i cell / 10000000000),st')] ⟨bDi st' (itD i cell) (b:=10000000000) (by decide) (by decide),rfl⟩)
 rw[Qqz,Qx7]at e;exact⟨o,e⟩
noncomputable abbrev drZ(o y t z w x u v:Int)(S:Yo):Tp:=[.b Y0,.b Y0,.b Y0,.c (.int o,S),.b Y0,.c (.int y,S),.c (.int t,S),.c (.int z,S),.b Y0,.c (.int w,S),.b Y0,.b Y0,.c (.int x,S),.c (.int u,S),.c (.int v,S)]
noncomputable abbrev drX(a c t:Int)(τ:Sl)(S:Yo)(r:Tp):Tp:=.b Y0::.c (.int a,S)::.i (.int c)::.c (.int t,S)::.s (.nx τ,S)::r
def dr0(hn:ns.length<=63)(k j)(hj:0<=j)(O:j<100000)(hm:0<many):∃v:Int,(∀m st,callD fns (m+1) 65 [scr ns,.int k,.int j,.int many] st=Y2 (.int v,st))/\0<=v/\v<many:=by
 obtain⟨cell,F,pre⟩:∃cell F:Int,(ns=[]/\cell=0/\F=1)\/(0<((ns.map D.int).length:Int)/\∃a,(∀S,binop S .Mod (.int k) (.int (ns.map D.int).length)=Y2 (.int a,S))/\(∀S,idxD S (scr ns) (.int a)=Y2 (.int cell))/\∀S,binop S .FloorDiv (.int k) (.int (ns.map D.int).length)=Y2 (.int F,S)):=by
  by_cases he:ns=[]
  ·exact⟨0,1,.inl ⟨he,rfl,rfl⟩⟩
  ·have hp:=Qxf.mpr he;have J:(ns.map D.int).length=ns.length:=Qqz _;have L:0<((ns.map D.int).length:Int):=by lia
   obtain⟨a,h,a1,a2⟩:=modE k L;obtain⟨b,h'⟩:=divE k L (by lia);have h5:a.toNat<ns.length:=by lia
   exact⟨ns[a.toNat],b,.inr ⟨L,a,h,λS=>by simp only[scr,idxD,seqAt,oBs,atI,ixN,a1,if_true,a2,Qqv,Qql h5,oMs],h'⟩⟩
 obtain⟨one,h1,o1,o2⟩:=modE (cell*7919+k*104729+j*1299709+31) (b:=1000000007) (by decide);obtain⟨y,h2⟩:=divE cell (b:=1009) (by decide) (by decide);obtain⟨two,h3,_,_⟩:=modE (one*48271+y) (b:=998244353) (by decide);obtain⟨z,h4,z1,z2⟩:=modE one (b:=9973) (by decide);obtain⟨tw,h5,_,_⟩:=modE (two*(z+1)+j) (b:=1000000009) (by decide);obtain⟨w,h6⟩:=divE tw (b:=1013) (by decide) (by decide);obtain⟨u,h7,_,_⟩:=modE (one*69621+tw*40692+w) (b:=2147483647) (by decide);obtain⟨v,h8,Y,U⟩:=modE u hm;obtain⟨x,g1,_,_⟩:=modE (itD j.toNat cell) (b:=10000000000) (by decide);obtain⟨v',g2,v3,v4⟩:=modE x hm;have tl:=λst=>(⟨qqe (by decide) (by decide),qqe (by decide) (by decide),qqe (by decide) (by decide),h1 st,qqe (by decide) (by decide),h2 st,h3 st,h4 st,qqe (by lia) (by lia),h5 st,qqe (by decide) (by decide),qqe (by decide) (by decide),h6 st,h7 st,h8 st,rfl⟩:mulOk cell 7919=Y0/\mulOk k 104729=Y0/\mulOk j 1299709=Y0/\_/\mulOk one 48271=Y0/\_/\_/\_/\mulOk two (z+1)=Y0/\_/\mulOk one 69621=Y0/\mulOk tw 40692=Y0/\_/\_/\_/\(D.int v,st)=(D.int v,st))
 rcases pre with⟨rfl,rfl,rfl⟩|⟨L,a,p1,p2,Z⟩
 ·refine⟨v,λm st=>?_,Y,U⟩;obtain⟨o,J⟩:=qet m st (ns:=[]) (k:=k) (many:=many) (cell:=0) (turn:=1) hj O;exact qzz (k:=m) 0 [] 1 (λq=>_/\_/\_/\_/\_/\_/\_/\_/\_/\_/\_/\_/\_/\_/\_/\_/\_/\_/\q) (.b Y1::.s (.nx (drT [] k j many 0 1 (itD j.toNat 0) o),st)::.b Y1::drZ one y two z tw w u v st) ⟨(rfl:decide ((0:Int)<0)=Y1),J,(rfl:((1:Int)==0)=Y1),tl st⟩
 ·have P1:decide (0<((ns.map D.int).length:Int))=true:=Z7 L;have lp:=λm st=>qet m st (ns:=ns) (k:=k) (many:=many) (cell:=cell) (turn:=F) hj O
  by_cases c1:F=0
  ·by_cases c2:1000000000000000000<=cell
   ·by_cases c3:0<itD j.toNat cell
    ·refine⟨v',λm st=>?_,v3,v4⟩;obtain⟨o,J⟩:=lp m st;exact qzz (k:=m) 0 [] 1 (λq=>_/\_/\_/\_/\_/\_/\_/\_/\_/\_/\q) (drX a cell F (drT ns k j many cell F (itD j.toNat cell) o) st [.b Y0,.b Y0,.b Y0,.c (.int x,st),.c (.int v',st)]) ⟨P1,p1 st,p2 st,Z st,J,beq_iff_eq.mpr c1,Z7 c2,Z7 c3,g1 st,g2 st,rfl⟩
    ·refine⟨v,λm st=>?_,Y,U⟩;obtain⟨o,J⟩:=lp m st;exact qzz (k:=m) 0 [] 1 (λq=>_/\_/\_/\_/\_/\_/\_/\_/\_/\_/\_/\_/\_/\_/\_/\_/\_/\_/\_/\_/\_/\_/\_/\q) (drX a cell F (drT ns k j many cell F (itD j.toNat cell) o) st (.b Y0::.b Y0::.b Y1::drZ one y two z tw w u v st)) ⟨P1,p1 st,p2 st,Z st,J,beq_iff_eq.mpr c1,Z7 c2,Z8 c3,tl st⟩
   ·refine⟨v,λm st=>?_,Y,U⟩;obtain⟨o,J⟩:=lp m st;exact qzz (k:=m) 0 [] 1 (λq=>_/\_/\_/\_/\_/\_/\_/\_/\_/\_/\_/\_/\_/\_/\_/\_/\_/\_/\_/\_/\_/\_/\q) (drX a cell F (drT ns k j many cell F (itD j.toNat cell) o) st (.b Y0::.b Y1::drZ one y two z tw w u v st)) ⟨P1,p1 st,p2 st,Z st,J,beq_iff_eq.mpr c1,Z8 c2,tl st⟩
  ·refine⟨v,λm st=>?_,Y,U⟩;obtain⟨o,J⟩:=lp m st;exact qzz (k:=m) 0 [] 1 (λq=>_/\_/\_/\_/\_/\_/\_/\_/\_/\_/\_/\_/\_/\_/\_/\_/\_/\_/\_/\_/\_/\q) (drX a cell F (drT ns k j many cell F (itD j.toNat cell) o) st (.b Y1::drZ one y two z tw w u v st)) ⟨P1,p1 st,p2 st,Z st,J,beq_eq_false_iff_ne.mpr c1,tl st⟩
section
variable {ns:List Int}(hn:ns.length<=63)
include hn
theorem dr(m)(st)(k j)(F:0<=j)(q:j<100000)(z:0<many):∃v:Int,callD fns (m+1) 65 [scr ns,.int k,.int j,.int many] st=Y2 (.int v,st)/\0<=v/\v<many:=by
 obtain⟨v,h,a⟩:=dr0 hn k j F q z;exact⟨v,h m st,a⟩
theorem qls(m)(st)(k):∃W H P:Int,callD fns (m+2) 66 [scr ns,.int k] st=Y2 (szD W H P,st)/\1<=W/\W<=24/\1<=H/\H<=24/\0<=P/\P<=12:=by
 obtain⟨a,Y,a1,a2⟩:=dr hn m st k 0 (many:=6) (by decide) (by decide) (by decide);obtain⟨b,U,b1,b2⟩:=dr hn m st k 1 (many:=6) (by decide) (by decide) (by decide);obtain⟨c,O,c1,c2⟩:=dr hn m st k 2 (many:=6) (by decide) (by decide) (by decide);obtain⟨e,L,e1,e2⟩:=dr hn m st k 3 (many:=12) (by decide) (by decide) (by decide);have g1:=qza (st:=st) (ds:=[.tup [.int 24,.int (1+(1+b) / 3),.int (c / 2)],.tup [.int (1+(1+a) / 3),.int 24,.int (c / 2)]]) rfl;have g2:=qza (st:=st) (ds:=[.tup [.int (1+(1+a) / 3),.int (1+(1+b) / 3),.int 12],.tup [.int (1+a),.int (1+b),.int c]]) rfl;have Z:=qza (st:=st) (ds:=[.tup [.int 24,.int (1+(1+b) / 3),.int (c / 2)],.tup [.int (1+(1+a) / 3),.int 24,.int (c / 2)],.tup [.int (1+(1+a) / 3),.int (1+(1+b) / 3),.int 12],.tup [.int (1+a),.int (1+b),.int c]]) rfl;have z:∀(i:Int) (r:D),(if decide (e<3) then e else 3)=i->idxD st (.lst [.tup [.int 24,.int (1+(1+b) / 3),.int (c / 2)],.tup [.int (1+(1+a) / 3),.int 24,.int (c / 2)],.tup [.int (1+(1+a) / 3),.int (1+(1+b) / 3),.int 12],.tup [.int (1+a),.int (1+b),.int c]]) (.int i)=Y2 r->callD fns (m+2) 66 [scr ns,.int k] st=Y2 (r,st):=λi r hi F=>by
  rw[<- hi]at F
  by_cases J:e<3
  ·rw[Z7 J]at F;exact qzz 0 [65] 2 (λq=>_/\_/\_/\_/\_/\_/\_/\_/\_/\q) [.c (.int a,st),.c (.int b,st),.c (.int c,st),.l [.tup [.int 24,.int (1+(1+b) / 3),.int (c / 2)],.tup [.int (1+(1+a) / 3),.int 24,.int (c / 2)]],.l [.tup [.int (1+(1+a) / 3),.int (1+(1+b) / 3),.int 12],.tup [.int (1+a),.int (1+b),.int c]],.k,.l [.tup [.int 24,.int (1+(1+b) / 3),.int (c / 2)],.tup [.int (1+(1+a) / 3),.int 24,.int (c / 2)],.tup [.int (1+(1+a) / 3),.int (1+(1+b) / 3),.int 12],.tup [.int (1+a),.int (1+b),.int c]],.c (.int e,st),.b Y0,.i r] ⟨Y,U,O,g1,g2,Z,L,Z7 J,F,rfl⟩
  ·rw[Z8 J]at F;exact qzz 0 [65] 2 (λq=>_/\_/\_/\_/\_/\_/\_/\_/\_/\q) [.c (.int a,st),.c (.int b,st),.c (.int c,st),.l [.tup [.int 24,.int (1+(1+b) / 3),.int (c / 2)],.tup [.int (1+(1+a) / 3),.int 24,.int (c / 2)]],.l [.tup [.int (1+(1+a) / 3),.int (1+(1+b) / 3),.int 12],.tup [.int (1+a),.int (1+b),.int c]],.k,.l [.tup [.int 24,.int (1+(1+b) / 3),.int (c / 2)],.tup [.int (1+(1+a) / 3),.int 24,.int (c / 2)],.tup [.int (1+(1+a) / 3),.int (1+(1+b) / 3),.int 12],.tup [.int (1+a),.int (1+b),.int c]],.c (.int e,st),.b Y1,.i r] ⟨Y,U,O,g1,g2,Z,L,Z8 J,F,rfl⟩
 by_cases h0:e=0
 ·exact⟨24,1+(1+b) / 3,c / 2,z 0 _ (by subst h0; rfl) rfl,by lia,by lia,by lia,by lia,by lia,by lia⟩
 ·by_cases h1:e=1
  ·exact⟨1+(1+a) / 3,24,c / 2,z 1 _ (by subst h1; rfl) rfl,by lia,by lia,by lia,by lia,by lia,by lia⟩
  ·by_cases h2:e=2
   ·exact⟨1+(1+a) / 3,1+(1+b) / 3,12,z 2 _ (by subst h2; rfl) rfl,by lia,by lia,by lia,by lia,by lia,by lia⟩
   ·exact⟨1+a,1+b,c,z 3 _ (by rw[Z8 (by lia)]; rfl) rfl,by lia,by lia,by lia,by lia,by lia,by lia⟩
theorem qlf(m)(st)(k):∃T:Int,callD fns (m+2) 67 [scr ns,.int k] st=Y2 (.int T,st)/\1<=T/\T<=400:=by
 obtain⟨a,L,U,O⟩:=dr hn m st k 5 (many:=400) (by decide) (by decide) (by decide);obtain⟨b,J,b1,b2⟩:=dr hn m st k 4 (many:=4) (by decide) (by decide) (by decide);have g:=qza (st:=st) (ds:=[.int (1+a),.int (1+a % 4),.int (4+a % 50),.int (4+a % 50)]) rfl;have z:∀T:Int,idxD st (.lst [.int (1+a),.int (1+a % 4),.int (4+a % 50),.int (4+a % 50)]) (.int b)=Y2 (.int T)->callD fns (m+2) 67 [scr ns,.int k] st=Y2 (.int T,st):=λT h=>
  qzz 0 [65] 2 (λq=>_/\_/\_/\_/\q) [.c (.int a,st),.l [.int (1+a),.int (1+a % 4),.int (4+a % 50),.int (4+a % 50)],.c (.int b,st),.i (.int T)] ⟨L,g,J,h,rfl⟩
 have F:b=0\/b=1\/b=2\/b=3:=by lia
 rcases F with rfl|rfl|rfl|rfl
 ·exact⟨1+a,z _ rfl,by lia,by lia⟩
 ·exact⟨1+a % 4,z _ rfl,by lia,by lia⟩
 ·exact⟨4+a % 50,z _ rfl,by lia,by lia⟩
 ·exact⟨4+a % 50,z _ rfl,by lia,by lia⟩
theorem qyz(m)(st)(k j)(O:0<=j)(L:j<1000)(F:0<W)(J:0<H):∃g:Int×Int×Int×Int,callD fns (m+2) 68 [scr ns,.int k,.int j,.int W,.int H] st=Y2 (rD g,st)/\0<=g.1/\g.1<=g.2.2.1/\g.2.2.1<W/\0<=g.2.1/\g.2.1<=g.2.2.2/\g.2.2.2<H:=by
 obtain⟨a,ha,a1,a2⟩:=dr hn m st k j O (by lia) F;obtain⟨b,Z,b1,b2⟩:=dr hn m st k (j+1) (by lia) (by lia) F;obtain⟨c,Y,c1,c2⟩:=dr hn m st k (j+2) (by lia) (by lia) J;obtain⟨e,U,e1,e2⟩:=dr hn m st k (j+3) (by lia) (by lia) J;have z:∀x y:Int,bfun st .sorted [.lst [.int x,.int y]]=Y2 (.loc st.length,st++[.lst Y0 [.int (min x y),.int (max x y)]]):=λx y=>by
  show Y2 (alloc st (.lst Y0 ((sortInt [x,y]).map .int)))=_;have:sortInt [x,y]=[min x y,max x y]:=by
   show(if x<=y then [x,y] else [y,x])=_
   by_cases h:x<=y
   ·rw[Xq h,Int.min_eq_left h,Int.max_eq_right h]
   ·rw[Z9 h,Int.min_eq_right (by lia),Int.max_eq_left (by lia)]
  rw[this]
  rfl
 refine⟨(min a b,min c e,max a b,max c e),?_,by simp only; lia,by simp only; lia,by simp only; lia,by simp only; lia,by simp only; lia,by simp only; lia⟩;exact qzz 0 [65] 2 (λq=>_/\_/\_/\_/\_/\_/\_/\_/\_/\_/\q) [.c (.int a,st),.c (.int b,st),.l [.int a,.int b],.c (.loc st.length,st++[.lst Y0 [.int (min a b),.int (max a b)]]),.l [.int (min a b),.int (max a b)],.c (.int c,st),.c (.int e,st),.l [.int c,.int e],.c (.loc st.length,st++[.lst Y0 [.int (min c e),.int (max c e)]]),.l [.int (min c e),.int (max c e)]] ⟨ha,Z,qza (st:=st) (ds:=[.int a,.int b]) rfl,z a b,qza (st:=st) (ds:=[.int (min a b),.int (max a b)]) rfl,Y,U,qza (st:=st) (ds:=[.int c,.int e]) rfl,z c e,qza (st:=st) (ds:=[.int (min c e),.int (max c e)]) rfl,rfl⟩
theorem qvr(m)(st)(k j)(F:0<=j)(z:j<1000):∃o:Int,callD fns (m+2) 71 [scr ns,.int k,.int j] st=Y2 (.int o,st)/\1<=o/\o<=40:=by
 obtain⟨a,L,U,O⟩:=dr hn m st k (j+1) (many:=6) (by lia) (by lia) (by decide);have g:=qza (st:=st) (ds:=[.int 40,.int 4,.int 4,.int 4,.int 4,.int 4]) rfl;have ⟨w,hw,w1,w2⟩:∃w:Int,idxD st (.lst [.int 40,.int 4,.int 4,.int 4,.int 4,.int 4]) (.int a)=Y2 (.int w)/\0<w/\w<=40:=by
  have:a=0\/a=1\/a=2\/a=3\/a=4\/a=5:=by lia
  rcases this with rfl|rfl|rfl|rfl|rfl|rfl
  ·exact⟨40,rfl,by decide,by decide⟩
  all_goals exact⟨4,rfl,by decide,by decide⟩
 obtain⟨b,J,b1,b2⟩:=dr hn m st k j F (by lia) w1;exact⟨1+b,qzz 0 [65] 2 (λq=>_/\_/\_/\_/\q) [.l [.int 40,.int 4,.int 4,.int 4,.int 4,.int 4],.c (.int a,st),.i (.int w),.c (.int b,st)] ⟨g,L,hw,J,rfl⟩,by lia,by lia⟩
theorem qyx(m)(st)(k j)(hj:0<=j)(Z:j<1000){xs:List Int}(Y:∀x∈xs,1<=x/\x<=400):∃n:Int,callD fns (m+2) 72 [scr ns,.int k,.int j,.lst (xs.map .int)] st=Y2 (.int n,st)/\1<=n/\n<=400:=by
 obtain⟨b,L,b1,b2⟩:=dr hn m st k (j+1) (many:=400) (by lia) (by lia) (by decide)
 by_cases J:xs=[]
 ·subst J;exact⟨1+b,qzz 0 [65] 2 (λq=>_/\q) [.k,.c (.int b,st)] ⟨L,rfl⟩,by lia,by lia⟩
 ·have hl:=Qxf.mpr J;have U:(((xs.map D.int).length:Int)==0)=false:=by
   rw[beq_eq_false_iff_ne];simp;exact J
  obtain⟨a,O,a1,a2⟩:=dr hn m st k j (many:=14) (by lia) (by lia) (by decide)
  by_cases h1:a=0
  ·exact⟨1+b,qzz 0 [65] 2 (λq=>_/\_/\_/\_/\q) [.b Y1,.c (.int a,st),.b Y0,.c (.int b,st)] ⟨U,O,(show(a==0)=Y0 by simpa using h1),L,rfl⟩,by lia,by lia⟩
  ·obtain⟨c,hc,c1,c2⟩:=dr hn m st k (j+1) (many:=((xs.map D.int).length:Int)) (by lia) (by lia) (by simp; lia);rw[Qqz]at c2;have hi:c.toNat<xs.length:=by lia
   have z:=Y xs[c.toNat] (Qxp hi);have F:idxD st (.lst (xs.map .int)) (.int c)=Y2 (.int xs[c.toNat]):=by
    show atI (xs.map D.int) c=_;unfold atI ixN;rw[Xq c1,Xq (by simpa using c2)];simp[Qql hi]
   exact⟨xs[c.toNat],qzz 0 [65] 2 (λq=>_/\_/\_/\_/\_/\q) [.b Y1,.c (.int a,st),.b Y1,.c (.int c,st),.i (.int xs[c.toNat])] ⟨U,O,(show(a==0)=Y1 by simpa using h1),hc,F,rfl⟩,z.1,z.2⟩
end
section
variable {ns:List Int}(hn:ns.length<=63)
include hn
omit hn in
noncomputable def stT(d:Int):Int:=[0,1,2,3,4,0,0].getD d.toNat 0
theorem qga(m)(st)(k j)(hj:0<=j)(a0:j<1000)(h0:0<=P)(Y:P<=12):∃F:List Int,callD fns (m+2) 69 [scr ns,.int k,.int j,.int P] st=Y2 (.tup (F.map .int),st)/\(F.length:Int)=P/\∀s∈F,0<=s/\s<=4:=by
 obtain⟨z,U⟩:=Classical.axiomOfChoice (λx:Int=>show ∃v:Int,(0<=x->x<100000->∀m st,callD fns (m+1) 65 [scr ns,.int k,.int x,.int 7] st=Y2 (.int v,st))/\0<=v/\v<7 by
  by_cases h:0<=x/\x<100000
  ·obtain⟨v,a,b⟩:=dr0 hn k x (many:=7) h.1 h.2 (by decide);exact⟨v,λ_ _=>a,b⟩
  ·exact⟨0,λY h2=>absurd ⟨Y,h2⟩ h,by decide⟩)
 have hr:(List.range P.toNat).map (λ(i:Nat)=>D.int (0+i))=(List.range P.toNat).map λ(i:Nat)=>D.int i:=Qzc λi _=>by simp
 have h:=qqg (t:=.var 0) (it:=.rng1 (.var 3)) (elt:=.idx (.gc (.lst [.lit (.int 0),.lit (.int 1),.lit (.int 2),.lit (.int 3),.lit (.int 4),.lit (.int 0),.lit (.int 0)])) (.call 65 [.var 3,.var 2,.bin .Add (.var 1) (.var 0),.lit (.int 7)])) (sr:=[Y3,Y2 2,Y2 1,Y2 0]) (λd=>match d with|.int i=>Y2 (.int (stT (z (j+i))))|_=>Y3) (λτ=>∃a,τ=[a,Y2 (.int j),Y2 (.int k),Y2 (scr ns)])
  (by
   have e:(RL (callD fns (m+1))).ev [Y2 (scr ns),Y2 (.int k),Y2 (.int j),Y2 (.int P)] st (.var 3)=Y2 (.int P,st):=qqo _ _ _ _ _ rfl;show((RL (callD fns (m+1))).ev _ _ (.var 3)).bind _=_;rw[e];show(if big P=Y0 then Y3 else Y2 (Src.rng 0 P.toNat,st))=_
   rw[Z9 (by unfold big; simp; lia)])
  (λi=>by rw[qk2,hr]) (by simp[Src.size]) (by simp; unfold lim; lia) ⟨Y3,rfl⟩ (λτ d hd hp=>by
   obtain⟨a,rfl⟩:=hp;obtain⟨i,hi,rfl⟩:=Qqw.mp hd;have hi:=Qz7.mp hi;refine⟨[Y2 (.int (i:Nat)),Y2 (.int j),Y2 (.int k),Y2 (scr ns)],?_,Y2 (.int (i:Nat)),rfl⟩;obtain⟨hd,L,J⟩:=U (j+(i:Nat));have hd:=hd (by lia) (by lia) m st;have O:idxD st (.lst [.int 0,.int 1,.int 2,.int 3,.int 4,.int 0,.int 0]) (.int (z (j+(i:Nat))))=Y2 (.int (stT (z (j+(i:Nat))))):=by
    generalize z (j+(i:Nat))=v at L J ⊢;have:v=0\/v=1\/v=2\/v=3\/v=4\/v=5\/v=6:=by lia
    rcases this with rfl|rfl|rfl|rfl|rfl|rfl|rfl<;>rfl
   exact qk3 rfl (qzf 0 [65] 1 (λq=>_/\_/\_/\q) [.l [.int 0,.int 1,.int 2,.int 3,.int 4,.int 0,.int 0],.c (.int (z (j+(i:Nat))),st),.i (.int (stT (z (j+(i:Nat)))))] ⟨qza (st:=st) (ds:=[.int 0,.int 1,.int 2,.int 3,.int 4,.int 0,.int 0]) rfl,hd,O,rfl⟩))
 have e:((List.range P.toNat).map λ(i:Nat)=>D.int i).filterMap (λd=>match d with|.int i=>Y2 (D.int (stT (z (j+i))))|_=>Y3)=((List.range P.toNat).map λ(i:Nat)=>stT (z (j+(i:Nat)))).map .int:=by
  rw[Qx0,Qq5];exact Qja▸rfl
 rw[e]at h;refine⟨(List.range P.toNat).map λ(i:Nat)=>stT (z (j+(i:Nat))),qzz 0 [] 2 (λq=>_/\_/\q) [.c (.loc st.length,st++[.lst Y0 (((List.range P.toNat).map λ(i:Nat)=>stT (z (j+(i:Nat)))).map .int)]),.l (((List.range P.toNat).map λ(i:Nat)=>stT (z (j+(i:Nat)))).map .int)] ⟨h,qza (st:=st) (nlI ((List.range P.toNat).map λ(i:Nat)=>stT (z (j+(i:Nat))))),rfl⟩,by simp; lia,λs Z=>?_⟩;obtain⟨i,_,rfl⟩:=Qqw.mp Z;obtain⟨_,L,J⟩:=U (j+(i:Nat));generalize z (j+(i:Nat))=v at L J ⊢;have:v=0\/v=1\/v=2\/v=3\/v=4\/v=5\/v=6:=by lia
 rcases this with rfl|rfl|rfl|rfl|rfl|rfl|rfl<;>decide
omit hn in
theorem flat_c(ps:List (Int×Int)):flats 9 (ps.map cD)=true:=by
 induction ps with
 |nil=>rfl
 |cons p r q=>show(flat 9 (cD p)&&flats 9 (r.map cD))=Y0; rw[q]; rfl
omit hn in
theorem any_c(ps:List (Int×Int))(p):((ps.map cD).any λy=>eqT y (cD p))=decide (p∈ps):=by
 induction ps with
 |nil=>rfl
 |cons a r q=>
  have e:eqT (cD a) (cD p)=decide (p=a):=by
   show((a.1==p.1)&&((a.2==p.2)&&Y0))=_;rw[Qjz,Qxg];simp only[Qqo,beq_iff_eq,decide_eq_true_eq];exact⟨λh=>Prod.ext h.1.symm h.2.symm,λh=>by rw[h]; exact⟨rfl,rfl⟩⟩
  rw[Qqb,Qzd,q,e];simp only[Qqa]
  by_cases h1:p=a<;>by_cases h2:p∈r<;>simp[h1,h2]
theorem qms(m)(st)(k j)(hj:0<=j)(a4:j<1000)(w1:1<=W)(w2:W<=24)(h1:1<=H)(h2:H<=24):∃ps:List (Int×Int),callD fns (m+2) 70 [scr ns,.int k,.int j,szD W H P] st=Y2 (.tup (ps.map cD),st++[.lst Y0 (ps.map cD)])/\1<=ps.length/\ps.length<=16/\ps.Nodup/\∀p∈ps,Cin W H p:=by
 have hc:0<W*H:=Int.mul_pos (by lia) (by lia);have a5:=Int.mul_le_mul w2 h2 (by lia) (by lia);obtain⟨f,hf,f1,f2⟩:=dr hn m st k j hj (by lia) hc;obtain⟨g,hg,g1,g2⟩:=dr hn m st k (j+1) (by lia) (by lia) hc;obtain⟨a,ha,a1,a2⟩:=dr hn m (st++[.lst Y0 []]) k (j+2) (many:=4) (by lia) (by lia) (by decide);have ⟨w,hw,x1,x2⟩:∃w:Int,idxD (st++[.lst Y0 []]) (.lst [.int 16,.int 4,.int 4,.int 4]) (.int a)=Y2 (.int w)/\0<w/\w<=16:=by
  have:a=0\/a=1\/a=2\/a=3:=by lia
  rcases this with rfl|rfl|rfl|rfl
  ·exact⟨16,rfl,by decide,by decide⟩
  all_goals exact⟨4,rfl,by decide,by decide⟩
 obtain⟨b,hb,b1,b2⟩:=dr hn m (st++[.lst Y0 []]) k (j+3) (by lia) (by lia) x1;have a3:(RL (callD fns (m+1))).ev [Y2 (scr ns),Y2 (.int k),Y2 (.int j),Y2 (szD W H P),Y2 (.int (W*H)),Y2 (.int f),Y2 (.int (1+g)),Y2 (.loc st.length),Y3,Y3] (st++[.lst Y0 []]) (.bin .Add (.lit (.int 1)) (.call 65 [.var 0,.var 1,.bin .Add (.var 2) (.lit (.int 3)),.idx (.gc (.lst [.lit (.int 16),.lit (.int 4),.lit (.int 4),.lit (.int 4)])) (.call 65 [.var 0,.var 1,.bin .Add (.var 2) (.lit (.int 2)),.lit (.int 4)])]))=Y2 (.int (1+b),st++[.lst Y0 []]):=
  qzf 0 [65] 1 (λq=>_/\_/\_/\_/\q) [.l [.int 16,.int 4,.int 4,.int 4],.c (.int a,st++[.lst Y0 []]),.i (.int w),.c (.int b,st++[.lst Y0 []])] ⟨qza (st:=st++[.lst Y0 []]) (ds:=[.int 16,.int 4,.int 4,.int 4]) rfl,ha,hw,hb,rfl⟩
 obtain⟨F,st',h3,k',o,o2,ps,rfl,rfl,p1,p2,p3,p4⟩:=qqt (st:=st++[.lst Y0 []]) (it:=.rng1 (.bin .Add (.lit (.int 1)) (.call 65 [.var 0,.var 1,.bin .Add (.var 2) (.lit (.int 3)),.idx (.gc (.lst [.lit (.int 16),.lit (.int 4),.lit (.int 4),.lit (.int 4)])) (.call 65 [.var 0,.var 1,.bin .Add (.var 2) (.lit (.int 2)),.lit (.int 4)])]))) (t:=.var 8)
  (body:=[.set (.var 9) (.bin .Mod (.bin .Add (.var 5) (.bin .Mult (.var 8) (.var 6))) (.var 4)),.ite (.cmp .NotIn (.tup [.bin .Mod (.var 9) (.idx (.var 3) (.lit (.int 0))),.bin .FloorDiv (.var 9) (.idx (.var 3) (.lit (.int 0)))]) (.var 7)) [.expr (.meth (.var 7) .append [.tup [.bin .Mod (.var 9) (.idx (.var 3) (.lit (.int 0))),.bin .FloorDiv (.var 9) (.idx (.var 3) (.lit (.int 0)))]])] []])
  (λi F st'=>i<=(1+b).toNat/\∃o o2 ps,F=[Y2 (scr ns),Y2 (.int k),Y2 (.int j),Y2 (szD W H P),Y2 (.int (W*H)),Y2 (.int f),Y2 (.int (1+g)),Y2 (.loc st.length),o,o2]/\st'=st++[.lst Y0 ((ps:List (Int×Int)).map cD)]/\ps.length<=i/\(0<i->1<=ps.length)/\ps.Nodup/\∀p∈ps,Cin W H p)
  (by
   show((RL (callD fns (m+1))).ev _ _ _).bind _=_;rw[a3];show(if big (1+b)=Y0 then Y3 else Y2 (Src.rng 0 (1+b).toNat,_))=_
   rw[Z9 (by unfold big; simp; lia)])
  (by simp[Src.size]) (λi F st' _=>qk2 _ _ _) ⟨Qzq _,Y3,Y3,[],rfl,rfl,by simp,by simp,List.nodup_nil,by simp⟩ (λi F st' d hd O=>by
   obtain⟨_,o,o2,ps,rfl,rfl,p1,p2,p3,p4⟩:=O;rw[Qqv]at hd;obtain⟨i',U,rfl⟩:=Qqf.mp hd;have a0:i<(1+b).toNat:=by
    have:=(Qqk.mp U).1;simpa using this
   rw[Qxk a0]at U;cases U;generalize L:(f+(0+(i:Int))*(1+g)) % (W*H)=pl;have l1:0<=pl:=by rw[<- L]; exact Int.emod_nonneg _ (by lia)
   have l2:pl<W*H:=by rw[<- L]; exact Int.emod_lt_of_pos _ hc
   have q1:mulOk (0+(i:Int)) (1+g)=true:=qqe (by lia) (by lia);have q2:binop (st++[.lst Y0 (ps.map cD)]) .Mod (.int (f+(0+(i:Int))*(1+g))) (.int (W*H))=Y2 (.int pl,st++[.lst Y0 (ps.map cD)]):=by rw[bMo _ _ hc,L]
   have q3:binop (st++[.lst Y0 (ps.map cD)]) .Mod (.int pl) (.int W)=Y2 (.int (pl % W),st++[.lst Y0 (ps.map cD)]):=bMo _ _ (by lia);have q4:binop (st++[.lst Y0 (ps.map cD)]) .FloorDiv (.int pl) (.int W)=Y2 (.int (pl / W),st++[.lst Y0 (ps.map cD)]):=bDi _ _ (by lia) (by lia);have g0:=gl (st:=st) (c:=.lst Y0 (ps.map cD));have J:cmpD (st++[.lst Y0 (ps.map cD)]) .NotIn (cD (pl % W,pl / W)) (.loc st.length)=Y2 (!decide ((pl % W,pl / W)∈ps)):=by
    have e:inD (st++[.lst Y0 (ps.map cD)]) (cD (pl % W,pl / W)) (.loc st.length)=Y2 (decide ((pl % W,pl / W)∈ps)):=by
     show(seqAt (st++[.lst Y0 (ps.map cD)]) (.loc st.length)).bind _=_;have:seqAt (st++[.lst Y0 (ps.map cD)]) (.loc st.length)=Y2 (ps.map cD):=by show listAt _ _=_; unfold listAt; rw[gl]
     rw[this];show(if flat 9 (cD (pl % W,pl / W))&&flats 9 (ps.map cD) then Y2 ((ps.map cD).any λy=>eqT y (cD (pl % W,pl / W))) else Y3)=_;rw[flat_c,any_c]
     rfl
    show(inD _ _ _).map (!·)=_;rw[e]
    rfl
   by_cases Y:(pl % W,pl / W)∈ps
   ·rw[Z7 Y]at J;refine⟨_,_,qzc 0 [] 1 (λq=>_/\_/\_/\_/\_/\q) [.b Y0,.c (.int pl,st++[.lst Y0 (ps.map cD)]),.c (.int (pl % W),st++[.lst Y0 (ps.map cD)]),.c (.int (pl / W),st++[.lst Y0 (ps.map cD)]),.b Y1] ⟨q1,q2,q3,q4,J,rfl⟩,by lia,Y2 (.int (0+(i:Int))),Y2 (.int pl),ps,rfl,rfl,by lia,λ_=>Qxf.mpr (λz=>by rw[z]at Y; cases Y),p3,p4⟩
   ·rw[Z8 Y]at J;have Z:(ps.map cD).length<lim:=by rw[Qqz]; unfold lim; lia
    refine⟨_,_,qzc 0 [] 1 (λq=>_/\_/\_/\_/\_/\_/\_/\_/\_/\_/\q) [.b Y0,.c (.int pl,st++[.lst Y0 (ps.map cD)]),.c (.int (pl % W),st++[.lst Y0 (ps.map cD)]),.c (.int (pl / W),st++[.lst Y0 (ps.map cD)]),.b Y0,.r (.lst Y0 (ps.map cD)),.c (.int (pl % W),st++[.lst Y0 (ps.map cD)]),.c (.int (pl / W),st++[.lst Y0 (ps.map cD)]),.r (.lst Y0 (ps.map cD)),.b Y0] (r:=(.nx [Y2 (scr ns),Y2 (.int k),Y2 (.int j),Y2 (szD W H P),Y2 (.int (W*H)),Y2 (.int f),Y2 (.int (1+g)),Y2 (.loc st.length),Y2 (.int (0+(i:Int))),Y2 (.int pl)],(st++[Yc.lst Y0 (ps.map cD)]).set st.length (.lst Y0 (ps.map cD++[cD (pl % W,pl / W)])))) ⟨q1,q2,q3,q4,J,g0,q3,q4,g0,Z7 Z,rfl⟩,by lia,Y2 (.int (0+(i:Int))),Y2 (.int pl),ps++[(pl % W,pl / W)],rfl,by rw[sl]; simp,by simp; lia,λ_=>by simp,?_,λp O=>?_⟩
    ·rw[Qxd];exact⟨p3,by simp,λa ha b hb=>by cases Qqy.mp hb; exact λz=>Y (z▸ha)⟩
    ·rcases Qqh.mp O with O|O
     ·exact p4 p O
     ·cases Qqy.mp O;refine⟨Int.emod_nonneg _ (by lia),Int.emod_lt_of_pos _ (by lia),Int.ediv_nonneg l1 (by lia),?_⟩
      exact Int.ediv_lt_of_lt_mul (by lia) (by rw[Int.mul_comm]; exact l2))
 rw[Qqz,Qx7]at p1 p2 k';refine⟨ps,?_,p2 (by lia),by lia,p3,p4⟩;have q5:mulOk W H=true:=qqe (by lia) (by lia);exact qzz 0 [65] 2 (λq=>_/\_/\_/\_/\_/\q) [.b Y0,.c (.int f,st),.c (.int g,st),.s (.nx [Y2 (scr ns),Y2 (.int k),Y2 (.int j),Y2 (szD W H P),Y2 (.int (W*H)),Y2 (.int f),Y2 (.int (1+g)),Y2 (.loc st.length),o,o2],st++[.lst Y0 (ps.map cD)]),.r (.lst Y0 (ps.map cD))] ⟨q5,hf,hg,h3,gl (st:=st) (c:=.lst Y0 (ps.map cD)),rfl⟩
end
inductive DF (W H P:Int):D->Prop
 |vein {ss:List Int}{ps:List (Int×Int)}(hP:(ss.length:Int)=P) (hP2:ss.length<=100) (hs:∀s∈ss,0<=s/\s<=4) (h1:1<=ps.length) (h2:ps.length<=16) (hn:ps.Nodup) (hc:∀p∈ps,Cin W H p):DF W H P (.tup [sO "vein",.tup (ss.map .int),.tup (ps.map cD)])
 |join {a b f:Int}(h1:1<=a) (h2:a<=400) (h3:1<=b) (h4:b<=400) (h5:1<=f) (h6:f<=P):DF W H P (.tup [sO "join",.int a,.int b,.int f])
 |stake {o:Int}{g:Int×Int×Int×Int}(h1:1<=o) (h2:o<=40) (x0:0<=g.1) (x1:g.1<=g.2.2.1) (x2:g.2.2.1<W) (y0:0<=g.2.1) (y1:g.2.1<=g.2.2.2) (y2:g.2.2.2<H):DF W H P (.tup [sO "stake",.int o,.int g.1,.int g.2.1,.int g.2.2.1,.int g.2.2.2])
 |claim {f:D}(h:CF' f) (hs:∀m st,callD fns (m+6) 8 [szD W H P,f] st=Y2 (.bl Y0,st)):DF W H P f
def DF.sound(h:DF W H P f)(m)(st):callD fns (m+6) 8 [szD W H P,f] st=Y2 (.bl Y0,st):=by
 cases h with
 |vein hP z q h1 h2 hn Z=>exact s_vein m st hP z q h1 h2 hn Z
 |join h1 h2 h3 h4 h5 h6=>exact s_join (m+3) st h1 h2 h3 h4 h5 h6
 |stake h1 h2 Y U O L J F=>exact s_stake (m+3) st h1 h2 Y U O L J F
 |claim h q=>exact q m st
noncomputable def wIs(f:D)(ws:List String):Bool:=match f with
 |.tup (.str z::_)=>ws.any λw=>MS.sq z (Str.ofString w)
 |_=>Y1
noncomputable def pD(p:Int×D):D:=.tup [.int p.1,p.2]
def qdn(ps:List (Int×Int)):noLoc (.tup (ps.map cD))=true:=by rw[qwj]; exact qzl λ_ _=>rfl
def gT(st)(ps:List (Int×Int)):noLoc (.tup (ps.map cD))=Y0/\(st++[Yc.lst Y0 (ps.map cD)]).take st.length=st:=⟨qdn ps,tkl⟩
section
variable {ns:List Int}(hn:ns.length<=63){W H P:Int}(w1:1<=W)(w2:W<=24)(h1:1<=H)(h2:H<=24)(p0:0<=P)(p1:P<=12)
include hn w1 w2 h1 h2 p0 p1
theorem qlz(m)(st)(k):∃f,callD fns (m+3) 73 [scr ns,.int k,szD W H P] st=Y2 (f,st)/\DF W H P f:=by
 obtain⟨z,Z,J,F⟩:=qga hn m st k 8 (by decide) (by decide) p0 p1;obtain⟨ps,ho,Y,U,O,L⟩:=qms hn m st k 1 (P:=P) (by decide) (by decide) w1 w2 h1 h2;exact⟨_,qzz 0 [69,70] 3 (λq=>_/\_/\_/\q) [.c (.tup (z.map .int),st),.c (.tup (ps.map cD),st++[.lst Y0 (ps.map cD)]),.g] ⟨Z,ho,gT st ps,rfl⟩,.vein J (by lia) F Y U O L⟩
theorem qh3(m)(st)(k F)(y0:0<=F)(y1:F<8){xs:List Int}(hx:∀x∈xs,1<=x/\x<=400):∃f,callD fns (m+3) 74 [scr ns,.int k,.int F,szD W H P,.lst (xs.map .int)] st=Y2 (f,st)/\DF W H P f:=by
 obtain⟨c,hc,c1,c2⟩:=qyx hn m st k 1 (by decide) (by decide) hx;obtain⟨o,Z,o1,o2⟩:=qvr hn m st k 3 (by decide) (by decide);obtain⟨s,Y,s1,s2⟩:=dr hn (m+1) st k 5 (many:=2) (by decide) (by decide) (by decide);have ⟨l,L,l1,l2,b,O,a1⟩:∃l:Int,(∃mn:Int,callD fns (m+2) 65 [scr ns,.int k,.int 6,.int mn] st=Y2 (.int l,st)/\mn=(if decide ((if s=0 then W else H)<23) then(if s=0 then W else H) else 23))/\0<=l/\l<23/\∃b,decide ((if s=0 then W else H)<23)=b/\True:=by
  by_cases h:(if s=0 then W else H)<23
  ·have hp:0<(if s=0 then W else H):=by split<;>lia
   obtain⟨l,L,l1,l2⟩:=dr hn (m+1) st k 6 (by decide) (by decide) hp;exact⟨l,⟨_,L,by rw[Z7 h]; rfl⟩,l1,by lia,Y0,Z7 h,trivial⟩
  ·obtain⟨l,L,l1,l2⟩:=dr hn (m+1) st k 6 (many:=23) (by decide) (by decide) (by decide);exact⟨l,⟨_,L,by rw[Z8 h]; rfl⟩,l1,by lia,Y1,Z8 h,trivial⟩
 obtain⟨mn,L,z⟩:=L;have dw:DF W H P (.tup [sO "work",.int c]):=.claim (.work c) λm st=>s_work (m+3) st c1 c2;have dg:DF W H P (.tup [sO "give",.int c]):=.claim (.give c) λm st=>s_give (m+3) st c1 c2;have ds:DF W H P (.tup [sO "sell",.int c,.int o]):=.claim (.sell c o ⟨o1,o2⟩) λm st=>s_sell (m+3) st c1 c2 o1 o2;have dp:DF W H P (.tup [sO "part",.int c,.int s,.int (1+l),.int o]):=.claim (.part c s (1+l) o (by lia) ⟨o1,o2⟩) λm st=>s_part (m+3) st c1 c2 s1 (by lia) (by lia) (by lia) o1 o2;have g:=qza (st:=st) (ds:=[.tup [sO "sell",.int c,.int o],.tup [sO "part",.int c,.int s,.int (1+l),.int o],.tup [sO "give",.int c]]) rfl;have U:∀f,(F<3/\f=.tup [sO "work",.int c])\/(¬ F<3/\idxD st (.lst [.tup [sO "sell",.int c,.int o],.tup [sO "part",.int c,.int s,.int (1+l),.int o],.tup [sO "give",.int c]]) (.int (F / 2 - 1))=Y2 f)->callD fns (m+3) 74 [scr ns,.int k,.int F,szD W H P,.lst (xs.map .int)] st=Y2 (f,st):=λf hf=>by
  have a0:s=0\/s=1:=by lia
  rcases a0 with rfl|rfl
  ·rw[Xq rfl]at O z
   cases b with
   |true=>
    rw[O,Xq rfl]at z;subst z;rcases hf with⟨J,rfl⟩|⟨J,hf⟩
    ·exact qzz 0 [65,71,72] 3 (λq=>_/\_/\_/\_/\_/\_/\q) [.c (.int c,st),.c (.int o,st),.c (.int 0,st),.b Y0,.c (.int l,st),.b Y0] ⟨hc,Z,Y,O,L,Z7 J,rfl⟩
    ·exact qzz 0 [65,71,72] 3 (λq=>_/\_/\_/\_/\_/\_/\_/\_/\q) [.c (.int c,st),.c (.int o,st),.c (.int 0,st),.b Y0,.c (.int l,st),.b Y1,.l [.tup [sO "sell",.int c,.int o],.tup [sO "part",.int c,.int 0,.int (1+l),.int o],.tup [sO "give",.int c]],.i f] ⟨hc,Z,Y,O,L,Z8 J,g,hf,rfl⟩
   |false=>
    rw[O,Z9 (by simp)]at z;subst z;rcases hf with⟨J,rfl⟩|⟨J,hf⟩
    ·exact qzz 0 [65,71,72] 3 (λq=>_/\_/\_/\_/\_/\_/\q) [.c (.int c,st),.c (.int o,st),.c (.int 0,st),.b Y1,.c (.int l,st),.b Y0] ⟨hc,Z,Y,O,L,Z7 J,rfl⟩
    ·exact qzz 0 [65,71,72] 3 (λq=>_/\_/\_/\_/\_/\_/\_/\_/\q) [.c (.int c,st),.c (.int o,st),.c (.int 0,st),.b Y1,.c (.int l,st),.b Y1,.l [.tup [sO "sell",.int c,.int o],.tup [sO "part",.int c,.int 0,.int (1+l),.int o],.tup [sO "give",.int c]],.i f] ⟨hc,Z,Y,O,L,Z8 J,g,hf,rfl⟩
  ·rw[Z9 (show ¬ (1:Int)=0 by decide)]at O z
   cases b with
   |true=>
    rw[O,Xq rfl]at z;subst z;rcases hf with⟨J,rfl⟩|⟨J,hf⟩
    ·exact qzz 0 [65,71,72] 3 (λq=>_/\_/\_/\_/\_/\_/\q) [.c (.int c,st),.c (.int o,st),.c (.int 1,st),.b Y0,.c (.int l,st),.b Y0] ⟨hc,Z,Y,O,L,Z7 J,rfl⟩
    ·exact qzz 0 [65,71,72] 3 (λq=>_/\_/\_/\_/\_/\_/\_/\_/\q) [.c (.int c,st),.c (.int o,st),.c (.int 1,st),.b Y0,.c (.int l,st),.b Y1,.l [.tup [sO "sell",.int c,.int o],.tup [sO "part",.int c,.int 1,.int (1+l),.int o],.tup [sO "give",.int c]],.i f] ⟨hc,Z,Y,O,L,Z8 J,g,hf,rfl⟩
   |false=>
    rw[O,Z9 (by simp)]at z;subst z;rcases hf with⟨J,rfl⟩|⟨J,hf⟩
    ·exact qzz 0 [65,71,72] 3 (λq=>_/\_/\_/\_/\_/\_/\q) [.c (.int c,st),.c (.int o,st),.c (.int 1,st),.b Y1,.c (.int l,st),.b Y0] ⟨hc,Z,Y,O,L,Z7 J,rfl⟩
    ·exact qzz 0 [65,71,72] 3 (λq=>_/\_/\_/\_/\_/\_/\_/\_/\q) [.c (.int c,st),.c (.int o,st),.c (.int 1,st),.b Y1,.c (.int l,st),.b Y1,.l [.tup [sO "sell",.int c,.int o],.tup [sO "part",.int c,.int 1,.int (1+l),.int o],.tup [sO "give",.int c]],.i f] ⟨hc,Z,Y,O,L,Z8 J,g,hf,rfl⟩
 by_cases J:F<3
 ·exact⟨_,U _ (.inl ⟨J,rfl⟩),dw⟩
 ·have:F / 2 - 1=0\/F / 2 - 1=1\/F / 2 - 1=2:=by lia
  rcases this with e|e|e
  ·exact⟨_,U _ (.inr ⟨J,by rw[e]; rfl⟩),ds⟩
  ·exact⟨_,U _ (.inr ⟨J,by rw[e]; rfl⟩),dp⟩
  ·exact⟨_,U _ (.inr ⟨J,by rw[e]; rfl⟩),dg⟩
end
noncomputable def dys(pl:List (Int×D))(ws:List String):List Int:=(pl.filter λp=>wIs p.2 ws).map (·.1)
def dys_in(h:x∈dys pl q):∃p∈pl,p.1=x:=by
 obtain⟨p,z,rfl⟩:=Qqw.mp h;exact⟨p,(Qxz.mp z).1,rfl⟩
noncomputable def gW(ws:List String):D->Option D
 |.tup [.int x,f]=>if wIs f ws then Y2 (.int x) else Y3
 |_=>Y3
def qn4(pl)(q):(pl.map pD).filterMap (gW q)=(dys pl q).map .int:=by
 unfold dys
 induction pl with
 |nil=>rfl
 |cons p r z=>
  have e:gW q (pD p)=if wIs p.2 q then Y2 (.int p.1) else none:=rfl
  rw[Qqb,Qz3,e,z]
  cases h:wIs p.2 q with
  |true=>simp[Qjk,h]
  |false=>simp[Qjk,h]
section
variable {ns:List Int}(hn:ns.length<=63){W H P:Int}(w1:1<=W)(w2:W<=24)(h1:1<=H)(h2:H<=24)(p0:0<=P)(p1:P<=12)
theorem ql2:rowAt (st++[.lst Y0 pl]) (.loc st.length)=Y2 pl:=by
 show listAt _ _=_;unfold listAt;rw[gl]
theorem qi4(m)(st)(F)(O:∀p∈pl,DF W H P p.2)(hl:pl.length<1000)(z:τ[3]?=Y2 (Y2 (.loc st.length)))(L:∀p:Int×D,DF W H P p.2->(RL (callD fns m)).tst [Y2 (.int p.1),Y2 p.2] (st++[.lst Y0 (pl.map pD)]) q=Y2 (wIs p.2 F,st++[.lst Y0 (pl.map pD)])):
  stepEv (RL (callD fns m)) τ (st++[.lst Y0 (pl.map pD)]) (.comp (.tup [0,1]) (.var 3) (Y2 q) (.var 0) [Y3,Y3])=Y2 (.loc (st++[Yc.lst Y0 (pl.map pD)]).length,st++[.lst Y0 (pl.map pD)]++[.lst Y0 ((dys pl F).map .int)]):=by
 obtain⟨s,Z,Y,U⟩:=qcp z (ql2 (pl:=pl.map pD))
 have h:=qqg (t:=.tup [0,1]) (elt:=.var 0) (sr:=[Y3,Y3]) (gW F) (λτ=>∃a b,τ=[a,b]) Z Y U (by simp; unfold lim; lia) ⟨Y3,Y3,rfl⟩ (λτ d hd z=>by
  obtain⟨a,b,rfl⟩:=z;obtain⟨p,J,rfl⟩:=Qqw.mp hd
  exact⟨[Y2 (.int p.1),Y2 p.2],turn_if rfl (L p (O p J)) λ_=>qqo _ _ _ _ _ rfl,Y2 (.int p.1),Y2 p.2,rfl⟩)
 rw[qn4]at h;exact h
theorem t_vein(m)(S)(p:Int×D)(h:DF W H P p.2):(RL (callD fns m)).tst [Y2 (.int p.1),Y2 p.2] S (.cmp .Eq (.idx (.var 1) (.lit (.int 0))) (.lit (sO "vein")))=Y2 (wIs p.2 ["vein"],S):=by
 obtain⟨x,f⟩:=p
 cases h with
 |vein=>exact qzi 0 [] 0 (λq=>q) [] rfl
 |join=>exact qzi 0 [] 0 (λq=>q) [] rfl
 |stake=>exact qzi 0 [] 0 (λq=>q) [] rfl
 |claim h _=>cases h<;>exact qzi 0 [] 0 (λq=>q) [] rfl
theorem t_name(m)(S)(p:Int×D)(h:DF W H P p.2):(RL (callD fns m)).tst [Y2 (.int p.1),Y2 p.2] S (.cmp .In (.idx (.var 1) (.lit (.int 0))) (.tup [.lit (sO "stake"),.lit (sO "part")]))=Y2 (wIs p.2 ["stake","part"],S):=by
 obtain⟨x,f⟩:=p
 cases h with
 |vein=>exact qzi 0 [] 0 (λq=>q) [] rfl
 |join=>exact qzi 0 [] 0 (λq=>q) [] rfl
 |stake=>exact qzi 0 [] 0 (λq=>q) [] rfl
 |claim h _=>cases h<;>exact qzi 0 [] 0 (λq=>q) [] rfl
include hn w1 w2 h1 h2 p0 p1
theorem qn0(m)(st)(k){pl:List (Int×D)}(hp:∀p∈pl,DF W H P p.2/\1<=p.1/\p.1<=400)(hl:pl.length<100):∃f,callD fns (m+4) 75 [scr ns,.int k,szD W H P,.loc st.length] (st++[.lst Y0 (pl.map pD)])=Y2 (f,st++[.lst Y0 (pl.map pD)])/\DF W H P f:=by
 obtain⟨y,U,y1,y2⟩:=dr hn (m+2) (st++[.lst Y0 (pl.map pD)]) k 0 (many:=20) (by decide) (by decide) (by decide);have d1:∀ws,∀x∈dys pl ws,1<=x/\x<=400:=λws x hx=>by
  obtain⟨p,L,rfl⟩:=dys_in hx;exact(hp p L).2
 have dl:∀ws,(((dys pl ws).map D.int).length:Int)=((dys pl ws).length:Int):=λws=>by simp
 have c1:=qi4 (m+3) st (τ:=[Y2 (scr ns),Y2 (.int k),Y2 (szD W H P),Y2 (.loc st.length),Y2 (.int y),Y3,Y3,Y3]) ["vein"] (λp L=>(hp p L).1) (by lia) rfl (λp h=>t_vein (m+3) _ p h);have c2:=qi4 (m+3) st (τ:=[Y2 (scr ns),Y2 (.int k),Y2 (szD W H P),Y2 (.loc st.length),Y2 (.int y),Y2 (.lst ((dys pl ["vein"]).map .int)),Y3,Y3]) ["stake","part"] (λp L=>(hp p L).1) (by lia) rfl (λp h=>t_name (m+3) _ p h);generalize hS:st++[.lst Y0 (pl.map pD)]=S at U c1 c2 ⊢;generalize a4:dys pl ["vein"]=vs at c1 c2;generalize a5:dys pl ["stake","part"]=F at c2;have dv:∀x∈vs,1<=x/\x<=400:=by rw[<- a4]; exact d1 _
 have du:∀x∈F,1<=x/\x<=400:=by rw[<- a5]; exact d1 _
 have gv:=qza (st:=S) (nlI vs);have gu:=qza (st:=S) (nlI F);have ez:∀xs:List Int,xs=[]->((((xs.map D.int).length:Nat):Int)==0)=true:=λxs h=>by rw[h]; rfl
 have en:∀xs:List Int,xs≠[]->((((xs.map D.int).length:Nat):Int)==0)=false:=λxs h=>by
  rw[beq_eq_false_iff_ne];simpa using h
 obtain⟨fv,hv,a3⟩:=qlz hn w1 w2 h1 h2 p0 p1 m S k
 by_cases t1:y<3
 ·exact⟨fv,qzz 0 [65,68,71,72,73,74] 4 (λq=>_/\_/\_/\_/\_/\_/\_/\q) [.c (.int y,S),.c (.loc S.length,S++[.lst Y0 (vs.map .int)]),.l (vs.map .int),.c (.loc S.length,S++[.lst Y0 (F.map .int)]),.l (F.map .int),.b Y0,.c (fv,S)] ⟨U,c1,gv,c2,gu,Z7 t1,hv,rfl⟩,a3⟩
 ·by_cases tA:y<8/\vs=[]
  ·exact⟨fv,qzz 0 [65,68,71,72,73,74] 4 (λq=>_/\_/\_/\_/\_/\_/\_/\_/\_/\q) [.c (.int y,S),.c (.loc S.length,S++[.lst Y0 (vs.map .int)]),.l (vs.map .int),.c (.loc S.length,S++[.lst Y0 (F.map .int)]),.l (F.map .int),.b Y1,.b Y0,.b Y0,.c (fv,S)] ⟨U,c1,gv,c2,gu,Z8 t1,Z7 tA.1,ez vs tA.2,hv,rfl⟩,a3⟩
  ·by_cases tB:y<5/\0<P
   ·have Z:=λz=>tA ⟨by lia,z⟩;have O:y<8:=by lia
    obtain⟨fl,hf,f1,f2⟩:=dr hn (m+2) S k 5 (by decide) (by decide) tB.2;obtain⟨a,ha,a1,a2⟩:=qyx hn (m+1) S k 1 (by decide) (by decide) dv;obtain⟨b,hb,b1,b2⟩:=qyx hn (m+1) S k 3 (by decide) (by decide) dv;exact⟨_,qzz 0 [65,68,71,72,73,74] 4 (λq=>_/\_/\_/\_/\_/\_/\_/\_/\_/\_/\_/\_/\_/\q) [.c (.int y,S),.c (.loc S.length,S++[.lst Y0 (vs.map .int)]),.l (vs.map .int),.c (.loc S.length,S++[.lst Y0 (F.map .int)]),.l (F.map .int),.b Y1,.b Y0,.b Y1,.b Y0,.b Y0,.c (.int fl,S),.c (.int a,S),.c (.int b,S)] (r:=(.tup [sO "join",.int a,.int b,.int (1+fl)],S)) ⟨U,c1,gv,c2,gu,Z8 t1,Z7 O,en vs Z,Z7 tB.1,Z7 tB.2,hf,ha,hb,rfl⟩,.join a1 a2 b1 b2 (by lia) (by lia)⟩
   ·obtain⟨o,ho,o1,o2⟩:=qvr hn (m+1) S k 1 (by decide) (by decide);obtain⟨g,hg,x0,x1,x2,z0,z1,z2⟩:=qyz hn (m+1) S k 3 (W:=W) (H:=H) (by decide) (by decide) (by lia) (by lia);have ds:DF W H P (.tup [sO "stake",.int o,.int g.1,.int g.2.1,.int g.2.2.1,.int g.2.2.2]):=.stake o1 o2 x0 x1 x2 z0 z1 z2
    by_cases J:y<12
    ·by_cases O:y<8
     ·have Z:=λz=>tA ⟨O,z⟩
      by_cases Y:y<5
      ·have tp:=λz=>tB ⟨Y,z⟩;exact⟨_,qzz 0 [65,68,71,72,73,74] 4 (λq=>_/\_/\_/\_/\_/\_/\_/\_/\_/\_/\_/\_/\_/\q) [.c (.int y,S),.c (.loc S.length,S++[.lst Y0 (vs.map .int)]),.l (vs.map .int),.c (.loc S.length,S++[.lst Y0 (F.map .int)]),.l (F.map .int),.b Y1,.b Y0,.b Y1,.b Y0,.b Y1,.b Y0,.c (.int o,S),.c (rD g,S)] ⟨U,c1,gv,c2,gu,Z8 t1,Z7 O,en vs Z,Z7 Y,Z8 tp,Z7 J,ho,hg,rfl⟩,ds⟩
      ·exact⟨_,qzz 0 [65,68,71,72,73,74] 4 (λq=>_/\_/\_/\_/\_/\_/\_/\_/\_/\_/\_/\_/\q) [.c (.int y,S),.c (.loc S.length,S++[.lst Y0 (vs.map .int)]),.l (vs.map .int),.c (.loc S.length,S++[.lst Y0 (F.map .int)]),.l (F.map .int),.b Y1,.b Y0,.b Y1,.b Y1,.b Y0,.c (.int o,S),.c (rD g,S)] ⟨U,c1,gv,c2,gu,Z8 t1,Z7 O,en vs Z,Z8 Y,Z7 J,ho,hg,rfl⟩,ds⟩
     ·have Y:¬ y<5:=by lia
      exact⟨_,qzz 0 [65,68,71,72,73,74] 4 (λq=>_/\_/\_/\_/\_/\_/\_/\_/\_/\_/\_/\q) [.c (.int y,S),.c (.loc S.length,S++[.lst Y0 (vs.map .int)]),.l (vs.map .int),.c (.loc S.length,S++[.lst Y0 (F.map .int)]),.l (F.map .int),.b Y1,.b Y1,.b Y1,.b Y0,.c (.int o,S),.c (rD g,S)] ⟨U,c1,gv,c2,gu,Z8 t1,Z8 O,Z8 Y,Z7 J,ho,hg,rfl⟩,ds⟩
    ·have O:¬ y<8:=by lia
     have Y:¬ y<5:=by lia
     by_cases tC:y<17/\F=[]
     ·exact⟨_,qzz 0 [65,68,71,72,73,74] 4 (λq=>_/\_/\_/\_/\_/\_/\_/\_/\_/\_/\_/\_/\_/\q) [.c (.int y,S),.c (.loc S.length,S++[.lst Y0 (vs.map .int)]),.l (vs.map .int),.c (.loc S.length,S++[.lst Y0 (F.map .int)]),.l (F.map .int),.b Y1,.b Y1,.b Y1,.b Y1,.b Y0,.b Y0,.c (.int o,S),.c (rD g,S)] ⟨U,c1,gv,c2,gu,Z8 t1,Z8 O,Z8 Y,Z8 J,Z7 tC.1,ez F tC.2,ho,hg,rfl⟩,ds⟩
     ·obtain⟨f,hf,df⟩:=qh3 hn w1 w2 h1 h2 p0 p1 m S k (y - 12) (by lia) (by lia) du
      by_cases a0:y<17
      ·have a6:=λz=>tC ⟨a0,z⟩;exact⟨f,qzz 0 [65,68,71,72,73,74] 4 (λq=>_/\_/\_/\_/\_/\_/\_/\_/\_/\_/\_/\_/\q) [.c (.int y,S),.c (.loc S.length,S++[.lst Y0 (vs.map .int)]),.l (vs.map .int),.c (.loc S.length,S++[.lst Y0 (F.map .int)]),.l (F.map .int),.b Y1,.b Y1,.b Y1,.b Y1,.b Y0,.b Y1,.c (f,S)] ⟨U,c1,gv,c2,gu,Z8 t1,Z8 O,Z8 Y,Z8 J,Z7 a0,en F a6,hf,rfl⟩,df⟩
      ·exact⟨f,qzz 0 [65,68,71,72,73,74] 4 (λq=>_/\_/\_/\_/\_/\_/\_/\_/\_/\_/\_/\q) [.c (.int y,S),.c (.loc S.length,S++[.lst Y0 (vs.map .int)]),.l (vs.map .int),.c (.loc S.length,S++[.lst Y0 (F.map .int)]),.l (F.map .int),.b Y1,.b Y1,.b Y1,.b Y1,.b Y1,.c (f,S)] ⟨U,c1,gv,c2,gu,Z8 t1,Z8 O,Z8 Y,Z8 J,Z8 a0,hf,rfl⟩,df⟩
theorem qmv(m)(st)(k)(k1:0<=k)(k2:k<1000)(m1:1<=many)(m2:many<=24):∃pl:List (Int×D),callD fns (m+5) 76 [scr ns,.int k,szD W H P,.int many] st=Y2 (.loc st.length,st++[.lst Y0 (pl.map pD)])/\(pl.length:Int)=many/\(∀p∈pl,DF W H P p.2/\1<=p.1/\p.1<=360)/\(pl.map (·.1)).Pairwise (· < ·):=by
 obtain⟨a,ha,a1,a2⟩:=dr hn (m+3) st k 0 (many:=4) (by decide) (by decide) (by decide);have U:∃F:Int,idxD st (.lst [.int 1,.int 3,.int 8,.int 15]) (.int a)=Y2 (.int F)/\1<=F/\F<=15:=by
  have:a=0\/a=1\/a=2\/a=3:=by lia
  rcases this with rfl|rfl|rfl|rfl
  ·exact⟨1,rfl,by decide,by decide⟩
  ·exact⟨3,rfl,by decide,by decide⟩
  ·exact⟨8,rfl,by decide,by decide⟩
  ·exact⟨15,rfl,by decide,by decide⟩
 obtain⟨F,a0,q1,q2⟩:=U;have g:=qza (st:=st) (ds:=[.int 1,.int 3,.int 8,.int 15]) rfl;obtain⟨J,st',h3,k',d,o,pl,rfl,rfl,r1,r2,O,Z⟩:=qqt (st:=st++[.lst Y0 []]) (it:=.rng2 (.bin .Add (.var 1) (.lit (.int 1))) (.bin .Add (.bin .Add (.var 1) (.lit (.int 1))) (.var 3))) (t:=.var 7)
  (body:=[.set (.var 6) (.bin .Add (.bin .Add (.var 6) (.lit (.int 1))) (.call 65 [.var 0,.var 7,.lit (.int 25),.var 4])),.expr (.meth (.var 5) .append [.tup [.var 6,.call 75 [.var 0,.var 7,.var 2,.var 5]]])])
  (λi J st'=>i<=many.toNat/\∃(d:Int) (o:Option D) (pl:List (Int×D)),J=[Y2 (scr ns),Y2 (.int k),Y2 (szD W H P),Y2 (.int many),Y2 (.int F),Y2 (.loc st.length),Y2 (.int d),o]/\st'=st++[.lst Y0 (pl.map pD)]/\pl.length=i/\(0<=d/\d<=15*i)/\(∀p∈pl,DF W H P p.2/\1<=p.1/\p.1<=d)/\(pl.map (·.1)).Pairwise (· < ·))
  (by
   have e1:(RL (callD fns (m+4))).ev [Y2 (scr ns),Y2 (.int k),Y2 (szD W H P),Y2 (.int many),Y2 (.int F),Y2 (.loc st.length),Y2 (.int 0),Y3] (st++[.lst Y0 []]) (.bin .Add (.var 1) (.lit (.int 1)))=Y2 (.int (k+1),st++[.lst Y0 []]):=qzf 0 [] 4 (λq=>q) [] rfl;have e2:(RL (callD fns (m+4))).ev [Y2 (scr ns),Y2 (.int k),Y2 (szD W H P),Y2 (.int many),Y2 (.int F),Y2 (.loc st.length),Y2 (.int 0),Y3] (st++[.lst Y0 []]) (.bin .Add (.bin .Add (.var 1) (.lit (.int 1))) (.var 3))=Y2 (.int (k+1+many),st++[.lst Y0 []]):=qzf 0 [] 4 (λq=>q) [] rfl;show((RL (callD fns (m+4))).ev _ _ _).bind _=_;rw[e1];show((RL (callD fns (m+4))).ev _ _ _).bind _=_;rw[e2];show(if (big (k+1)||big (k+1+many))=Y0 then Y3 else Y2 (Src.rng (k+1) (k+1+many - (k+1)).toNat,_))=_
   rw[Z9 (by unfold big; simp; lia),show k+1+many - (k+1)=many by lia])
  (by simp[Src.size]) (λi J st' _=>qk2 _ _ _) ⟨Qzq _,0,Y3,[],rfl,rfl,rfl,⟨by lia,by lia⟩,by simp,.nil⟩ (λi J st' x hx z=>by
   obtain⟨_,d,o,pl,rfl,rfl,r1,r2,O,Z⟩:=z;rw[Qqv]at hx;obtain⟨i',L,rfl⟩:=Qqf.mp hx;have a3:i<many.toNat:=by
    have:=(Qqk.mp L).1;simpa using this
   rw[Qxk a3]at L;cases L;obtain⟨v,hv,v1,v2⟩:=dr hn (m+3) (st++[.lst Y0 (pl.map pD)]) (k+1+(i:Nat)) 25 (many:=F) (by decide) (by decide) (by lia);obtain⟨f,hf,df⟩:=qn0 hn w1 w2 h1 h2 p0 p1 m st (k+1+(i:Nat)) (λp z=>by have:=O p z; exact⟨this.1,this.2.1,by lia⟩) (by lia);have g0:=gl (st:=st) (c:=.lst Y0 (pl.map pD));have Y:(pl.map pD).length<lim:=by rw[Qqz]; unfold lim; lia
   refine⟨_,_,qzc 0 [65,75] 4 (λq=>_/\_/\_/\_/\_/\q) [.c (.int v,st++[.lst Y0 (pl.map pD)]),.r (.lst Y0 (pl.map pD)),.c (f,st++[.lst Y0 (pl.map pD)]),.r (.lst Y0 (pl.map pD)),.b Y0] (r:=(.nx [Y2 (scr ns),Y2 (.int k),Y2 (szD W H P),Y2 (.int many),Y2 (.int F),Y2 (.loc st.length),Y2 (.int (d+1+v)),Y2 (.int (k+1+(i:Nat)))],(st++[Yc.lst Y0 (pl.map pD)]).set st.length (.lst Y0 (pl.map pD++[pD (d+1+v,f)])))) ⟨hv,g0,hf,g0,Z7 Y,rfl⟩,by lia,d+1+v,Y2 (.int (k+1+(i:Nat))),pl++[(d+1+v,f)],rfl,by rw[sl]; simp,by simp[r1],⟨by lia,by lia⟩,λp z=>?_,?_⟩
   ·rcases Qqh.mp z with z|z
    ·have:=O p z;exact⟨this.1,this.2.1,by lia⟩
    ·cases Qqy.mp z;exact⟨df,by simp only; lia,Int.le_refl _⟩
   ·rw[Qqn,Qjf];refine⟨Z,by simp,λa ha b hb=>?_⟩;obtain⟨p,z,rfl⟩:=Qqw.mp ha;simp only[Qqb,Qxx,Qqy]at hb;have:=O p z
    lia)
 rw[Qqz,Qx7]at r1 r2;refine⟨pl,qzz 0 [65] 5 (λq=>_/\_/\_/\_/\q) [.l [.int 1,.int 3,.int 8,.int 15],.c (.int a,st),.i (.int F),.s (.nx [Y2 (scr ns),Y2 (.int k),Y2 (szD W H P),Y2 (.int many),Y2 (.int F),Y2 (.loc st.length),Y2 (.int d),o],st++[.lst Y0 (pl.map pD)])] ⟨g,ha,a0,h3,rfl⟩,by lia,λp z=>?_,Z⟩;have:=O p z;exact⟨this.1,this.2.1,by lia⟩
end
abbrev En:=Int×Int×Int×Int
noncomputable def eD(e:En):D:=.tup [.int e.1,.int e.2.1,.int e.2.2.1,.int e.2.2.2]
abbrev Mp:=List (List Int×Int)
noncomputable def mD(m:Mp):List (List Int×D):=m.map λp=>(p.1,.int p.2)
noncomputable def pg(m:Mp)(k:List Int):Option Int:=(m.find? λp=>decide (p.1=k)).map (·.2)
noncomputable def pp(m:Mp)(k:List Int)(v:Int):Mp:=if m.any (λp=>decide (p.1=k)) then m.map λp=>if p.1=k then(p.1,v) else p else m++[(k,v)]
noncomputable def pv(m:Mp)(k:List Int):Int:=(pg m k).getD 0
noncomputable def qzs(m:Mp)(e:En):Mp:=
 pp (pp m [e.2.1,e.2.2.1] (pv m [e.2.1,e.2.2.1]+e.2.2.2)) [e.2.2.1,e.2.1] (pv (pp m [e.2.1,e.2.2.1] (pv m [e.2.1,e.2.2.1]+e.2.2.2)) [e.2.2.1,e.2.1] - e.2.2.2)
def qq4(m)(k):tget (mD m) k=(pg m k).map .int:=by
 unfold tget pg mD;rw[List.find?_map,Qkj,Qkj]
 rfl
def qz5(m)(k)(v):tput (mD m) k (.int v)=mD (pp m k v):=by
 have e:((mD m).any λp=>decide (p.1=k))=m.any λp=>decide (p.1=k):=by unfold mD; rw[List.any_map]; rfl
 unfold tput pp;rw[e]
 split
 ·unfold mD;rw[Qq5,Qq5];refine Qzc λp _=>?_;show(if p.1=k then(p.1,D.int v) else(p.1,D.int p.2))=_;show _=((if p.1=k then(p.1,v) else p).1,D.int (if p.1=k then(p.1,v) else p).2)
  split<;>rfl
 ·unfold mD; rw[Qqn]; rfl
def pg_pp(m)(k k')(v):pg (pp m k v) k'=if k'=k then Y2 v else pg m k':=by
 unfold pp pg
 induction m with
 |nil=>
  by_cases h:k'=k
  ·subst h; simp
  ·simp[h,Ne.symm h]
 |cons p r L=>
  rw[Qzd]
  by_cases F:p.1=k
  ·rw[Z7 F,Bool.true_or,Xq rfl,Qqb,Xq F,Qqu,Qqu]
   by_cases h:k'=k
   ·subst h; rw[Z7 F,Xq rfl]; rfl
   ·rw[Z8 (λz=>h (z.symm.trans F)),Z9 h];have:∀l:Mp,((l.map λp=>if p.1=k then(p.1,v) else p).find? λp=>decide (p.1=k')).map (·.2)=(l.find? λp=>decide (p.1=k')).map (·.2):=λl=>by
     induction l with
     |nil=>rfl
     |cons q s J=>
      rw[Qqb,Qqu,Qqu]
      by_cases O:q.1=k
      ·rw[Xq O];rw[Z8 (λz=>h (z.symm.trans O))];exact J
      ·rw[Z9 O]
       split
       ·rfl
       ·exact J
    exact this r
  ·rw[Z8 F,Qkk]
   by_cases U:(r.any λp=>decide (p.1=k))=Y0
   ·rw[Xq U]at L ⊢;rw[Qqb,Z9 F,Qqu,Qqu]
    by_cases h:p.1=k'
    ·have:k'≠k:=λz=>F (h.trans z);rw[Z7 h,Z9 this]
    ·rw[Z8 h]; exact L
   ·rw[Z9 U]at L ⊢;rw[List.cons_append,Qqu,Qqu]
    by_cases h:p.1=k'
    ·have:k'≠k:=λz=>F (h.trans z);rw[Z7 h,Z9 this]
    ·rw[Z8 h]; exact L
def ql8(m)(k k')(v):pv (pp m k v) k'=if k'=k then v else pv m k':=by
 unfold pv;rw[pg_pp]
 split<;>rfl
noncomputable def net(es:List En)(a b:Int):Int:=(es.map λe=>(if e.2.1=a/\e.2.2.1=b then e.2.2.2 else 0) - (if e.2.2.1=a/\e.2.1=b then e.2.2.2 else 0)).sum
def qhk(es)(a b):net es a b=- net es b a:=by
 unfold net
 induction es with
 |nil=>rfl
 |cons e r q=>
  rw[Qqb,Qqb,Qzo,Qzo,q];have h1:(e.2.1=a/\e.2.2.1=b)↔(e.2.2.1=b/\e.2.1=a):=And.comm;have h2:(e.2.2.1=a/\e.2.1=b)↔(e.2.1=b/\e.2.2.1=a):=And.comm;simp only[h1,h2]
  lia
def ql7(m)(e)(a b):pv (qzs m e) [a,b]=pv m [a,b]+((if e.2.1=a/\e.2.2.1=b then e.2.2.2 else 0) - (if e.2.2.1=a/\e.2.1=b then e.2.2.2 else 0)):=by
 unfold qzs;rw[ql8];have F:([a,b]=[e.2.2.1,e.2.1])↔(e.2.2.1=a/\e.2.1=b):=⟨λh=>by cases h; exact⟨rfl,rfl⟩,λh=>by rw[h.1,h.2]⟩
 have q:([a,b]=[e.2.1,e.2.2.1])↔(e.2.1=a/\e.2.2.1=b):=⟨λh=>by cases h; exact⟨rfl,rfl⟩,λh=>by rw[h.1,h.2]⟩
 by_cases h1:e.2.2.1=a/\e.2.1=b
 ·rw[Xq (F.mpr h1),Xq h1,<- F.mpr h1,ql8]
  by_cases h2:e.2.1=a/\e.2.2.1=b
  ·rw[Xq (q.mpr h2),Xq h2,<- q.mpr h2]; lia
  ·rw[Z9 λz=>h2 (q.mp z),Z9 h2]; lia
 ·rw[Z9 λz=>h1 (F.mp z),Z9 h1,ql8]
  by_cases h2:e.2.1=a/\e.2.2.1=b
  ·rw[Xq (q.mpr h2),Xq h2,<- q.mpr h2]; lia
  ·rw[Z9 λz=>h2 (q.mp z),Z9 h2]; lia
def qc7(es)(a b):∀m:Mp,pv (es.foldl qzs m) [a,b]=pv m [a,b]+net es a b:=by
 induction es with
 |nil=>intro m; simp[net]
 |cons e r q=>
  intro m;rw[Qxy,q,ql7];unfold net;rw[Qqb,Qzo]
  lia
noncomputable def isW(w:Int)(k:List Int):Bool:=decide (k[1]?=Y2 w)
noncomputable def bal(m:Mp)(w:Int):Int:=((m.filter λp=>isW w p.1).map (·.2)).sum
def qxp(p)(r)(w):bal (p::r) w=(if isW w p.1 then p.2 else 0)+bal r w:=by
 unfold bal;rw[Qjk]
 split
 ·rw[Qqb,Qzo]
 ·rw[Int.zero_add]
def qd9(m)(k)(v):(pp m k v).map (·.1)=if m.any (λp=>decide (p.1=k)) then m.map (·.1) else m.map (·.1)++[k]:=by
 unfold pp
 split
 ·rw[Qq5];refine Qzc λp _=>?_;show(if p.1=k then(p.1,v) else p).1=p.1
  split<;>rfl
 ·rw[Qqn]; rfl
def qm6(h:(m.map (·.1)).Nodup)(k)(v):((pp m k v).map (·.1)).Nodup:=by
 rw[qd9]
 split
 ·exact h
 ·rename_i L;rw[Qxd];refine⟨h,by simp,λa F b q z=>L ?_⟩;obtain⟨p,J,rfl⟩:=Qqw.mp F;rw[Qqy]at q;exact Qxo.mpr ⟨p,J,Z7 (z.trans q)⟩
def qi6(h:(m.map (·.1)).Nodup)(k)(v w):bal (pp m k v) w=bal m w+if isW w k then v - pv m k else 0:=by
 induction m with
 |nil=>
  show bal [(k,v)] w=bal [] w+if isW w k then v - 0 else 0
  rw[qxp]
  split<;>lia
 |cons p r J=>
  rw[Qqb,Qzv]at h;have J:=J h.2
  by_cases F:p.1=k
  ·have O:pp (p::r) k v=(k,v)::r:=by
    unfold pp;rw[Qzd,Z7 F,Bool.true_or,Xq rfl,Qqb,Xq F,F]
    congr 1
    refine(Qzc λq U=>?_).trans (Qx9 r);exact Z9 λz=>h.1 (Qqw.mpr ⟨q,U,z.trans F.symm⟩)
   have L:pv (p::r) k=p.2:=by unfold pv pg; rw[Qqu,Z7 F]; rfl
   rw[O,L,qxp,qxp,F]
   split<;>lia
  ·have O:pp (p::r) k v=p::pp r k v:=by
    unfold pp;rw[Qzd,Z8 F,Qkk]
    split
    ·rw[Qqb,Z9 F]
    ·rfl
   have L:pv (p::r) k=pv r k:=by unfold pv pg; rw[Qqu,Z8 F]
   rw[O,L,qxp,qxp,J]
   lia
def isW2(w a b):isW w [a,b]=decide (b=w):=by
 unfold isW;rw[Qxg,decide_eq_true_eq,decide_eq_true_eq];show Y2 b=Y2 w↔_;exact⟨Option.some.inj,λz=>by rw[z]⟩
noncomputable def dues(es:List En)(w:Int):Int:=(es.map λe=>(if e.2.2.1=w then e.2.2.2 else 0) - (if e.2.1=w then e.2.2.2 else 0)).sum
def qdp(h:(m.map (·.1)).Nodup)(e):((qzs m e).map (·.1)).Nodup:=qm6 (qm6 h _ _) _ _
def qh4(h:(m.map (·.1)).Nodup)(e)(w):bal (qzs m e) w=bal m w+((if e.2.2.1=w then e.2.2.2 else 0) - (if e.2.1=w then e.2.2.2 else 0)):=by
 unfold qzs;rw[qi6 (qm6 h _ _),qi6 h,isW2,isW2];simp only[decide_eq_true_eq]
 split<;>split<;>lia
def qh5(es)(w):∀m:Mp,(m.map (·.1)).Nodup->bal (es.foldl qzs m) w=bal m w+dues es w:=by
 induction es with
 |nil=>intro m _; simp[dues]
 |cons e r q=>
  intro m h;rw[Qxy,q _ (qdp h e),qh4 h];unfold dues;rw[Qqb,Qzo]
  lia
noncomputable def sumTo(f:Int->Int):Nat->Int
 |0=>0
 |n+1=>sumTo f n+f (n+1)
theorem qjd(f g:Int->Int):∀n,sumTo (λi=>f i+g i) n=sumTo f n+sumTo g n
 |0=>rfl
 |n+1=>by
  show sumTo (λi=>f i+g i) n+(f (n+1)+g (n+1))=sumTo f n+f (n+1)+(sumTo g n+g (n+1));rw[qjd f g n]
  lia
theorem qjc(f g:Int->Int):∀n,sumTo (λi=>f i - g i) n=sumTo f n - sumTo g n
 |0=>rfl
 |n+1=>by
  show sumTo (λi=>f i - g i) n+(f (n+1) - g (n+1))=sumTo f n+f (n+1) - (sumTo g n+g (n+1));rw[qjc f g n]
  lia
def qin[Decidable p][Decidable q](t:Int):(if p/\q then t else 0)=if q then(if p then t else 0) else 0:=by by_cases p<;>by_cases q<;>simp[*]
theorem qxr:∀n,sumTo (λ_=>0) n=0
 |0=>rfl
 |n+1=>by show sumTo _ n+0=0; rw[qxr n]; rfl
theorem qxa(a t)(q:1<=a):∀n:Nat,sumTo (λi=>if a=i then t else 0) n=if a<=n then t else 0
 |0=>by show(0:Int)=_; rw[Z9 (by lia)]
 |n+1=>by
  show sumTo _ n+(if a=(n:Int)+1 then t else 0)=_;rw[qxa a t q n]
  by_cases h:a=(n:Int)+1
  ·rw[Z9 (by lia),Xq h,Xq (by lia)]; lia
  ·rw[Z9 h]
   by_cases h2:a<=(n:Int)
   ·rw[Xq h2,Xq (by lia)]; lia
   ·rw[Z9 h2,Z9 (by lia)]; lia
def EnOk(e:En):Prop:=1<=e.2.1/\e.2.1<=40/\1<=e.2.2.1/\e.2.2.1<=40/\-(10 ^ 7)<=e.2.2.2/\e.2.2.2<=10 ^ 7
def qho(h:∀e∈es,EnOk e):sumTo (dues es) 40=0:=by
 induction es with
 |nil=>exact qxr 40
 |cons e r z=>
  have O:dues (e::r)=λw=>((if e.2.2.1=w then e.2.2.2 else 0) - (if e.2.1=w then e.2.2.2 else 0))+dues r w:=by
   funext w
   exact Qzo
  have q:=h e (.head _);have J:e.2.2.1<=((40:Nat):Int):=q.2.2.2.1;have F:e.2.1<=((40:Nat):Int):=q.2.1;rw[O,qjd,qjc,qxa _ _ q.2.2.1,qxa _ _ q.1,z λx L=>h x (.tail _ L),Xq J,Xq F,Int.sub_self]
  rfl
def qm5(h:∀e∈es,EnOk e)(a):sumTo (net es a) 40=- dues es a:=by
 induction es with
 |nil=>exact qxr 40
 |cons e r z=>
  have O:net (e::r) a=λb=>((if e.2.2.1=b then(if e.2.1=a then e.2.2.2 else 0) else 0) - (if e.2.1=b then(if e.2.2.1=a then e.2.2.2 else 0) else 0))+net r a b:=by
   funext b
   unfold net;rw[Qqb,Qzo,qin,qin]
  have q:=h e (.head _);have J:e.2.2.1<=((40:Nat):Int):=q.2.2.2.1;have F:e.2.1<=((40:Nat):Int):=q.2.1;rw[O,qjd,qjc,qxa _ _ q.2.2.1,qxa _ _ q.1,z λx L=>h x (.tail _ L),Xq J,Xq F];unfold dues;rw[Qqb,Qzo];generalize (if e.2.1=a then e.2.2.2 else 0)=x,(if e.2.2.1=a then e.2.2.2 else 0)=y
  lia
def qki(m)(k)(v):(pp m k v).length<=m.length+1:=by
 unfold pp
 split
 ·rw[Qqz]; lia
 ·rw[Qqi]; exact Qqj _
noncomputable abbrev suB:List M.S:=[.tds (.var 1) (.ttup [.var 3,.var 4]) (.bin .Add (.tdg (.var 1) (.ttup [.var 3,.var 4]) (.lit (.int 0))) (.var 5)),.tds (.var 1) (.ttup [.var 4,.var 3]) (.bin .Sub (.tdg (.var 1) (.ttup [.var 4,.var 3]) (.lit (.int 0))) (.var 5))]
def qln(m)(S)(z)(hl:z.length<1000)(d a b t):(RL (callD fns m)).ex [Y2 (.loc 0),Y2 (.loc S.length),Y2 (.int d),Y2 (.int a),Y2 (.int b),Y2 (.int t)] (S++[.tdc Y0 (mD z)]) suB=Y2 (.nx [Y2 (.loc 0),Y2 (.loc S.length),Y2 (.int d),Y2 (.int a),Y2 (.int b),Y2 (.int t)],S++[.tdc Y0 (mD (qzs z (d,a,b,t)))]):=by
 cases h1:pg z [a,b] with
 |none=>
  cases h2:pg (pp z [a,b] (pv z [a,b]+t)) [b,a] with
  |none=>
   have p1:pv z [a,b]=0:=by unfold pv; rw[h1]; rfl
   have p2:pv (pp z [a,b] (pv z [a,b]+t)) [b,a]=0:=by unfold pv at h2 ⊢; rw[h2]; rfl
   rw[p1]at h2 p2;have Y:tget (mD z) [a,b]=none:=by rw[qq4,h1]; rfl
   have U:tget (tput (mD z) [a,b] (.int (0+t))) [b,a]=none:=by rw[qz5,qq4,h2]; rfl
   have Z:((S++[Yc.tdc Y0 (mD z)]).set S.length (.tdc Y0 (tput (mD z) [a,b] (.int (0+t))))).set S.length (.tdc Y0 (tput (tput (mD z) [a,b] (.int (0+t))) [b,a] (.int (0 - t))))=S++[.tdc Y0 (mD (qzs z (d,a,b,t)))]:=by
    rw[sl,sl,qz5,qz5];show _=S++[.tdc Y0 (mD (pp (pp z [a,b] (pv z [a,b]+t)) [b,a] (pv (pp z [a,b] (pv z [a,b]+t)) [b,a] - t)))];rw[p1,p2]
   have J:=gl (st:=S) (c:=.tdc Y0 (mD z));have F:((S++[Yc.tdc Y0 (mD z)]).set S.length (.tdc Y0 (tput (mD z) [a,b] (.int (0+t)))))[S.length]?=Y2 (.tdc Y0 (tput (mD z) [a,b] (.int (0+t)))):=by rw[sl]; exact gl
   have O:decide ((mD z).length<lim)=true:=Z7 (by unfold mD lim; rw[Qqz]; lia);have L:decide ((tput (mD z) [a,b] (.int (0+t))).length<lim)=true:=Z7 (by rw[qz5]; unfold mD lim; rw[Qqz]; have:=qki z [a,b] (0+t); lia);rw[<- Z];exact qzc 0 [] 0 (λq=>_/\_/\_/\_/\_/\_/\_/\_/\_/\_/\q) [.r (.tdc Y0 (mD z)),.r (.tdc Y0 (mD z)),.q Y3,.r (.tdc Y0 (mD z)),.b Y0,.r (.tdc Y0 (tput (mD z) [a,b] (.int (0+t)))),.r (.tdc Y0 (tput (mD z) [a,b] (.int (0+t)))),.q Y3,.r (.tdc Y0 (tput (mD z) [a,b] (.int (0+t)))),.b Y0] ⟨J,J,Y,J,O,F,F,U,F,L,rfl⟩
  |some y=>
   have p1:pv z [a,b]=0:=by unfold pv; rw[h1]; rfl
   have p2:pv (pp z [a,b] (pv z [a,b]+t)) [b,a]=y:=by unfold pv at h2 ⊢; rw[h2]; rfl
   rw[p1]at h2 p2;have Y:tget (mD z) [a,b]=none:=by rw[qq4,h1]; rfl
   have U:tget (tput (mD z) [a,b] (.int (0+t))) [b,a]=Y2 (.int y):=by rw[qz5,qq4,h2]; rfl
   have Z:((S++[Yc.tdc Y0 (mD z)]).set S.length (.tdc Y0 (tput (mD z) [a,b] (.int (0+t))))).set S.length (.tdc Y0 (tput (tput (mD z) [a,b] (.int (0+t))) [b,a] (.int (y - t))))=S++[.tdc Y0 (mD (qzs z (d,a,b,t)))]:=by
    rw[sl,sl,qz5,qz5];show _=S++[.tdc Y0 (mD (pp (pp z [a,b] (pv z [a,b]+t)) [b,a] (pv (pp z [a,b] (pv z [a,b]+t)) [b,a] - t)))];rw[p1,p2]
   have J:=gl (st:=S) (c:=.tdc Y0 (mD z));have F:((S++[Yc.tdc Y0 (mD z)]).set S.length (.tdc Y0 (tput (mD z) [a,b] (.int (0+t)))))[S.length]?=Y2 (.tdc Y0 (tput (mD z) [a,b] (.int (0+t)))):=by rw[sl]; exact gl
   have O:decide ((mD z).length<lim)=true:=Z7 (by unfold mD lim; rw[Qqz]; lia);have L:decide ((tput (mD z) [a,b] (.int (0+t))).length<lim)=true:=Z7 (by rw[qz5]; unfold mD lim; rw[Qqz]; have:=qki z [a,b] (0+t); lia);rw[<- Z];exact qzc 0 [] 0 (λq=>_/\_/\_/\_/\_/\_/\_/\_/\_/\_/\q) [.r (.tdc Y0 (mD z)),.r (.tdc Y0 (mD z)),.q Y3,.r (.tdc Y0 (mD z)),.b Y0,.r (.tdc Y0 (tput (mD z) [a,b] (.int (0+t)))),.r (.tdc Y0 (tput (mD z) [a,b] (.int (0+t)))),.q (Y2 (.int y)),.r (.tdc Y0 (tput (mD z) [a,b] (.int (0+t)))),.b Y0] ⟨J,J,Y,J,O,F,F,U,F,L,rfl⟩
 |some x=>
  cases h2:pg (pp z [a,b] (pv z [a,b]+t)) [b,a] with
  |none=>
   have p1:pv z [a,b]=x:=by unfold pv; rw[h1]; rfl
   have p2:pv (pp z [a,b] (pv z [a,b]+t)) [b,a]=0:=by unfold pv at h2 ⊢; rw[h2]; rfl
   rw[p1]at h2 p2;have Y:tget (mD z) [a,b]=Y2 (.int x):=by rw[qq4,h1]; rfl
   have U:tget (tput (mD z) [a,b] (.int (x+t))) [b,a]=none:=by rw[qz5,qq4,h2]; rfl
   have Z:((S++[Yc.tdc Y0 (mD z)]).set S.length (.tdc Y0 (tput (mD z) [a,b] (.int (x+t))))).set S.length (.tdc Y0 (tput (tput (mD z) [a,b] (.int (x+t))) [b,a] (.int (0 - t))))=S++[.tdc Y0 (mD (qzs z (d,a,b,t)))]:=by
    rw[sl,sl,qz5,qz5];show _=S++[.tdc Y0 (mD (pp (pp z [a,b] (pv z [a,b]+t)) [b,a] (pv (pp z [a,b] (pv z [a,b]+t)) [b,a] - t)))];rw[p1,p2]
   have J:=gl (st:=S) (c:=.tdc Y0 (mD z));have F:((S++[Yc.tdc Y0 (mD z)]).set S.length (.tdc Y0 (tput (mD z) [a,b] (.int (x+t)))))[S.length]?=Y2 (.tdc Y0 (tput (mD z) [a,b] (.int (x+t)))):=by rw[sl]; exact gl
   have O:decide ((mD z).length<lim)=true:=Z7 (by unfold mD lim; rw[Qqz]; lia);have L:decide ((tput (mD z) [a,b] (.int (x+t))).length<lim)=true:=Z7 (by rw[qz5]; unfold mD lim; rw[Qqz]; have:=qki z [a,b] (x+t); lia);rw[<- Z];exact qzc 0 [] 0 (λq=>_/\_/\_/\_/\_/\_/\_/\_/\_/\_/\q) [.r (.tdc Y0 (mD z)),.r (.tdc Y0 (mD z)),.q (Y2 (.int x)),.r (.tdc Y0 (mD z)),.b Y0,.r (.tdc Y0 (tput (mD z) [a,b] (.int (x+t)))),.r (.tdc Y0 (tput (mD z) [a,b] (.int (x+t)))),.q Y3,.r (.tdc Y0 (tput (mD z) [a,b] (.int (x+t)))),.b Y0] ⟨J,J,Y,J,O,F,F,U,F,L,rfl⟩
  |some y=>
   have p1:pv z [a,b]=x:=by unfold pv; rw[h1]; rfl
   have p2:pv (pp z [a,b] (pv z [a,b]+t)) [b,a]=y:=by unfold pv at h2 ⊢; rw[h2]; rfl
   rw[p1]at h2 p2;have Y:tget (mD z) [a,b]=Y2 (.int x):=by rw[qq4,h1]; rfl
   have U:tget (tput (mD z) [a,b] (.int (x+t))) [b,a]=Y2 (.int y):=by rw[qz5,qq4,h2]; rfl
   have Z:((S++[Yc.tdc Y0 (mD z)]).set S.length (.tdc Y0 (tput (mD z) [a,b] (.int (x+t))))).set S.length (.tdc Y0 (tput (tput (mD z) [a,b] (.int (x+t))) [b,a] (.int (y - t))))=S++[.tdc Y0 (mD (qzs z (d,a,b,t)))]:=by
    rw[sl,sl,qz5,qz5];show _=S++[.tdc Y0 (mD (pp (pp z [a,b] (pv z [a,b]+t)) [b,a] (pv (pp z [a,b] (pv z [a,b]+t)) [b,a] - t)))];rw[p1,p2]
   have J:=gl (st:=S) (c:=.tdc Y0 (mD z));have F:((S++[Yc.tdc Y0 (mD z)]).set S.length (.tdc Y0 (tput (mD z) [a,b] (.int (x+t)))))[S.length]?=Y2 (.tdc Y0 (tput (mD z) [a,b] (.int (x+t)))):=by rw[sl]; exact gl
   have O:decide ((mD z).length<lim)=true:=Z7 (by unfold mD lim; rw[Qqz]; lia);have L:decide ((tput (mD z) [a,b] (.int (x+t))).length<lim)=true:=Z7 (by rw[qz5]; unfold mD lim; rw[Qqz]; have:=qki z [a,b] (x+t); lia);rw[<- Z];exact qzc 0 [] 0 (λq=>_/\_/\_/\_/\_/\_/\_/\_/\_/\_/\q) [.r (.tdc Y0 (mD z)),.r (.tdc Y0 (mD z)),.q (Y2 (.int x)),.r (.tdc Y0 (mD z)),.b Y0,.r (.tdc Y0 (tput (mD z) [a,b] (.int (x+t)))),.r (.tdc Y0 (tput (mD z) [a,b] (.int (x+t)))),.q (Y2 (.int y)),.r (.tdc Y0 (tput (mD z) [a,b] (.int (x+t)))),.b Y0] ⟨J,J,Y,J,O,F,F,U,F,L,rfl⟩
def qa1(es:List En):∀m:Mp,(es.foldl qzs m).length<=m.length+2*es.length:=by
 induction es with
 |nil=>intro m; exact Qqj _
 |cons e r q=>
  intro m;have h:=q (qzs m e);have h1:(qzs m e).length<=m.length+2:=by
   unfold qzs;have a:=qki m [e.2.1,e.2.2.1] (pv m [e.2.1,e.2.2.1]+e.2.2.2);have b:=qki (pp m [e.2.1,e.2.2.1] (pv m [e.2.1,e.2.2.1]+e.2.2.2)) [e.2.2.1,e.2.1] (pv (pp m [e.2.1,e.2.2.1] (pv m [e.2.1,e.2.2.1]+e.2.2.2)) [e.2.2.1,e.2.1] - e.2.2.2)
   lia
  rw[Qxy,Qqg]
  lia
section
variable {sz:Zt}{T d:Int}{fo jo:List (D×D)}{ro:List Int}{rest:Yo}{cs:List Cl}
def qks(m):callD fns (m+1) 60 [.loc 0] (FC sz T d fo jo cs ro rest)=Y2 (.loc (FC sz T d fo jo cs ro rest).length,FC sz T d fo jo cs ro rest++[.lst Y0 sz.es]):=
 qzz 8 [] 1 (λq=>q) [] rfl
def nl_e(es:List En):noLocs (es.map eD)=true:=qzl λ_ _=>rfl
def ent_ev(m){es:List En}(z:sz.es=es.map eD)(q:τ[i]?=Y2 (Y2 (.loc 0))):(RL (callD fns (m+1))).ev τ (FC sz T d fo jo cs ro rest) (.gc (.mcall 642 60 "entries" (.var i) []))=Y2 (.lst (es.map eD),FC sz T d fo jo cs ro rest):=by
 have e:=qks (sz:=sz) (T:=T) (d:=d) (fo:=fo) (jo:=jo) (ro:=ro) (cs:=cs) (rest:=rest) m;rw[z]at e;have g:=qza (st:=FC sz T d fo jo cs ro rest) (nl_e es);have F:(RL (callD fns (m+1))).ev τ (FC sz T d fo jo cs ro rest) (.var i)=Y2 (.loc 0,FC sz T d fo jo cs ro rest):=qqo _ _ _ _ _ (by show(match τ[i]? with|some (Y2 d)=>Y2 (d,_)|_=>Y3)=_; rw[q]);refine qqo _ _ _ _ _ ?_;show((RL (callD fns (m+1))).ev _ _ _).map _=_;have:(RL (callD fns (m+1))).ev τ (FC sz T d fo jo cs ro rest) (.mcall 642 60 "entries" (.var i) [])=Y2 (.loc (FC sz T d fo jo cs ro rest).length,FC sz T d fo jo cs ro rest++[.lst Y0 (es.map eD)]):=by
  refine qqo _ _ _ _ _ ?_;show((RL (callD fns (m+1))).ev _ _ _).bind _=_;rw[F];exact e
 rw[this];exact congrArg Y2 g
def qci(m){es:List En}(hl:es.length<400)(hz:sz.es=es.map eD):callD fns (m+2) 62 [.loc 0] (FC sz T d fo jo cs ro rest)=Y2 (.loc (FC sz T d fo jo cs ro rest).length,FC sz T d fo jo cs ro rest++[.tdc Y0 (mD (es.foldl qzs []))]):=by
 have F:=ent_ev (T:=T) (d:=d) (fo:=fo) (jo:=jo) (ro:=ro) (cs:=cs) (rest:=rest++[.tdc Y0 []]) m hz (τ:=[Y2 (.loc 0),Y2 (.loc (FC sz T d fo jo cs ro rest).length),Y3,Y3,Y3,Y3]) (i:=0) rfl;have eS:FC sz T d fo jo cs ro (rest++[.tdc Y0 []])=FC sz T d fo jo cs ro rest++[.tdc Y0 []]:=rfl;rw[eS]at F;generalize hS:FC sz T d fo jo cs ro rest=S at F;obtain⟨z,st',h1,Y,U,O,L,rfl,rfl⟩:=qqt (it:=.gc (.mcall 642 60 "entries" (.var 0) [])) (t:=.tup [2,3,4,5])
  (λk z st'=>∃Y U O L,z=[Y2 (.loc 0),Y2 (.loc S.length),Y,U,O,L]/\st'=S++[.tdc Y0 (mD ((es.take k).foldl qzs []))])
  (by show((RL (callD fns (m+1))).ev _ _ _).bind _=_; rw[F]; rfl) (qzt rfl) (λk z st' _=>qqu rfl k) ⟨_,_,_,_,rfl,by rw[Qxl]; rfl⟩ (λk z st' x Z h=>by
   obtain⟨Y,U,O,L,rfl,rfl⟩:=h;rw[Qqv]at Z;obtain⟨e,he,rfl⟩:=Qqf.mp Z;have hk:=(Qqk.mp he).1;have tk:es.take (k+1)=es.take k++[e]:=by rw[Qx6,he]; rfl
   have J:=qa1 (es.take k) [];rw[Qzz]at J;obtain⟨d',a,b,t⟩:=e
   exact⟨_,_,qln (m+1) S ((es.take k).foldl qzs []) (by simp only[Qxs]at J; lia) d' a b t,_,_,_,_,rfl,by rw[tk,List.foldl_append]; rfl⟩)
 rw[Qqz,Qzu]at h1;subst hS;exact qzz 8 [] 2 (λq=>_/\q) [.s (.nx [Y2 (.loc 0),Y2 (.loc (FC sz T d fo jo cs ro rest).length),Y,U,O,L],FC sz T d fo jo cs ro rest++[.tdc Y0 (mD (es.foldl qzs []))])] ⟨h1,rfl⟩
def qyh(m)(st)(F:1<=w)(z:w<=40):callD fns (m+2) 61 [.int w] st=Y2 (.non,st):=
 qzz 0 [] 2 (λq=>_/\_/\q) [.b Y0,.b Y0] ⟨Z7 F,Z7 z,rfl⟩
def qmp(m)(hl:es.length<400)(Z:sz.es=es.map eD)(a1:1<=a)(a2:a<=40)(b1:1<=b)(b2:b<=40):∃r,callD fns (m+3) 63 [.loc 0,.int a,.int b] (FC sz T d fo jo cs ro rest)=Y2 (.int (net es a b),FC sz T d fo jo cs ro rest++r):=by
 have O:=qci (T:=T) (d:=d) (fo:=fo) (jo:=jo) (ro:=ro) (cs:=cs) (rest:=rest) m hl Z;have F:pv (es.foldl qzs []) [a,b]=net es a b:=by rw[qc7]; show 0+_=_; lia
 have Y:=qyh m (FC sz T d fo jo cs ro rest) a1 a2;have U:=qyh m (FC sz T d fo jo cs ro rest) b1 b2;have L:=gl (st:=FC sz T d fo jo cs ro rest) (c:=.tdc Y0 (mD (es.foldl qzs [])));refine⟨[.tdc Y0 (mD (es.foldl qzs []))],?_⟩;generalize es.foldl qzs []=z at *;have J:=qq4 z [a,b];unfold pv at F
 cases h:pg z [a,b] with
 |none=>
  rw[h]at J F;rw[<- F];exact qzz 8 [61,62] 3 (λq=>_/\_/\_/\_/\_/\_/\q) [.c (.non,FC sz T d fo jo cs ro rest),.c (.non,FC sz T d fo jo cs ro rest),.c (.loc (FC sz T d fo jo cs ro rest).length,FC sz T d fo jo cs ro rest++[.tdc Y0 (mD z)]),.r (.tdc Y0 (mD z)),.r (.tdc Y0 (mD z)),.q Y3] ⟨Y,U,O,L,L,J,rfl⟩
 |some x=>
  rw[h]at J F;rw[<- F];exact qzz 8 [61,62] 3 (λq=>_/\_/\_/\_/\_/\_/\q) [.c (.non,FC sz T d fo jo cs ro rest),.c (.non,FC sz T d fo jo cs ro rest),.c (.loc (FC sz T d fo jo cs ro rest).length,FC sz T d fo jo cs ro rest++[.tdc Y0 (mD z)]),.r (.tdc Y0 (mD z)),.r (.tdc Y0 (mD z)),.q (Y2 (.int x))] ⟨Y,U,O,L,L,J,rfl⟩
end
def Two(k:List Int):Prop:=∃x y,k=[x,y]
def qh9(h:∀p∈m,Two p.1)(a b v):∀p∈pp m [a,b] v,Two p.1:=λp J=>by
 have:p.1∈(pp m [a,b] v).map (·.1):=Qqw.mpr ⟨p,J,rfl⟩;rw[qd9]at this
 split at this
 ·obtain⟨q,F,e⟩:=Qqw.mp this;rw[<- e]; exact h q F
 ·rcases Qqh.mp this with z|z
  ·obtain⟨q,F,e⟩:=Qqw.mp z;rw[<- e]; exact h q F
  ·rw[Qqy.mp z]; exact⟨a,b,rfl⟩
def qhh(es:List En):∀m:Mp,(∀p∈m,Two p.1)->(m.map (·.1)).Nodup->(∀p∈es.foldl qzs m,Two p.1)/\((es.foldl qzs m).map (·.1)).Nodup:=by
 induction es with
 |nil=>intro m h n; exact⟨h,n⟩
 |cons e r q=>intro m h n; exact q _ (qh9 (qh9 h _ _ _) _ _ _) (qdp n e)
def qc6(n:(m.map (·.1)).Nodup)(h:p∈m):pg m p.1=Y2 p.2:=by
 induction m with
 |nil=>cases h
 |cons q r F=>
  rw[Qqb,Qzv]at n;unfold pg;rw[Qqu];rcases Qqa.mp h with rfl|h
  ·rw[Z7 rfl]; rfl
  ·rw[Z8 λz=>n.1 (Qqw.mpr ⟨p,h,z.symm⟩)];exact F n.2 h
def net_le(h:∀e∈es,EnOk e)(a b):-(2*10 ^ 7*(es.length:Int))<=net es a b/\net es a b<=2*10 ^ 7*(es.length:Int):=by
 induction es with
 |nil=>exact⟨by simp[net],by simp[net]⟩
 |cons e r q=>
  have h1:=q λx z=>h x (.tail _ z);have h2:=(h e (.head _)).2.2.2.2;have F:net (e::r) a b=((if e.2.1=a/\e.2.2.1=b then e.2.2.2 else 0) - (if e.2.2.1=a/\e.2.1=b then e.2.2.2 else 0))+net r a b:=by unfold net; rw[Qqb,Qzo]
  rw[F,Qqg]
  split<;>split<;>lia
noncomputable def gBa(mp:Mp)(w:Int):D->Option D
 |.fup k=>if isW w k then Y2 (.int (pv mp k)) else Y3
 |_=>Y3
def qns{z:Mp}(n:(z.map (·.1)).Nodup)(w):(z.map λp=>D.fup p.1).filterMap (gBa z w)=((z.filter λp=>isW w p.1).map (·.2)).map .int:=by
 have:∀l:Mp,(∀p∈l,p∈z)->(l.map λp=>D.fup p.1).filterMap (gBa z w)=((l.filter λp=>isW w p.1).map (·.2)).map .int:=λl=>by
  induction l with
  |nil=>intro _; rfl
  |cons p r F=>
   intro J;have F:=F λq L=>J q (.tail _ L);rw[Qqb,Qz3,Qjk];have e:pv z p.1=p.2:=by unfold pv; rw[qc6 n (J p (.head _))]; rfl
   have O:gBa z w (.fup p.1)=if isW w p.1 then Y2 (.int p.2) else none:=by show(if _ then Y2 (D.int (pv z p.1)) else Y3)=_; rw[e]
   rw[O,F];cases isW w p.1<;>rfl
 exact this z λ_ h=>h
theorem asI':∀ns:List Int,asInts (ns.map .int)=Y2 ns
 |[]=>rfl
 |_::r=>by show(asInts (r.map .int)).map _=_; rw[asI' r]; rfl
section
variable {sz:Zt}{T d:Int}{fo jo:List (D×D)}{ro:List Int}{rest:Yo}{cs:List Cl}
def qb7(m)(hl:es.length<400)(hz:sz.es=es.map eD)(he:∀e∈es,EnOk e)(w1:1<=w)(w2:w<=40):∃r,callD fns (m+3) 64 [.loc 0,.int w] (FC sz T d fo jo cs ro rest)=Y2 (.int (dues es w),FC sz T d fo jo cs ro rest++r):=by
 have hs:=qci (T:=T) (d:=d) (fo:=fo) (jo:=jo) (ro:=ro) (cs:=cs) (rest:=rest) m hl hz;have f1:=qyh m (FC sz T d fo jo cs ro rest) w1 w2;have hb:bal (es.foldl qzs []) w=dues es w:=by rw[qh5 es w [] .nil]; show 0+_=_; lia
 obtain⟨h2,hn⟩:=qhh es [] (Qqr _) .nil;have Z:=qa1 es [];have U:∀p∈es.foldl qzs [],-(2 ^ 40)<=p.2/\p.2<=2 ^ 40:=λp F=>by
  obtain⟨x,y,e⟩:=h2 p F;have e1:p.2=net es x y:=by
   have:=qc6 hn F;have q:=qc7 es x y [];unfold pv at q;rw[<- e,this]at q;have q:p.2=0+net es x y:=q
   lia
  have:=net_le he x y
  lia
 refine⟨[.tdc Y0 (mD (es.foldl qzs []))],?_⟩;generalize es.foldl qzs []=z at *;generalize hS:FC sz T d fo jo cs ro rest=S at *;have hw:wtdcAt (S++[.tdc Y0 (mD z)]) S.length=Y2 (mD z):=by unfold wtdcAt; rw[gl]
 have a0:∀i,(Src.tks S.length).at (S++[.tdc Y1 (mD z)]) i=Y2 (z.map λp=>D.fup p.1)[i]?:=λi=>by
  show(match (S++[.tdc Y1 (mD z)])[S.length]? with|some (.tdc Y1 kvs)=>Y2 (kvs[i]?.map λ(p:List Int×D)=>D.fup p.1)|_=>Y3)=_;rw[gl];show Y2 ((mD z)[i]?.map λ(p:List Int×D)=>D.fup p.1)=_;unfold mD;rw[Qqv,Qqv,Qkj]
  rfl
 have a2:z.length<1000:=by simp only[Qxs]at Z; lia
 have lp:=qjp (f:=turnC (RL (callD fns (m+2))) (.var 0) (Y2 (.cmp .Eq (.idx (.unt (.var 0)) (.lit (.int 1))) (.var 2))) (.tdx (.var 1) (.var 0))) (gBa z w) (λτ=>∃a,τ=[a,Y2 (.loc S.length),Y2 (.int w)]) a0 (by rw[Qqz]; unfold lim; lia) (λτ x hx F=>by
  obtain⟨a,rfl⟩:=F;obtain⟨p,F,rfl⟩:=Qqw.mp hx;obtain⟨x,y,e⟩:=h2 p F;have L:=qc6 hn F;have hk:tget (mD z) p.1=Y2 (.int p.2):=by rw[qq4,L]; rfl
  have ev:pv z p.1=p.2:=by unfold pv; rw[L]; rfl
  refine⟨[Y2 (.fup p.1),Y2 (.loc S.length),Y2 (.int w)],?_,_,rfl⟩
  have eg:gBa z w (.fup p.1)=if isW w p.1 then Y2 (.int p.2) else none:=by show(if _ then Y2 (D.int (pv z p.1)) else Y3)=_; rw[ev]
  rw[eg];refine turn_if rfl ?_ λ_=>?_
  ·rw[e,isW2];have hq:(y==w)=decide (y=w):=by rw[Qxg,beq_iff_eq,decide_eq_true_eq]
   exact qzi 0 [] 2 (λq=>_/\q) [.b (decide (y=w))] ⟨hq,rfl⟩
  ·exact qzf 0 [] 2 (λq=>_/\_/\q) [.r (.tdc Y1 (mD z)),.q (Y2 (.int p.2))] ⟨gl (st:=S) (c:=.tdc Y1 (mD z)),hk,rfl⟩) z.length 0 [Y3,Y2 (.loc S.length),Y2 (.int w)] (by rw[Qqz]; lia) ⟨Y3,rfl⟩
 rw[Qxl,List.filterMap_nil,qns hn]at lp;have hc:stepEv (RL (callD fns (m+2))) [Y2 (.loc 0),Y2 (.int w),Y2 (.loc S.length)] (S++[.tdc Y0 (mD z)]) (.cmpd (.var 0) (.var 2) (Y2 (.cmp .Eq (.idx (.unt (.var 0)) (.lit (.int 1))) (.var 2))) (.tdx (.var 1) (.var 0)) [Y3,Y2 2,Y2 1])=Y2 (.loc (S++[Yc.tdc Y0 (mD z)]).length,S++[.tdc Y0 (mD z)]++[.lst Y0 (((z.filter λp=>isW w p.1).map (·.2)).map .int)]):=by
  have U:(RL (callD fns (m+2))).ev [Y2 (.loc 0),Y2 (.int w),Y2 (.loc S.length)] (S++[.tdc Y0 (mD z)]) (.var 2)=Y2 (.loc S.length,S++[.tdc Y0 (mD z)]):=qqo _ _ _ _ _ rfl;show((RL (callD fns (m+2))).ev _ _ _).bind _=_;rw[U];show(wtdcAt (S++[.tdc Y0 (mD z)]) S.length).bind _=_;rw[hw];show(loopC _ _ ((mD z).length+1) 0 [] _ ((S++[Yc.tdc Y0 (mD z)]).set S.length (.tdc Y1 (mD z)))).bind _=_;have Y:(mD z).length=z.length:=by unfold mD; rw[Qqz]
  rw[sl,Y];show(loopC _ _ (z.length+1) 0 [] [Y3,Y2 (.loc S.length),Y2 (.int w)] (S++[.tdc Y1 (mD z)])).bind _=_;rw[lp];show(match (S++[Yc.tdc Y1 (mD z)])[S.length]? with|some (.tdc Y1 a1)=>_|_=>Y3)=_;rw[gl];show Y2 (alloc ((S++[Yc.tdc Y1 (mD z)]).set S.length (.tdc Y0 (mD z))) _)=_;rw[sl]
  rfl
 have J:bfun (S++[.tdc Y0 (mD z)]) .sum [.lst (((z.filter λp=>isW w p.1).map (·.2)).map .int)]=Y2 (.int (dues es w),S++[.tdc Y0 (mD z)]):=by
  show(asInts _).bind _=_;rw[asI'];show(if sumOk _ then Y2 (D.int (bal z w),_) else Y3)=_;rw[hb,Xq];unfold sumOk;rw[Qqo,decide_eq_true_eq,Qq8];refine⟨?_,λv O=>?_⟩
  ·rw[Qqz]; have:=Qz9 (λp:List Int×Int=>isW w p.1) z; lia
  ·obtain⟨p,F,rfl⟩:=Qqw.mp O;have:=U p (Qxz.mp F).1;rw[Qqo,decide_eq_true_eq,decide_eq_true_eq];exact this
 have L:=qza (st:=S++[.tdc Y0 (mD z)]) (nlI ((z.filter λp=>isW w p.1).map (·.2)));subst hS;exact qzz 8 [61,62] 3 (λq=>_/\_/\_/\_/\_/\q) [.c (.non,FC sz T d fo jo cs ro rest),.c (.loc (FC sz T d fo jo cs ro rest).length,FC sz T d fo jo cs ro rest++[.tdc Y0 (mD z)]),.c (.loc (FC sz T d fo jo cs ro rest++[Yc.tdc Y0 (mD z)]).length,FC sz T d fo jo cs ro rest++[.tdc Y0 (mD z)]++[.lst Y0 (((z.filter λp=>isW w p.1).map (·.2)).map .int)]),.l (((z.filter λp=>isW w p.1).map (·.2)).map .int),.c (.int (dues es w),FC sz T d fo jo cs ro rest++[.tdc Y0 (mD z)])] ⟨f1,hs,hc,L,J,rfl⟩
end
theorem qd1{ds:List D}(P:Nat->Sl->Yo->Prop)(J:D->Yo->Prop)(F:∀i τ st,P i τ st->s.at st i=Y2 ds[i]?)(L:∀i τ st d,ds[i]?=Y2 d->P i τ st->(∃z st',f τ st d=Y2 (.nx z,st')/\P (i+1) z st')\/∃v st',f τ st d=Y2 (.rt v,st')/\J v st'):
  ∀(k i:Nat) (τ:Sl) (st:Yo),i+k=ds.length->P i τ st->(∃z st',loop s f (k+1) i τ st=Y2 (.nx z,st')/\P ds.length z st')\/∃v st',loop s f (k+1) i τ st=Y2 (.rt v,st')/\J v st'
 |0,i,τ,st,h,p=>by
  have e:i=ds.length:=by lia
  subst e;refine .inl ⟨τ,st,?_,p⟩;rw[loop,F _ _ _ p];simp[Qzg (Qqj _)]
 |k+1,i,τ,st,h,p=>by
  have hi:i<ds.length:=by lia
  have h1:ds[i]?=Y2 ds[i]:=by simp
  rw[loop,F _ _ _ p,h1];simp only[oBs];rcases L i τ st _ h1 p with⟨z,st',e,q⟩|⟨v,st',e,q⟩
  ·rw[e]; exact qd1 P J F L k (i+1) z st' (by lia) q
  ·rw[e]; exact .inr ⟨v,st',rfl,q⟩
def qi1{ds:List D}(P:Nat->Sl->Yo->Prop)(O:D->Yo->Prop)(h1:src (RL c) τ st it=Y2 (s,st))(h2:s.size st=ds.length)(Z:∀k z st',P k z st'->s.at st' k=Y2 ds[k]?)(h0:P 0 τ st)(Y:∀k z st' d,ds[k]?=Y2 d->P k z st'->(∃L F,((setT t d z).bind λJ=>(RL c).ex J st' body)=Y2 (.nx L,F)/\P (k+1) L F)\/∃v F,((setT t d z).bind λJ=>(RL c).ex J st' body)=Y2 (.rt v,F)/\O v F):
  (∃z st',stepEx (RL c) τ st (.forr t it body)=Y2 (.nx z,st')/\P ds.length z st')\/∃v st',stepEx (RL c) τ st (.forr t it body)=Y2 (.rt v,st')/\O v st':=by
 have e:∀x,loop s (λτ st d=>(setT t d τ).bind λz=>(RL c).ex z st body) (ds.length+1) 0 τ st=x->stepEx (RL c) τ st (.forr t it body)=x:=λx U=>by
  show(src (RL c) τ st it).bind _=_;rw[h1];simp only[oBs];rw[h2];exact U
 rcases qd1 P O Z Y ds.length 0 τ st (by lia) h0 with⟨z,st',q,p⟩|⟨v,st',q,p⟩
 ·exact .inl ⟨z,st',e _ q,p⟩
 ·exact .inr ⟨v,st',e _ q,p⟩
section
def qem(z:1<=n)(q:n<=1000000):Fit W H P (n,"coins"):=⟨1,1000000,by kernel_rfl,z,q⟩
def qn1(z:0<=n)(q:n<=P):Fit W H P (n,"floor"):=⟨0,P,by kernel_rfl,z,q⟩
def s_pay(m)(st)(L:1<=a)(J:a<=40)(b1:1<=b)(b2:b<=40)(ne:a≠b)(F:1<=n)(z:n<=1000000):callD fns (m+3) 8 [szD W H P,.tup [sO "pay",.int a,.int b,.int n]] st=Y2 (.bl Y0,st):=
 qzz 0 [2] 3 (λq=>_/\_/\_/\q) [.c (.bl Y0,st++[.dic Y0 (bD W H P)]),.g,.b Y0] ⟨qq7 m st (W:=W) (H:=H) (P:=P) [(a,"folk"),(b,"folk"),(n,"coins")] (by simp) (by simp only[Qqa,Qzx,or_false,forall_eq_or_imp,forall_eq]; exact⟨qkr L J,qkr b1 b2,qem F z⟩),gB st (.dic Y0 (bD W H P)),(show(!(a==b))=Y0 by simpa using ne),rfl⟩
def s_dig(m)(st)(o1:1<=o)(o2:o<=40)(x1:0<=mx)(x2:mx<W)(Y:0<=my)(U:my<H)(x3:0<=x)(Z:x<W)(O:0<=y)(L:y<H)(J:0<=z)(F:z<=P)(h1:1<=n)(h2:n<=1000000):callD fns (m+3) 8 [szD W H P,.tup [sO "dig",.int o,.int mx,.int my,.int x,.int y,.int z,.int n]] st=Y2 (.bl Y0,st):=
 qzz 0 [2] 3 (λq=>_/\_/\q) [.c (.bl Y0,st++[.dic Y0 (bD W H P)]),.g] ⟨qq7 m st [(o,"folk"),(mx,"x"),(my,"y"),(x,"x"),(y,"y"),(z,"floor"),(n,"coins")] (by simp) (by simp only[Qqa,Qzx,or_false,forall_eq_or_imp,forall_eq]; exact⟨qkr o1 o2,f_x x1 x2,f_y Y U,f_x x3 Z,f_y O L,qn1 J F,qem h1 h2⟩),gB st (.dic Y0 (bD W H P)),rfl⟩
end
section
variable {sz:Zt}{T d:Int}{fo jo:List (D×D)}{ro:List Int}{rest:Yo}{cs:List Cl}
def qdh(m)(a)(c)(t)(F:sz.es.length<1000):∃more:List En,(more=[]\/∃b,c=Y2 b/\b≠a/\more=[(d,a,b,t)])/\callD fns (m+1) 53 [.loc 0,.int a,oD c,.int t] (FC sz T d fo jo cs ro rest)=Y2 (.non,FC ⟨sz.s,sz.dg,sz.es++more.map eD⟩ T d fo jo cs ro rest):=by
 have z:FC ⟨sz.s,sz.dg,sz.es++([]:List En).map eD⟩ T d fo jo cs ro rest=FC sz T d fo jo cs ro rest:=by rw[Qxx,Qzh]
 cases c with
 |none=>
  refine⟨[],.inl rfl,?_⟩;rw[z];exact qzz 8 [] 1 (λq=>_/\q) [.b Y1] ⟨(show(!isNon .non)=Y1 from rfl),rfl⟩
 |some b=>
  by_cases e:b=a
  ·refine⟨[],.inl rfl,?_⟩;rw[z];exact qzz 8 [] 1 (λq=>_/\_/\q) [.b Y0,.b Y1] ⟨(show(!isNon (.int b))=Y0 from rfl),(show(!(b==a))=Y1 by simpa using e),rfl⟩
  ·refine⟨[(d,a,b,t)],.inr ⟨b,rfl,e,rfl⟩,?_⟩;exact qzz 8 [] 1 (λq=>_/\_/\_/\q) [.b Y0,.b Y0,.b Y0] ⟨(show(!isNon (.int b))=Y0 from rfl),(show(!(b==a))=Y0 by simpa using e),Z7 (p:=sz.es.length<lim) (by unfold lim; lia),rfl⟩
def mul10(n):mulOk 10 n=true:=rfl
def pay_ok(m)(z:sz.es.length<1000):∃more:List En,(more=[]\/more=[(d,b,a,10*n)])/\callD fns (m+2) 51 [.loc 0,.tup [sO "pay",.int a,.int b,.int n]] (FC sz T d fo jo cs ro rest)=Y2 (sO "good",FC ⟨sz.s,sz.dg,sz.es++more.map eD⟩ T d fo jo cs ro rest):=by
 obtain⟨more,h1,h2⟩:=qdh (T:=T) (d:=d) (fo:=fo) (jo:=jo) (ro:=ro) (rest:=rest) (cs:=cs) m b (Y2 a) (10*n) z;refine⟨more,h1.imp id λ⟨x,J,_,F⟩=>by cases J; exact F,?_⟩;exact qzz 8 [53] 2 (λq=>_/\_/\q) [.b Y0,.c (.non,FC ⟨sz.s,sz.dg,sz.es++more.map eD⟩ T d fo jo cs ro rest)] ⟨mul10 n,h2,rfl⟩
end
theorem gs_of{cs:List Cl}:∀{row},(∀n∈row,∃c∈cs,c.nm=n)->∃z:List Cl,z.map (·.nm)=row/\∀c∈z,c∈cs
 |[],_=>⟨[],rfl,Qqr _⟩
 |n::r,h=>by
  obtain⟨c,J,rfl⟩:=h n (.head _);obtain⟨z,e,F⟩:=gs_of λx q=>h x (.tail _ q)
  exact⟨c::z,by rw[Qqb,e],λx q=>by
   rcases Qqa.mp q with rfl|q
   ·exact J
   ·exact F x q⟩
def gS(x)(st:Yo)(h:noLoc x=Y0):noLoc x=Y0/\st.take st.length=st:=⟨h,Qzu⟩
noncomputable def sgD(gs:List Cl):List D:=gs.map λc=>.tup [.int c.nm,rD c.g]
def nl_sg(q):noLocs (sgD q)=true:=qzl λ_ _=>rfl
section
variable {sz:Zt}{T d:Int}{fo jo:List (D×D)}{ro:List Int}{rest:Yo}{cs:List Cl}{B:Nat}
def qee(m)(I:Inv B rest cs)(z:c∈cs):callD fns (m+3) 31 [.loc 0,.int c.nm] (FC sz T d fo jo cs ro rest)=Y2 (rD c.g,FC sz T d fo jo cs ro rest):=
 qzz 8 [58] 3 (λq=>_/\q) [.c (.tup [.int c.o,rD c.g,.int c.la,oD c.v,oD c.gv],FC sz T d fo jo cs ro rest)] ⟨qvi (sz:=sz) (T:=T) (d:=d) (fo:=fo) (jo:=jo) (ro:=ro) m I z,rfl⟩
def sg_ok(m)(I:Inv B rest cs)(J:∀n∈ro,∃c∈cs,c.nm=n)(hl:ro.length<1000):∃z:List Cl,(∀c∈z,c∈cs)/\z.length<=ro.length/\callD fns (m+4) 35 [.loc 0] (FC sz T d fo jo cs ro rest)=Y2 (.loc (FC sz T d fo jo cs ro rest).length,FC sz T d fo jo cs ro rest++[.lst Y0 (sgD z)]):=by
 obtain⟨z,Z,Y⟩:=gs_of (row:=ro.filter (stB cs d)) λn hn=>J n (Qxz.mp hn).1;have a0:=Qz9 (stB cs d) ro;have O:z.length<=ro.length:=by
  have:=congrArg List.length Z;rw[Qqz]at this
  lia
 refine⟨z,Y,O,?_⟩;have F:=qgb (sz:=sz) (T:=T) (d:=d) (fo:=fo) (jo:=jo) m I J hl;rw[<- Z]at F;have U:(RL (callD fns (m+3))).ev [Y2 (.loc 0)] (FC sz T d fo jo cs ro rest) (.gc (.mcall 642 59 "standing" (.var 0) []))=Y2 (.lst (rowD (z.map (·.nm))),FC sz T d fo jo cs ro rest):=
  qzf 8 [59] 3 (λq=>_/\_/\q) [.c (.loc (FC sz T d fo jo cs ro rest).length,FC sz T d fo jo cs ro rest++[.lst Y0 (rowD (z.map (·.nm)))]),.l (rowD (z.map (·.nm)))] ⟨F,qza (st:=FC sz T d fo jo cs ro rest) (nlI (z.map (·.nm))),rfl⟩
 have hc:=qa6 (it:=.gc (.mcall 642 59 "standing" (.var 0) [])) (elt:=.tup [.var 0,.call 31 [.var 1,.var 0]]) (sr:=[Y3,Y2 0]) (es:=sgD z)
  (by show((RL (callD fns (m+3))).ev _ _ _).bind _=_; rw[U]; rfl) (qqu rfl) (qzt rfl) rfl (by unfold sgD; simp) (by simp; unfold lim; lia) λk x e hd L=>by
   have hd:((z.map (·.nm)).map D.int)[k]?=Y2 x:=hd;rw[Qq5,Qqv]at hd;unfold sgD at L;rw[Qqv]at L;obtain⟨c,h1,rfl⟩:=Qqf.mp hd;rw[h1]at L;cases L;exact qzf 8 [31] 3 (λq=>_/\q) [.c (rD c.g,FC sz T d fo jo cs ro rest)] ⟨qee (sz:=sz) (T:=T) (d:=d) (fo:=fo) (jo:=jo) (ro:=ro) m I (Y c (Qqm h1)),rfl⟩
 exact qzz 8 [] 4 (λq=>_/\q) [.c (.loc (FC sz T d fo jo cs ro rest).length,FC sz T d fo jo cs ro rest++[.lst Y0 (sgD z)])] ⟨hc,rfl⟩
def qmr(m)(I:Inv B rest cs)(U:∀n∈ro,∃c∈cs,c.nm=n)(hl:ro.length<1000)(p):∃o:Option Cl,(∀c,o=Y2 c->c∈cs)/\callD fns (m+5) 41 [.loc 0,cD p] (FC sz T d fo jo cs ro rest)=Y2 (oD (o.map (·.nm)),FC sz T d fo jo cs ro rest):=by
 obtain⟨O,hg,a0,hs⟩:=sg_ok m I U hl;have Y:(RL (callD fns (m+4))).ev [Y2 (.loc 0),Y2 (cD p),Y3,Y3] (FC sz T d fo jo cs ro rest) (.gc (.call 35 [.var 0]))=Y2 (.lst (sgD O),FC sz T d fo jo cs ro rest):=
  qzf 8 [35] 4 (λq=>_/\_/\q) [.c (.loc (FC sz T d fo jo cs ro rest).length,FC sz T d fo jo cs ro rest++[.lst Y0 (sgD O)]),.l (sgD O)] ⟨hs,qza (st:=FC sz T d fo jo cs ro rest) (nl_sg O),rfl⟩
 generalize hS:FC sz T d fo jo cs ro rest=S at *;rcases qi1 (it:=.gc (.call 35 [.var 0])) (t:=.tup [2,3]) (body:=[.ite (.call 9 [.var 3,.var 1]) [.ret (.var 2)] []])
  (λk F st'=>∃a b,F=[Y2 (.loc 0),Y2 (cD p),a,b]/\st'=S) (λv st'=>∃c∈cs,v=.int c.nm/\st'=S)
  (by show((RL (callD fns (m+4))).ev _ _ _).bind _=_; rw[Y]; rfl) (qzt rfl) (λk F st' _=>qqu rfl k) ⟨_,_,rfl,rfl⟩ (λk F st' x L h=>by
   obtain⟨a,b,rfl,rfl⟩:=h;unfold sgD at L;rw[Qqv]at L;obtain⟨c,Z,rfl⟩:=Qqf.mp L;have J:=qj6 (m+3) st' c.g p
   cases hb:inB c.g p with
   |true=>
    rw[hb]at J;exact .inr ⟨.int c.nm,st',qzc 0 [9] 4 (λq=>_/\q) [.c (.bl Y0,st')] ⟨J,rfl⟩,c,hg c (Qqm Z),rfl,rfl⟩
   |false=>
    rw[hb]at J
    exact .inl ⟨[Y2 (.loc 0),Y2 (cD p),Y2 (.int c.nm),Y2 (rD c.g)],st',qzc 0 [9] 4 (λq=>_/\q) [.c (.bl Y1,st')] ⟨J,rfl⟩,_,_,rfl,rfl⟩) with⟨F,st',e,a,b,rfl,rfl⟩|⟨v,st',e,c,Z,rfl,rfl⟩
 ·refine⟨Y3,(by intro _ z; cases z),?_⟩;exact qzz 0 [] 5 (λq=>_/\q) [.s (.nx [Y2 (.loc 0),Y2 (cD p),a,b],st')] ⟨e,rfl⟩
 ·refine⟨Y2 c,λx L=>by cases L; exact Z,?_⟩;exact qzz 0 [] 5 (λq=>_/\q) [.s (.rt (.int c.nm),st')] ⟨e,rfl⟩
def qnp(m)(I:Inv B rest cs)(F:∀n∈ro,∃c∈cs,c.nm=n)(L:ro.length<1000)(p):∃o:Option Int,(∀n,o=Y2 n->∃c∈cs,n=c.o)/\callD fns (m+6) 52 [.loc 0,cD p] (FC sz T d fo jo cs ro rest)=Y2 (oD o,FC sz T d fo jo cs ro rest):=by
 obtain⟨o,h1,h2⟩:=qmr (sz:=sz) (T:=T) (d:=d) (fo:=fo) (jo:=jo) m I F L p
 cases o with
 |none=>exact⟨Y3,(by intro _ z; cases z),qzz 8 [41] 6 (λq=>_/\_/\_/\q) [.c (.non,FC sz T d fo jo cs ro rest),.g,.b Y0] ⟨h2,gS .non (FC sz T d fo jo cs ro rest) rfl,(show isNon .non=Y0 from rfl),rfl⟩⟩
 |some c=>
  have J:=h1 c rfl;have O:=qvi (sz:=sz) (T:=T) (d:=d) (fo:=fo) (jo:=jo) (ro:=ro) (m+3) I J;exact⟨Y2 c.o,λn hn=>by cases hn; exact⟨c,J,rfl⟩,qzz 8 [41,58] 6 (λq=>_/\_/\_/\_/\q) [.c (.int c.nm,FC sz T d fo jo cs ro rest),.g,.b Y1,.c (.tup [.int c.o,rD c.g,.int c.la,oD c.v,oD c.gv],FC sz T d fo jo cs ro rest)] ⟨h2,gS (.int c.nm) (FC sz T d fo jo cs ro rest) rfl,(show isNon (.int c.nm)=Y1 from rfl),O,rfl⟩⟩
end
noncomputable def ing(W H P x y z:Int):Bool:=(decide (0<=x)&&decide (x<W))&&((decide (0<=y)&&decide (y<H))&&(decide (0<=z)&&decide (z<=P)))
def qir(m)(st)(W H P x y z):callD fns (m+1) 13 [szD W H P,.tup [.int x,.int y,.int z]] st=Y2 (.bl (ing W H P x y z),st):=by
 unfold ing
 by_cases h1:0<=x
 ·by_cases h2:x<W
  ·by_cases F:0<=y
   ·by_cases J:y<H
    ·by_cases L:0<=z
     ·rw[Z7 h1,Z7 h2,Z7 F,Z7 J,Z7 L];have e:((Y0&&Y0)&&((Y0&&Y0)&&(Y0&&decide (z<=P))))=decide (z<=P):=by cases decide (z<=P)<;>rfl
      rw[e];exact qzz 0 [] 1 (λq=>_/\_/\_/\_/\_/\_/\q) [.b Y0,.b Y0,.b Y0,.b Y0,.b Y0,.b (decide (z<=P))] ⟨Z7 h1,Z7 h2,Z7 F,Z7 J,Z7 L,(show decide (z<=P)=decide (z<=P) from rfl),rfl⟩
     ·rw[Z7 h1,Z7 h2,Z7 F,Z7 J,Z8 L];exact qzz 0 [] 1 (λq=>_/\_/\_/\_/\_/\q) [.b Y0,.b Y0,.b Y0,.b Y0,.b Y1] ⟨Z7 h1,Z7 h2,Z7 F,Z7 J,Z8 L,rfl⟩
    ·rw[Z7 h1,Z7 h2,Z7 F,Z8 J];exact qzz 0 [] 1 (λq=>_/\_/\_/\_/\q) [.b Y0,.b Y0,.b Y0,.b Y1] ⟨Z7 h1,Z7 h2,Z7 F,Z8 J,rfl⟩
   ·rw[Z7 h1,Z7 h2,Z8 F];exact qzz 0 [] 1 (λq=>_/\_/\_/\q) [.b Y0,.b Y0,.b Y1] ⟨Z7 h1,Z7 h2,Z8 F,rfl⟩
  ·rw[Z7 h1,Z8 h2];exact qzz 0 [] 1 (λq=>_/\_/\q) [.b Y0,.b Y1] ⟨Z7 h1,Z8 h2,rfl⟩
 ·rw[Z8 h1];exact qzz 0 [] 1 (λq=>_/\q) [.b Y1] ⟨Z8 h1,rfl⟩
noncomputable abbrev mvD:D:=.tup [.tup [.int 0,.int 0],.tup [.int 1,.int 0],.tup [.int (-1),.int 0],.tup [.int 0,.int 1],.tup [.int 0,.int (-1)]]
noncomputable abbrev clB:List M.S:=[.set (.var 3) (.bin .Sub (.var 3) (.idx (.idx (.glo "MOVES" mvD) (.var 5)) (.lit (.int 0)))),.set (.var 4) (.bin .Sub (.var 4) (.idx (.idx (.glo "MOVES" mvD) (.var 5)) (.lit (.int 1)))),.ite (.not (.call 13 [.var 0,.tup [.var 3,.var 4,.lit (.int 0)]])) [.ret (.lit .non)] []]
def clb_ok(m)(st)(h1:0<=s)(Z:s<=4)(u v):(∃O L,(RL (callD fns (m+1))).ex [Y2 (szD W H P),Y2 u,Y2 v,Y2 (.int x),Y2 (.int y),Y2 (.int s)] st clB=Y2 (.nx [Y2 (szD W H P),Y2 u,Y2 v,Y2 (.int O),Y2 (.int L),Y2 (.int s)],st))\/(RL (callD fns (m+1))).ex [Y2 (szD W H P),Y2 u,Y2 v,Y2 (.int x),Y2 (.int y),Y2 (.int s)] st clB=Y2 (.rt .non,st):=by
 have z:∀(s dx F:Int),atI [D.tup [.int 0,.int 0],.tup [.int 1,.int 0],.tup [.int (-1),.int 0],.tup [.int 0,.int 1],.tup [.int 0,.int (-1)]] s=Y2 (.tup [.int dx,.int F])->(∃O L,(RL (callD fns (m+1))).ex [Y2 (szD W H P),Y2 u,Y2 v,Y2 (.int x),Y2 (.int y),Y2 (.int s)] st clB=Y2 (.nx [Y2 (szD W H P),Y2 u,Y2 v,Y2 (.int O),Y2 (.int L),Y2 (.int s)],st))\/(RL (callD fns (m+1))).ex [Y2 (szD W H P),Y2 u,Y2 v,Y2 (.int x),Y2 (.int y),Y2 (.int s)] st clB=Y2 (.rt .non,st):=λs dx F hi=>by
  have hi:=hi;have J:=qir m st W H P (x - dx) (y - F) 0
  cases U:ing W H P (x - dx) (y - F) 0 with
  |true=>
   rw[U]at J;exact .inl ⟨x - dx,y - F,qzc 0 [13] 1 (λq=>_/\_/\_/\q) [.i (.tup [.int dx,.int F]),.n,.i (.tup [.int dx,.int F]),.n,.c (.bl Y0,st)] ⟨hi,hi,J,rfl⟩⟩
  |false=>
   rw[U]at J;exact .inr (qzc 0 [13] 1 (λq=>_/\_/\_/\q) [.i (.tup [.int dx,.int F]),.n,.i (.tup [.int dx,.int F]),.n,.c (.bl Y1,st)] ⟨hi,hi,J,rfl⟩)
 have Y:s=0\/s=1\/s=2\/s=3\/s=4:=by lia
 rcases Y with rfl|rfl|rfl|rfl|rfl
 ·exact z 0 0 0 rfl
 ·exact z 1 1 0 rfl
 ·exact z 2 (-1) 0 rfl
 ·exact z 3 0 1 rfl
 ·exact z 4 0 (-1) rfl
noncomputable def cO:Option (Int×Int)->D
 |some p=>cD p
 |none=>.non
def qht(m)(st){J:List Int}(hs:∀s∈J,0<=s/\s<=4):∃o:Option (Int×Int),callD fns (m+2) 28 [szD W H P,.tup (J.map .int),.tup [.int x,.int y,.int z]] st=Y2 (cO o,st):=by
 have Y:(RL (callD fns (m+1))).ev [Y2 (szD W H P),Y2 (.tup (J.map .int)),Y2 (.tup [.int x,.int y,.int z]),Y2 (.int x),Y2 (.int y),Y3] st (.sli (.var 1) Y3 (Y2 (.idx (.var 2) (.lit (.int 2)))))=Y2 (.tup (cut (J.map .int) Y3 (Y2 z)),st):=qzf 0 [] 1 (λq=>q) [] rfl;generalize a0:cut (J.map D.int) Y3 (Y2 z)=Z at Y;have hm:∀q∈Z,∃s,q=.int s/\0<=s/\s<=4:=λq U=>by
  rw[<- a0]at U;unfold cut at U;obtain⟨s,h1,rfl⟩:=Qqw.mp (Qjg (Qxr U));exact⟨s,rfl,hs s h1⟩
 rcases qi1 (it:=.rev (.sli (.var 1) Y3 (Y2 (.idx (.var 2) (.lit (.int 2)))))) (t:=.var 5)
  (λk F st'=>∃O L a,F=[Y2 (szD W H P),Y2 (.tup (J.map .int)),Y2 (.tup [.int x,.int y,.int z]),Y2 (.int O),Y2 (.int L),a]/\st'=st) (λv st'=>v=.non/\st'=st)
  (by show((RL (callD fns (m+1))).ev _ _ _).bind _=_; rw[Y]; rfl) (by rw[List.length_reverse]; rfl) (λk F st' _=>by
   show Y2 (if k<Z.length then Z[Z.length - 1 - k]? else Y3)=_
   by_cases hk:k<Z.length
   ·rw[Xq hk,List.getElem?_reverse hk]
   ·rw[Z9 hk,Qzg (by rw[List.length_reverse]; lia)]) ⟨_,_,_,rfl,rfl⟩ (λk F st' q U h=>by
   obtain⟨O,L,a,rfl,rfl⟩:=h;obtain⟨s,rfl,h1,h2⟩:=hm q (List.mem_reverse.mp (Qqm U));rcases clb_ok m st' h1 h2 (.tup (J.map .int)) (.tup [.int x,.int y,.int z]) with⟨x2,y2,e⟩|e
   ·exact .inl ⟨_,_,e,x2,y2,_,rfl,rfl⟩
   ·exact .inr ⟨_,_,e,rfl,rfl⟩) with⟨F,st',e,O,L,a,rfl,rfl⟩|⟨v,st',e,rfl,rfl⟩
 ·exact⟨Y2 (O,L),qzz 0 [] 2 (λq=>_/\q) [.n,.n,.s (.nx [Y2 (szD W H P),Y2 (.tup (J.map .int)),Y2 (.tup [.int x,.int y,.int z]),Y2 (.int O),Y2 (.int L),a],st')] ⟨e,rfl⟩⟩
 ·exact⟨Y3,qzz 0 [] 2 (λq=>_/\q) [.n,.n,.s (.rt .non,st')] ⟨e,rfl⟩⟩
theorem qei{g:D->Option D}{Q:Int->Prop}:∀{ds:List D},(∀d∈ds,∀x,g d=Y2 x->∃i,x=.int i/\Q i)->∃ys:List Int,ds.filterMap g=ys.map .int/\ys.length<=ds.length/\∀y∈ys,Q y
 |[],_=>⟨[],rfl,Qqj _,Qqr _⟩
 |d::r,h=>by
  obtain⟨ys,e,l,q⟩:=qei λx F=>h x (.tail _ F);rw[Qz3,e]
  cases J:g d with
  |none=>exact⟨ys,rfl,Qxc l,q⟩
  |some x=>
   obtain⟨i,rfl,hi⟩:=h d (.head _) x J
   exact⟨i::ys,rfl,Nat.succ_le_succ l,λy z=>by
    rcases Qqa.mp z with rfl|z
    ·exact hi
    ·exact q y z⟩
def VsOk(vs:List (Int×D×List (Int×Int))):Prop:=∀v∈vs,(∃ss:List Int,v.2.1=.tup (ss.map .int)/\∀s∈ss,0<=s/\s<=4)/\v.2.2.length<=16
noncomputable def enW(w:D):D->Option D
 |.tup [.int i,x]=>if eqT x w then Y2 (.int i) else Y3
 |_=>Y3
noncomputable def ltW(n:Nat):D->Option D
 |.int i=>if decide (i<(n:Int)) then Y2 (.int i) else Y3
 |_=>Y3
section
variable {W H P:Int}{dg:List (List Int×D)}{en:List D}{T d:Int}{jo:List (D×D)}{ro:List Int}{rest:Yo}{cs:List Cl}{vs:List (Int×D×List (Int×Int))}
def qyt(m)(z:(vs.map (·.1)).Nodup)(F:v∈vs):callD fns (m+1) 56 [.loc 0,.int v.1] (FC sz T d (voD vs) jo cs ro rest)=Y2 (.tup [v.2.1,.tup (v.2.2.map cD)],FC sz T d (voD vs) jo cs ro rest):=by
 have h:=qys F z;exact qzz 8 [] 1 (λq=>_/\_/\q) [.q (Y2 (.tup [v.2.1,.tup (v.2.2.map cD)])),.q (Y2 (.tup [v.2.1,.tup (v.2.2.map cD)]))] ⟨h,h,rfl⟩
def qha(m)(z:(vs.map (·.1)).Nodup)(F:v∈vs):callD fns (m+1) 57 [.loc 0,.int v.1] (FC sz T d (voD vs) jo cs ro rest)=Y2 ((dget jo (.int v.1)).getD .non,FC sz T d (voD vs) jo cs ro rest):=by
 have h:=qys F z;exact qzz 8 [] 1 (λq=>_/\_/\q) [.q (Y2 (.tup [v.2.1,.tup (v.2.2.map cD)])),.q (dget jo (.int v.1))] ⟨h,(show dget jo (.int v.1)=dget jo (.int v.1) from rfl),rfl⟩
def met_ok(m)(a0:(vs.map (·.1)).Nodup)(hv:v∈vs)(hV:VsOk vs)(hk:rest[j]?=Y2 (.dic Y0 kvs))(hj:dget jo (.int v.1)=Y3\/∃b f l xs,dget jo (.int v.1)=Y2 (.tup [.int b,.int f])/\dget kvs (.int b)=Y2 (.loc (l+8))/\rest[l]?=Y2 (.lst Y0 ((xs:List Int).map .int))/\xs.length<=16/\∀x∈xs,0<=x):
  ∃ys:List Int,callD fns (m+3) 29 [.loc 0,.int v.1,.tup [.int x,.int y,.int z],.loc (j+8)] (FC ⟨szD W H P,dg,en⟩ T d (voD vs) jo cs ro rest)=Y2 (.loc (FC ⟨szD W H P,dg,en⟩ T d (voD vs) jo cs ro rest).length,FC ⟨szD W H P,dg,en⟩ T d (voD vs) jo cs ro rest++[.lst Y0 (ys.map .int)])/\ys.length<=16/\∀y∈ys,0<=y/\y<(v.2.2.length:Int):=by
 have Z:=qyt (m+1) (T:=T) (d:=d) (jo:=jo) (cs:=cs) (ro:=ro) (rest:=rest) a0 hv (sz:=⟨szD W H P,dg,en⟩);have J:=qha (m+1) (T:=T) (d:=d) (jo:=jo) (cs:=cs) (ro:=ro) (rest:=rest) a0 hv (sz:=⟨szD W H P,dg,en⟩);obtain⟨⟨ss,es,a4⟩,a7⟩:=hV v hv;obtain⟨o,hc⟩:=qht m (FC ⟨szD W H P,dg,en⟩ T d (voD vs) jo cs ro rest) (W:=W) (H:=H) (P:=P) (x:=x) (y:=y) (z:=z) a4;generalize hw:cO o=w at hc;have a3:∀p:Int×Int,∀S:Yo,∀n:Nat,(RL (callD fns (m+2))).tst [Y2 (.int n),Y2 (cD p),Y2 w] S (.cmp .Eq (.var 1) (.var 2))=Y2 (eqT (cD p) w,S):=λp S n=>by
  subst hw
  cases o with
  |none=>exact qzi 0 [] 2 (λq=>q) [] rfl
  |some q=>exact qzi 0 [] 2 (λq=>q) [] rfl
 generalize hS:FC ⟨szD W H P,dg,en⟩ T d (voD vs) jo cs ro rest=S at Z J hc;have own:∀L:D,∃ys:List Int,stepEv (RL (callD fns (m+2))) [Y2 (.loc 0),Y2 (.int v.1),Y2 (.tup [.int x,.int y,.int z]),Y2 (.loc (j+8)),Y2 (.tup [v.2.1,.tup (v.2.2.map cD)]),Y2 L,Y2 w] S (.comp (.tup [0,1]) (.enu (.idx (.var 4) (.lit (.int 1)))) (Y2 (.cmp .Eq (.var 1) (.var 2))) (.var 0) [Y3,Y3,Y2 6])=Y2 (.loc S.length,S++[.lst Y0 (ys.map .int)])/\ys.length<=16/\∀y∈ys,0<=y/\y<(v.2.2.length:Int):=λL=>by
  have Y:(RL (callD fns (m+2))).ev [Y2 (.loc 0),Y2 (.int v.1),Y2 (.tup [.int x,.int y,.int z]),Y2 (.loc (j+8)),Y2 (.tup [v.2.1,.tup (v.2.2.map cD)]),Y2 L,Y2 w] S (.idx (.var 4) (.lit (.int 1)))=Y2 (.tup (v.2.2.map cD),S):=qzf 0 [] 2 (λq=>q) [] rfl;have a6:∀i:Nat,((v.2.2.zipIdx.map λp=>D.tup [.int (p.2:Int),cD p.1])[i]?)=((v.2.2.map cD)[i]?).map λx=>D.tup [.int i,x]:=λi=>by
   rw[Qqv,List.getElem?_zipIdx,Qqv]
   cases v.2.2[i]? with
   |none=>rfl
   |some p=>show Y2 (D.tup [.int ((0+i:Nat):Int),cD p])=_; rw[Qx3]; rfl
  have h:=qqg (t:=.tup [0,1]) (it:=.enu (.idx (.var 4) (.lit (.int 1)))) (elt:=.var 0) (sr:=[Y3,Y3,Y2 6]) (enW w) (λτ=>∃a b,τ=[a,b,Y2 w])
   (by show((RL (callD fns (m+2))).ev _ _ _).bind _=_; rw[Y]; rfl) (λi=>by rw[a6]; rfl) (by rw[Qqz,Qjn]; show(v.2.2.map cD).length=_; rw[Qqz]) (by rw[Qqz,Qjn]; unfold lim; lia) ⟨Y3,Y3,rfl⟩ (λτ x hx O=>by
    obtain⟨a,b,rfl⟩:=O;obtain⟨p,hp,rfl⟩:=Qqw.mp hx
    exact⟨[Y2 (.int (p.2:Int)),Y2 (cD p.1),Y2 w],turn_if rfl (a3 p.1 S p.2) λ_=>qqo _ _ _ _ _ rfl,_,_,rfl⟩)
  obtain⟨ys,e,l,q⟩:=qei (g:=enW w) (Q:=λy=>0<=y/\y<(v.2.2.length:Int)) (ds:=v.2.2.zipIdx.map λp=>D.tup [.int (p.2:Int),cD p.1]) (λx hx u F=>by
   obtain⟨p,hp,rfl⟩:=Qqw.mp hx;have hi:=List.snd_lt_of_mem_zipIdx hp;have F:(if eqT (cD p.1) w then Y2 (D.int (p.2:Int)) else Y3)=Y2 u:=F
   split at F
   ·cases F; exact⟨_,rfl,by lia,by lia⟩
   ·cases F)
  rw[e]at h;rw[Qqz,Qjn]at l;exact⟨ys,h,by lia,q⟩
 have a1:∀L:D,callD fns (m+2) 57 [.loc 0,.int v.1] S=Y2 (L,S)->(isNon L=Y0\/∃b f,L=.tup [.int b,.int f]/\¬ f<=z)->∃ys:List Int,callD fns (m+3) 29 [.loc 0,.int v.1,.tup [.int x,.int y,.int z],.loc (j+8)] S=Y2 (.loc S.length,S++[.lst Y0 (ys.map .int)])/\ys.length<=16/\∀y∈ys,0<=y/\y<(v.2.2.length:Int):=λL h1 h2=>by
  obtain⟨ys,e,l,q⟩:=own L;refine⟨ys,?_,l,q⟩;subst hS;rcases h2 with h2|⟨b,f,rfl,h2⟩
  ·rw[es]at Z e;exact qzz 8 [56,57,28] 3 (λq=>_/\_/\_/\_/\_/\q) [.c (.tup [.tup (ss.map .int),.tup (v.2.2.map cD)],FC ⟨szD W H P,dg,en⟩ T d (voD vs) jo cs ro rest),.c (L,FC ⟨szD W H P,dg,en⟩ T d (voD vs) jo cs ro rest),.b Y1,.c (w,FC ⟨szD W H P,dg,en⟩ T d (voD vs) jo cs ro rest),.c (.loc (FC ⟨szD W H P,dg,en⟩ T d (voD vs) jo cs ro rest).length,FC ⟨szD W H P,dg,en⟩ T d (voD vs) jo cs ro rest++[.lst Y0 (ys.map .int)])] ⟨Z,h1,(show(!isNon L)=Y1 by rw[h2]; rfl),hc,e,rfl⟩
  ·rw[es]at Z e;exact qzz 8 [56,57,28] 3 (λq=>_/\_/\_/\_/\_/\q) [.c (.tup [.tup (ss.map .int),.tup (v.2.2.map cD)],FC ⟨szD W H P,dg,en⟩ T d (voD vs) jo cs ro rest),.c (.tup [.int b,.int f],FC ⟨szD W H P,dg,en⟩ T d (voD vs) jo cs ro rest),.k,.b Y1,.c (w,FC ⟨szD W H P,dg,en⟩ T d (voD vs) jo cs ro rest),.c (.loc (FC ⟨szD W H P,dg,en⟩ T d (voD vs) jo cs ro rest).length,FC ⟨szD W H P,dg,en⟩ T d (voD vs) jo cs ro rest++[.lst Y0 (ys.map .int)])] ⟨Z,h1,Z8 h2,hc,e,rfl⟩
 rcases hj with hj|⟨b,f,l,xs,hj,hb,hl,a8,a2⟩
 ·rw[hj]at J;exact a1 .non J (.inl rfl)
 ·rw[hj]at J
  by_cases hf:f<=z
  ·have U:listAt S (l+8)=Y2 (xs.map .int):=by
    subst hS;unfold listAt;have:(FC ⟨szD W H P,dg,en⟩ T d (voD vs) jo cs ro rest)[l+8]?=rest[l]?:=rfl;rw[this,hl]
   have Y:(RL (callD fns (m+2))).ev [Y2 (.loc 0),Y2 (.int v.1),Y2 (.tup [.int x,.int y,.int z]),Y2 (.loc (j+8)),Y2 (.tup [v.2.1,.tup (v.2.2.map cD)]),Y2 (.tup [.int b,.int f]),Y3] S (.didx (.var 3) (.idx (.var 5) (.lit (.int 0))))=Y2 (.loc (l+8),S):=by
    subst hS;exact qzf 8 [] 2 (λq=>_/\_/\q) [.r (.dic Y0 kvs),.q (Y2 (.loc (l+8)))] ⟨hk,hb,rfl⟩
   have h:=qqg (t:=.var 0) (it:=.didx (.var 3) (.idx (.var 5) (.lit (.int 0)))) (test:=Y2 (.cmp .Lt (.var 0) (.bcall .len [.idx (.var 1) (.lit (.int 1))]))) (elt:=.var 0) (sr:=[Y3,Y2 4]) (s:=.lst (.loc (l+8))) (ltW (v.2.2.map cD).length) (λτ=>∃a,τ=[a,Y2 (.tup [v.2.1,.tup (v.2.2.map cD)])])
    (by show((RL (callD fns (m+2))).ev _ _ _).bind _=_; rw[Y]; show(listAt S (l+8)).map _=_; rw[U]; rfl) (qqu U) (qzt U) (by rw[Qqz]; unfold lim; lia) ⟨Y3,rfl⟩ (λτ u F O=>by
     obtain⟨a,rfl⟩:=O;obtain⟨i,hi,rfl⟩:=Qqw.mp F
     exact⟨[Y2 (.int i),Y2 (.tup [v.2.1,.tup (v.2.2.map cD)])],turn_if rfl (qzi 0 [] 2 (λq=>_/\q) [.b (decide (i<((v.2.2.map cD).length:Int)))] ⟨(show decide (i<((v.2.2.map cD).length:Int))=decide (i<((v.2.2.map cD).length:Int)) from rfl),rfl⟩) λ_=>qqo _ _ _ _ _ rfl,_,rfl⟩)
   obtain⟨ys,e,le,q⟩:=qei (g:=ltW (v.2.2.map cD).length) (Q:=λy=>0<=y/\y<(v.2.2.length:Int)) (ds:=xs.map .int) (λx hx u F=>by
    obtain⟨i,hi,rfl⟩:=Qqw.mp hx;have F:(if decide (i<((v.2.2.map cD).length:Int)) then Y2 (D.int i) else Y3)=Y2 u:=F
    split at F
    ·rename_i a5;cases F;have:=of_decide_eq_true a5;rw[Qqz]at this;exact⟨_,rfl,a2 i hi,this⟩
    ·cases F)
   rw[e]at h;rw[Qqz]at le;refine⟨ys,?_,by lia,q⟩;subst hS;exact qzz 8 [56,57,28] 3 (λq=>_/\_/\_/\_/\q) [.c (.tup [v.2.1,.tup (v.2.2.map cD)],FC ⟨szD W H P,dg,en⟩ T d (voD vs) jo cs ro rest),.c (.tup [.int b,.int f],FC ⟨szD W H P,dg,en⟩ T d (voD vs) jo cs ro rest),.k,.b Y0,.c (.loc (FC ⟨szD W H P,dg,en⟩ T d (voD vs) jo cs ro rest).length,FC ⟨szD W H P,dg,en⟩ T d (voD vs) jo cs ro rest++[.lst Y0 (ys.map .int)])] ⟨Z,J,Z7 hf,h,rfl⟩
  ·exact a1 _ J (.inr ⟨b,f,rfl,hf⟩)
end
noncomputable def metD:Nat->List Int->List (D×D)
 |_,[]=>[]
 |B,a::r=>(.int a,.loc B)::metD (B+1) r
theorem qaf(a):∀(r:List Int) (B:Nat),metD B (r++[a])=metD B r++[(.int a,.loc (B+r.length))]
 |[],B=>rfl
 |x::r,B=>by
  show(D.int x,D.loc B)::metD (B+1) (r++[a])=_;rw[qaf a r,Qqg,show B+1+r.length=B+(r.length+1) by lia]
  rfl
theorem qyw:∀{r}{B i},r.Nodup->r[i]?=Y2 n->dget (metD B r) (.int n)=Y2 (.loc (B+i))
 |x::r,B,i,hn,hi=>by
  unfold dget;show Option.map _ (match (x==n) with|true=>_|false=>_)=_;rw[Qzv]at hn
  cases i with
  |zero=>cases hi; rw[beq_self_eq_true]; rfl
  |succ i=>
   have hi:=hi;have q:x≠n:=λe=>hn.1 (by rw[e]; exact Qqm hi);rw[beq_false_of_ne q];have:=qyw (B:=B+1) hn.2 hi;rw[show B+1+i=B+(i+1) by lia]at this;exact this
theorem qdt:∀(r:List Int) (B:Nat),(metD B r).length=r.length
 |[],_=>rfl
 |_::r,B=>congrArg (· + 1) (qdt r (B+1))
theorem qdu:∀{r}{B},p∈metD B r->∃x∈r,p.1=.int x
 |a::r,B,h=>by
  rcases Qqa.mp h with rfl|h
  ·exact⟨a,.head _,rfl⟩
  ·obtain⟨x,q,e⟩:=qdu h;exact⟨x,.tail _ q,e⟩
theorem set0{b:Yc}:∀{R},(R++a::b::ls).set R.length a'=R++a'::b::ls
 |[]=>rfl
 |x::r=>congrArg (x::·) (set0)
theorem set1{b:Yc}:∀{R},(R++a::b::ls).set (R.length+1) q=R++a::q::ls
 |[]=>rfl
 |x::r=>congrArg (x::·) (set1)
theorem get0{ls:Yo}(i):∀{R},(R++ls)[R.length+i]?=ls[i]?
 |[]=>by rw[List.nil_append,Qxs,Qx3]
 |x::r=>by
  rw[Qqg,show r.length+1+i=(r.length+i)+1 by lia];exact get0 i
def qno(h:ex[i]?=Y2 (.lst Y0 ds))(q:noLocs ds=Y0):gcD st (.loc (st.length+i),st++ex)=(.lst ds,st):=by
 rw[gc_x (by simp)];unfold gcX;rw[Z9 (by simp[noLoc])];simp only[Qjj,if_true,get0,h,q];simp
def CoI(vs:List (Int×D×List (Int×Int)))(pr:List (Int×Int)):Prop:=∀p∈pr,∃v∈vs,v.1=p.1/\0<=p.2/\p.2<(v.2.2.length:Int)
noncomputable abbrev ysC(ys:List Int):Yc:=.lst Y0 (ys.map .int)
def JoI(vs:List (Int×D×List (Int×Int)))(jo:List (D×D)):Prop:=∀p∈jo,∃a b f:Int,p=(.int a,.tup [.int b,.int f])/\b<a/\b∈vs.map (·.1)
def jo_get(J:JoI vs jo)(h:dget jo (.int a)=Y2 x):∃b f:Int,x=.tup [.int b,.int f]/\b<a/\b∈vs.map (·.1):=by
 unfold dget at h;obtain⟨p,q,rfl⟩:=Qqf.mp h;obtain⟨z,b,f,rfl,h1,h2⟩:=J p (Qxe q);have e:=Qje q;have e:=e;cases beq_iff_eq.mp e;exact⟨b,f,rfl,h1,h2⟩
section
variable {W H P:Int}{dg:List (List Int×D)}{en:List D}{T d:Int}{jo:List (D×D)}{ro:List Int}{rest:Yo}{cs:List Cl}{vs:List (Int×D×List (Int×Int))}
noncomputable abbrev coB:List M.S:=[.dset (.var 2) (.var 4) (.call 29 [.var 0,.var 4,.var 1,.var 2]),.expr (.meth (.var 3) .extend [.gc (.comp (.var 0) (.didx (.var 2) (.var 4)) Y3 (.tup [.var 1,.var 0]) [Y3,Y2 4])])]
def qox(m)(a3:(vs.map (·.1)).Pairwise (· < ·))(c5:vs.length<60)(hV:VsOk vs)(J:JoI vs jo)(b9:ing W H P x y z=Y0):
  ∃ex:Yo,∃L:List (Int×Int),callD fns (m+4) 30 [.loc 0,.tup [.int x,.int y,.int z]] (FC ⟨szD W H P,dg,en⟩ T d (voD vs) jo cs ro rest)=Y2 (.loc ((FC ⟨szD W H P,dg,en⟩ T d (voD vs) jo cs ro rest).length+1),FC ⟨szD W H P,dg,en⟩ T d (voD vs) jo cs ro rest++ex)/\ex[1]?=Y2 (.lst Y0 (L.map cD))/\CoI vs L/\L.length<=16*vs.length:=by
 have a0:(vs.map (·.1)).Nodup:=a3.imp λh=>by lia
 have keys:keysOf (voD vs)=vs.map λv=>D.int v.1:=by unfold keysOf voD; rw[Qq5]; rfl
 have c3:(RL (callD fns (m+3))).ev [Y2 (.loc 0),Y2 (.tup [.int x,.int y,.int z]),Y2 (.loc (rest.length+8)),Y2 (.loc (rest.length+9)),Y3] (FC ⟨szD W H P,dg,en⟩ T d (voD vs) jo cs ro (rest++[.dic Y0 [],.lst Y0 []])) (.gc (.mcall 642 55 "veins" (.var 0) []))=Y2 (.lst (vs.map λv=>D.int v.1),FC ⟨szD W H P,dg,en⟩ T d (voD vs) jo cs ro (rest++[.dic Y0 [],.lst Y0 []])):=by
  have g:=qza (st:=FC ⟨szD W H P,dg,en⟩ T d (voD vs) jo cs ro (rest++[.dic Y0 [],.lst Y0 []])) (ds:=keysOf (voD vs)) (by rw[keys]; exact qzl λ_ _=>rfl);rw[<- keys];exact qzf 8 [] 3 (λq=>_/\q) [.l (keysOf (voD vs))] ⟨g,rfl⟩
 obtain⟨O,st',h1,hk,o,L,F,rfl,rfl,h4,h5,h6,h7⟩:=qqt (st:=FC ⟨szD W H P,dg,en⟩ T d (voD vs) jo cs ro (rest++[.dic Y0 [],.lst Y0 []])) (it:=.gc (.mcall 642 55 "veins" (.var 0) [])) (t:=.var 4) (body:=coB)
  (λk O st'=>k<=vs.length/\∃(o:Option D) (L:List (Int×Int)) (F:List (List Int)),O=[Y2 (.loc 0),Y2 (.tup [.int x,.int y,.int z]),Y2 (.loc (rest.length+8)),Y2 (.loc (rest.length+9)),o]/\st'=FC ⟨szD W H P,dg,en⟩ T d (voD vs) jo cs ro (rest++.dic Y0 (metD (rest.length+10) ((vs.take k).map (·.1)))::.lst Y0 (L.map cD)::F.map ysC)/\F.length=k/\(∀ys∈F,ys.length<=16/\∀u∈ys,0<=u)/\CoI vs L/\L.length<=16*k)
  (by show((RL (callD fns (m+3))).ev _ _ _).bind _=_; rw[c3]; rfl) (qzt rfl) (λk O st' _=>qqu rfl k) ⟨Qzq _,Y3,[],[],rfl,rfl,rfl,Qqr _,Qqr _,Qqj _⟩ (λk O st' q hq h=>by
   obtain⟨hk,o,L,F,rfl,rfl,h4,h5,h6,h7⟩:=h;rw[Qqv]at hq;obtain⟨v,hv,rfl⟩:=Qqf.mp hq;have a9:=(Qqk.mp hv).1;have a4:=Qqm hv;have tk:(vs.take (k+1)).map (·.1)=(vs.take k).map (·.1)++[v.1]:=by rw[Qx6,hv,Qqn]; rfl
   have nk:=(List.Sublist.map (·.1) (Qjp k vs)).nodup a0;have Y:=(List.Sublist.map (·.1) (Qjp (k+1) vs)).nodup a0;generalize a8:(vs.take k).map (·.1)=ns at *;have nl:ns.length=k:=by rw[<- a8,Qqz,Qzz]; lia
   have c2:∀p∈metD (rest.length+10) ns,eqT p.1 (.int v.1)=false:=λp hp=>by
    obtain⟨u,U,e⟩:=qdu hp;rw[tk,Qxd]at Y;rw[e];exact beq_false_of_ne (Y.2.2 u U v.1 (Qqy.mpr rfl))
   have a5:dput (metD (rest.length+10) ns) (.int v.1) (.loc ((rest.length+10)+k))=metD (rest.length+10) (ns++[v.1]):=by
    rw[qkt c2,qaf,nl]
   obtain⟨ys,hm,m1,m2⟩:=met_ok m (rest:=rest++.dic Y0 (metD (rest.length+10) ns)::.lst Y0 (L.map cD)::F.map ysC) (W:=W) (H:=H) (P:=P) (dg:=dg) (en:=en) (T:=T) (d:=d) (cs:=cs) (ro:=ro) (x:=x) (y:=y) (z:=z) a0 a4 hV (get0 0) (by
    cases hj:dget jo (.int v.1) with
    |none=>exact .inl rfl
    |some u=>
     obtain⟨b,f,rfl,hb,c4⟩:=jo_get J hj;obtain⟨vb,b8,rfl⟩:=Qqw.mp c4;obtain⟨i,hi⟩:=List.mem_iff_getElem?.mp b8;have c0:=(Qqk.mp hi).1;have c1:i<k:=by
      by_cases c:i<k
      ·exact c
      ·exfalso;have b6:(vs.map (·.1))[k]?=Y2 v.1:=by rw[Qqv,hv]; rfl
       have b7:(vs.map (·.1))[i]?=Y2 vb.1:=by rw[Qqv,hi]; rfl
       obtain⟨_,e1⟩:=Qqk.mp b6;obtain⟨_,e2⟩:=Qqk.mp b7
       by_cases e:i=k
       ·subst e; rw[e1]at e2; lia
       ·have:=Qxt.mp a3 k i (by simpa using a9) (by simpa using c0) (by lia);rw[e1,e2]at this
        lia
     have a7:ns[i]?=Y2 vb.1:=by rw[<- a8,Qqv,Qj2 c1,hi]; rfl
     have a2:i<F.length:=by lia
     refine .inr ⟨vb.1,f,rest.length+2+i,F[i],rfl,?_,?_,h5 _ (Qxp a2)⟩
     ·rw[qyw nk a7,show rest.length+10+i=rest.length+2+i+8 by lia]
     ·rw[show rest.length+2+i=rest.length+(i+2) by lia,get0];show(F.map ysC)[i]?=_;rw[Qqv,Qql a2]
      rfl)
   generalize hX:rest++.dic Y0 (metD (rest.length+10) ns)::.lst Y0 (L.map cD)::F.map ysC=X at *;have c6:X.length=rest.length+2+k:=by rw[<- hX]; simp[h4]; lia
   have eL:(FC ⟨szD W H P,dg,en⟩ T d (voD vs) jo cs ro X).length=rest.length+10+k:=by rw[qeg]; lia
   have eY:(X++[ysC ys]).set rest.length (.dic Y0 (dput (metD (rest.length+10) ns) (.int v.1) (.loc (FC ⟨szD W H P,dg,en⟩ T d (voD vs) jo cs ro X).length)))=rest++.dic Y0 (metD (rest.length+10) (ns++[v.1]))::.lst Y0 (L.map cD)::(F++[ys]).map ysC:=by
    rw[eL,a5,<- hX,Qzj];show(rest++.dic Y0 (metD (rest.length+10) ns)::.lst Y0 (L.map cD)::(F.map ysC++[ysC ys])).set _ _=_;rw[set0,Qqn]
    rfl
   have r0:(X++[ysC ys])[rest.length]?=Y2 (.dic Y0 (metD (rest.length+10) ns)):=by rw[<- hX,Qzj]; exact get0 0
   have r1:((X++[ysC ys]).set rest.length (.dic Y0 (dput (metD (rest.length+10) ns) (.int v.1) (.loc (FC ⟨szD W H P,dg,en⟩ T d (voD vs) jo cs ro X).length))))[rest.length+1]?=Y2 (.lst Y0 (L.map cD)):=by rw[eY]; exact get0 1
   have eF:FC ⟨szD W H P,dg,en⟩ T d (voD vs) jo cs ro ((X++[ysC ys]).set rest.length (.dic Y0 (dput (metD (rest.length+10) ns) (.int v.1) (.loc (FC ⟨szD W H P,dg,en⟩ T d (voD vs) jo cs ro X).length))))=FC ⟨szD W H P,dg,en⟩ T d (voD vs) jo cs ro (rest++.dic Y0 (metD (rest.length+10) (ns++[v.1]))::.lst Y0 (L.map cD)::(F++[ys]).map ysC):=by rw[eY]
   have a6:(ns++[v.1])[k]?=Y2 v.1:=by rw[<- nl]; simp
   have hq:=qyw (B:=rest.length+10) (tk▸Y) a6;have b3:(RL (callD fns (m+3))).ev [Y2 (.loc 0),Y2 (.tup [.int x,.int y,.int z]),Y2 (.loc (rest.length+8)),Y2 (.loc (rest.length+9)),Y2 (.int v.1)] (FC ⟨szD W H P,dg,en⟩ T d (voD vs) jo cs ro (rest++.dic Y0 (metD (rest.length+10) (ns++[v.1]))::.lst Y0 (L.map cD)::(F++[ys]).map ysC)) (.didx (.var 2) (.var 4))=Y2 (.loc (rest.length+10+k),FC ⟨szD W H P,dg,en⟩ T d (voD vs) jo cs ro (rest++.dic Y0 (metD (rest.length+10) (ns++[v.1]))::.lst Y0 (L.map cD)::(F++[ys]).map ysC)):=by
    have g:=get0 (R:=rest) (ls:=.dic Y0 (metD (rest.length+10) (ns++[v.1]))::.lst Y0 (L.map cD)::(F++[ys]).map ysC) 0;generalize rest++.dic Y0 (metD (rest.length+10) (ns++[v.1]))::.lst Y0 (L.map cD)::(F++[ys]).map ysC=Z at g ⊢;exact qzf 8 [] 3 (λq=>_/\_/\q) [.r (.dic Y0 (metD (rest.length+10) (ns++[v.1]))),.q (Y2 (.loc (rest.length+10+k)))] ⟨g,hq,rfl⟩
   have a1:listAt (FC ⟨szD W H P,dg,en⟩ T d (voD vs) jo cs ro (rest++.dic Y0 (metD (rest.length+10) (ns++[v.1]))::.lst Y0 (L.map cD)::(F++[ys]).map ysC)) (rest.length+10+k)=Y2 (ys.map .int):=by
    unfold listAt;rw[show rest.length+10+k=rest.length+(k+2)+8 by lia];show(match (rest++.dic Y0 (metD (rest.length+10) (ns++[v.1]))::.lst Y0 (L.map cD)::(F++[ys]).map ysC)[rest.length+(k+2)]? with|some (.lst _ ds)=>Y2 ds|_=>Y3)=_;rw[get0];rw[<- h4];simp
   have b4:=qqg (t:=.var 0) (it:=.didx (.var 2) (.var 4)) (elt:=.tup [.var 1,.var 0]) (sr:=[Y3,Y2 4]) (s:=.lst (.loc (rest.length+10+k))) (λu=>Y2 (.tup [.int v.1,u])) (λτ=>∃a,τ=[a,Y2 (.int v.1)])
    (by show((RL (callD fns (m+3))).ev _ _ _).bind _=_; rw[b3]; show(listAt _ _).map _=_; rw[a1]; rfl) (qqu a1) (qzt a1) (by rw[Qqz]; unfold lim; lia) ⟨Y3,rfl⟩ (λτ u U b5=>by
     obtain⟨a,rfl⟩:=b5;obtain⟨i,hi,rfl⟩:=Qqw.mp U
     exact⟨[Y2 (.int i),Y2 (.int v.1)],qk3 rfl (qzf 0 [] 3 (λq=>q) [] rfl),_,rfl⟩)
   have ef:(ys.map D.int).filterMap (λu=>Y2 (D.tup [.int v.1,u]))=(ys.map λi=>(v.1,i)).map cD:=by
    rw[Qx0,Qq5];exact Qja▸rfl
   rw[ef,<- eF]at b4;have g2:=qza (st:=FC ⟨szD W H P,dg,en⟩ T d (voD vs) jo cs ro ((X++[ysC ys]).set rest.length (.dic Y0 (dput (metD (rest.length+10) ns) (.int v.1) (.loc (FC ⟨szD W H P,dg,en⟩ T d (voD vs) jo cs ro X).length))))) (ds:=(ys.map λi=>(v.1,i)).map cD) (qzl λ_ _=>rfl);have b1:decide ((metD (rest.length+10) ns).length<lim)=true:=Z7 (by rw[qdt,nl]; unfold lim; lia);have b2:decide ((L.map cD).length+((ys.map λi=>(v.1,i)).map cD).length<=lim)=true:=Z7 (by simp only[Qqz]; unfold lim; lia)
   refine⟨_,_,qzc 8 [29] 3 (λq=>_/\_/\_/\_/\_/\_/\_/\_/\q) [.c (.loc (FC ⟨szD W H P,dg,en⟩ T d (voD vs) jo cs ro X).length,FC ⟨szD W H P,dg,en⟩ T d (voD vs) jo cs ro X++[ysC ys]),.r (.dic Y0 (metD (rest.length+10) ns)),.b Y0,.r (.lst Y0 (L.map cD)),.c (.loc (FC ⟨szD W H P,dg,en⟩ T d (voD vs) jo cs ro ((X++[ysC ys]).set rest.length (.dic Y0 (dput (metD (rest.length+10) ns) (.int v.1) (.loc (FC ⟨szD W H P,dg,en⟩ T d (voD vs) jo cs ro X).length))))).length,FC ⟨szD W H P,dg,en⟩ T d (voD vs) jo cs ro ((X++[ysC ys]).set rest.length (.dic Y0 (dput (metD (rest.length+10) ns) (.int v.1) (.loc (FC ⟨szD W H P,dg,en⟩ T d (voD vs) jo cs ro X).length))))++[.lst Y0 ((ys.map λi=>(v.1,i)).map cD)]),.l ((ys.map λi=>(v.1,i)).map cD),.r (.lst Y0 (L.map cD)),.b Y0]
    (r:=(.nx [Y2 (.loc 0),Y2 (.tup [.int x,.int y,.int z]),Y2 (.loc (rest.length+8)),Y2 (.loc (rest.length+9)),Y2 (.int v.1)],FC ⟨szD W H P,dg,en⟩ T d (voD vs) jo cs ro (((X++[ysC ys]).set rest.length (.dic Y0 (dput (metD (rest.length+10) ns) (.int v.1) (.loc (FC ⟨szD W H P,dg,en⟩ T d (voD vs) jo cs ro X).length)))).set (rest.length+1) (.lst Y0 (L.map cD++(ys.map λi=>(v.1,i)).map cD))))) ⟨hm,r0,b1,r1,b4,g2,r1,b2,rfl⟩,a9,Y2 (.int v.1),L++ys.map (λi=>(v.1,i)),F++[ys],rfl,?_,by simp[h4],?_,?_,?_⟩
   ·rw[eY,set1,tk,<- Qqn]
   ·intro u U;rcases Qqh.mp U with U|U
    ·exact h5 u U
    ·cases Qqy.mp U; exact⟨m1,λi hi=>(m2 i hi).1⟩
   ·intro p hp;rcases Qqh.mp hp with hp|hp
    ·exact h6 p hp
    ·obtain⟨i,hi,rfl⟩:=Qqw.mp hp;exact⟨v,a4,rfl,m2 i hi⟩
   ·rw[Qqi,Qqz]; lia)
 rw[Qqz,Qzu]at h1;rw[Qqz]at h7;have b0:=qir (m+2) (FC ⟨szD W H P,dg,en⟩ T d (voD vs) jo cs ro rest) W H P x y z;rw[b9]at b0;refine⟨.dic Y0 (metD (rest.length+10) (vs.map (·.1)))::.lst Y0 (L.map cD)::F.map ysC,L,?_,rfl,h6,h7⟩;have e0:(rest++[Yc.dic Y0 []]).set rest.length (.dic Y0 (dall []))=rest++[.dic Y0 []]:=sl;have h2:stepEx (RL (callD fns (m+3))) [Y2 (.loc 0),Y2 (.tup [.int x,.int y,.int z]),Y2 (.loc (rest.length+8)),Y2 (.loc (((rest++[Yc.dic Y0 []]).set rest.length (.dic Y0 (dall []))).length+8)),Y3] (FC ⟨szD W H P,dg,en⟩ T d (voD vs) jo cs ro ((rest++[Yc.dic Y0 []]).set rest.length (.dic Y0 (dall []))++[.lst Y0 []])) (.forr (.var 4) (.gc (.mcall 642 55 "veins" (.var 0) [])) coB)=Y2 (.nx [Y2 (.loc 0),Y2 (.tup [.int x,.int y,.int z]),Y2 (.loc (rest.length+8)),Y2 (.loc (rest.length+9)),o],FC ⟨szD W H P,dg,en⟩ T d (voD vs) jo cs ro (rest++.dic Y0 (metD (rest.length+10) (vs.map (·.1)))::.lst Y0 (L.map cD)::F.map ysC)):=by
  rw[e0,Qzj,Qqi];exact h1
 exact qzz 8 [13] 4 (λq=>_/\_/\_/\q) [.c (.bl Y0,FC ⟨szD W H P,dg,en⟩ T d (voD vs) jo cs ro rest),.r (.dic Y0 []),.s (.nx [Y2 (.loc 0),Y2 (.tup [.int x,.int y,.int z]),Y2 (.loc (rest.length+8)),Y2 (.loc (rest.length+9)),o],FC ⟨szD W H P,dg,en⟩ T d (voD vs) jo cs ro (rest++.dic Y0 (metD (rest.length+10) (vs.map (·.1)))::.lst Y0 (L.map cD)::F.map ysC))] ⟨b0,gl (st:=rest) (c:=.dic Y0 []),h2,rfl⟩
end
noncomputable def hiD(p:Int×String):D:=.tup [.int p.1,sO p.2]
def nl_h(a:List (Int×String)):noLocs (a.map hiD)=true:=qzl λ_ _=>rfl
def cov_ok(m)(st)(g)(x y z):callD fns (m+2) 34 [rD g,.tup [.int x,.int y,.int z]] st=Y2 (.bl (inB g (x,y)),st):=
 qzz 0 [9] 2 (λq=>_/\q) [.c (.bl (inB g (x,y)),st)] ⟨qj6 m st g (x,y),rfl⟩
noncomputable abbrev rkB:List M.S:=[.ite (.call 10 [.var 6,.var 1]) [.expr (.meth (.var 3) .append [.tup [.var 5,.lit (sO "dip")]])] [.ite (.call 34 [.var 6,.var 2]) [.expr (.meth (.var 4) .append [.tup [.var 5,.lit (sO "ground")]])] []]]
noncomputable abbrev rkS(st:Yo)(a b:List (Int×String)):Yo:=st++[.lst Y0 (a.map hiD)]++[.lst Y0 (b.map hiD)]
def ap1{q:Yc}:(st++[a]++[b]).set st.length q=st++[q]++[b]:=by
 rw[Qzj,Qzj];exact set0
def qc5(m)(st){cs:List Cl}(hg:∀c∈L,c∈cs)(a2:L.length<1000){ps:List (Int×Int)}(a1:ps.length<lim)(x y z):∃a b:List (Int×String),callD fns (m+3) 36 [.lst (sgD L),.lst (ps.map cD),.tup [.int x,.int y,.int z]] st=Y2 (.loc (rkS st a b).length,rkS st a b++[.lst Y0 (a.map hiD++b.map hiD)])/\(∀p∈a++b,∃c∈cs,c.nm=p.1):=by
 obtain⟨O,st',h1,hk,u,v,a,b,rfl,rfl,h2,U⟩:=qa0 (c:=callD fns (m+2)) (i:=0) (t:=.tup [5,6]) (body:=rkB)
  (λk O st'=>k<=L.length/\∃(u v:Option D) (a b:List (Int×String)),O=[Y2 (.lst (sgD L)),Y2 (.lst (ps.map cD)),Y2 (.tup [.int x,.int y,.int z]),Y2 (.loc st.length),Y2 (.loc (st++[Yc.lst Y0 []]).length),u,v]/\st'=rkS st a b/\a.length+b.length<=k/\(∀p∈a++b,∃c∈cs,c.nm=p.1))
  rfl ⟨Qzq _,Y3,Y3,[],[],rfl,rfl,Qqj _,Qqr _⟩ (λk O st' _=>rfl) (λk O st' q hq h=>by
   obtain⟨hk,u,v,a,b,rfl,rfl,h2,U⟩:=h;have J:=(Qqk.mp hq).1;unfold sgD at hq J;rw[Qqz]at J;rw[Qqv]at hq;obtain⟨c,hc,rfl⟩:=Qqf.mp hq;have Z:=hg c (Qqm hc);have Y:=qit m (st:=rkS st a b) (g:=c.g) (q:=.lst (ps.map cD)) rfl a1;have hv:=cov_ok m (rkS st a b) c.g x y z;have L2:(st++[Yc.lst Y0 []]).length=(st++[Yc.lst Y0 (a.map hiD)]).length:=by simp
   have g1:(rkS st a b)[st.length]?=Y2 (.lst Y0 (a.map hiD)):=by unfold rkS; rw[Qzj]; exact get0 0
   have g2:(rkS st a b)[(st++[Yc.lst Y0 []]).length]?=Y2 (.lst Y0 (b.map hiD)):=by unfold rkS; rw[L2]; exact gl
   have l1:decide ((a.map hiD).length<lim)=true:=Z7 (by rw[Qqz]; unfold lim; lia);have l2:decide ((b.map hiD).length<lim)=true:=Z7 (by rw[Qqz]; unfold lim; lia)
   cases hb:hasB c.g ps with
   |true=>
    rw[hb]at Y;refine⟨_,_,qzc 0 [10,34] 2 (λq=>_/\_/\_/\_/\q) [.c (.bl Y0,rkS st a b),.r (.lst Y0 (a.map hiD)),.r (.lst Y0 (a.map hiD)),.b Y0] (r:=(.nx [Y2 (.lst (sgD L)),Y2 (.lst (ps.map cD)),Y2 (.tup [.int x,.int y,.int z]),Y2 (.loc st.length),Y2 (.loc (st++[Yc.lst Y0 []]).length),Y2 (.int c.nm),Y2 (rD c.g)],(rkS st a b).set st.length (.lst Y0 (a.map hiD++[hiD (c.nm,"dip")])))) ⟨Y,g1,g1,l1,rfl⟩,J,_,_,a++[(c.nm,"dip")],b,rfl,by unfold rkS; rw[ap1,Qqn]; rfl,by rw[Qqi]; simp only[Qz8]; lia,λp F=>?_⟩;rw[Qqh,Qqh,Qqy]at F;rcases F with (F|rfl)|F
    ·exact U p (Qzy _ F)
    ·exact⟨c,Z,rfl⟩
    ·exact U p (Qqp _ F)
   |false=>
    rw[hb]at Y
    cases a0:inB c.g (x,y) with
    |true=>
     rw[a0]at hv;refine⟨_,_,qzc 0 [10,34] 2 (λq=>_/\_/\_/\_/\_/\q) [.c (.bl Y1,rkS st a b),.c (.bl Y0,rkS st a b),.r (.lst Y0 (b.map hiD)),.r (.lst Y0 (b.map hiD)),.b Y0] (r:=(.nx [Y2 (.lst (sgD L)),Y2 (.lst (ps.map cD)),Y2 (.tup [.int x,.int y,.int z]),Y2 (.loc st.length),Y2 (.loc (st++[Yc.lst Y0 []]).length),Y2 (.int c.nm),Y2 (rD c.g)],(rkS st a b).set (st++[Yc.lst Y0 []]).length (.lst Y0 (b.map hiD++[hiD (c.nm,"ground")])))) ⟨Y,hv,g2,g2,l2,rfl⟩,J,_,_,a,b++[(c.nm,"ground")],rfl,by unfold rkS; rw[L2,sl,Qqn]; rfl,by rw[Qqi]; simp only[Qz8]; lia,λp F=>?_⟩;rw[Qqh,Qqh,Qqy]at F;rcases F with F|F|rfl
     ·exact U p (Qzy _ F)
     ·exact U p (Qqp _ F)
     ·exact⟨c,Z,rfl⟩
    |false=>
     rw[a0]at hv
     exact⟨_,_,qzc 0 [10,34] 2 (λq=>_/\_/\q) [.c (.bl Y1,rkS st a b),.c (.bl Y1,rkS st a b)] (r:=(.nx [Y2 (.lst (sgD L)),Y2 (.lst (ps.map cD)),Y2 (.tup [.int x,.int y,.int z]),Y2 (.loc st.length),Y2 (.loc (st++[Yc.lst Y0 []]).length),Y2 (.int c.nm),Y2 (rD c.g)],rkS st a b)) ⟨Y,hv,rfl⟩,J,_,_,a,b,rfl,rfl,by lia,U⟩)
 have L2:(st++[Yc.lst Y0 []]).length=(st++[Yc.lst Y0 (a.map hiD)]).length:=by simp
 have g1:(rkS st a b)[st.length]?=Y2 (.lst Y0 (a.map hiD)):=by unfold rkS; rw[Qzj]; exact get0 0
 have g2:(rkS st a b)[(st++[Yc.lst Y0 []]).length]?=Y2 (.lst Y0 (b.map hiD)):=by unfold rkS; rw[L2]; exact gl
 have J:(sgD L).length=L.length:=by unfold sgD; rw[Qqz]
 have l3:decide (lim<(a.map hiD).length+(b.map hiD).length)=false:=Z8 (by simp only[Qqz]; unfold lim; lia);exact⟨a,b,qzz 0 [] 3 (λq=>_/\_/\_/\_/\q) [.s (.nx [Y2 (.lst (sgD L)),Y2 (.lst (ps.map cD)),Y2 (.tup [.int x,.int y,.int z]),Y2 (.loc st.length),Y2 (.loc (st++[Yc.lst Y0 []]).length),u,v],rkS st a b),.r (.lst Y0 (a.map hiD)),.r (.lst Y0 (b.map hiD)),.b Y1] ⟨h1,g1,g2,l3,rfl⟩,U⟩
def qhi(m)(st)(a:List (Int×String)):callD fns (m+1) 38 [.lst (a.map hiD)] st=Y2 (oD (a.head?.map (·.1)),st):=by
 cases a with
 |nil=>exact qzz 0 [] 1 (λq=>q) [.k] rfl
 |cons p r=>
  have e:idxD st (.lst (hiD p::r.map hiD)) (.int 0)=Y2 (hiD p):=by
   show atI (hiD p::r.map hiD) 0=_;unfold atI ixN;rw[Xq (by decide),Xq (by simp)]
   rfl
  exact qzz 0 [] 1 (λq=>_/\q) [.k,.i (hiD p),.n] ⟨e,rfl⟩
section
variable {W H P:Int}{dg:List (List Int×D)}{en:List D}{T d:Int}{jo:List (D×D)}{ro:List Int}{rest:Yo}{cs:List Cl}{vs:List (Int×D×List (Int×Int))}{B:Nat}
def out_ok(m)(z:(vs.map (·.1)).Nodup)(L:v∈vs)(e:v.1=p.1)(U:0<=p.2)(O:p.2<(v.2.2.length:Int)):∃q:Int×Int,callD fns (m+2) 32 [.loc 0,cD p] (FC sz T d (voD vs) jo cs ro rest)=Y2 (cD q,FC sz T d (voD vs) jo cs ro rest):=by
 have J:=qyt m (T:=T) (d:=d) (jo:=jo) (cs:=cs) (ro:=ro) (rest:=rest) z L (sz:=sz);rw[e]at J;have hi:p.2.toNat<v.2.2.length:=by lia
 have F:idxD (FC sz T d (voD vs) jo cs ro rest) (.tup (v.2.2.map cD)) (.int p.2)=Y2 (cD v.2.2[p.2.toNat]):=by
  show atI (v.2.2.map cD) p.2=_;unfold atI ixN;rw[Xq U,Xq (by rw[Qqz]; exact O)];simp[Qql hi]
 exact⟨v.2.2[p.2.toNat],qzz 8 [56] 2 (λq=>_/\_/\q) [.n,.c (.tup [v.2.1,.tup (v.2.2.map cD)],FC sz T d (voD vs) jo cs ro rest),.n,.n,.i (cD v.2.2[p.2.toNat])] ⟨J,F,rfl⟩⟩
def qhq(m)(J:(vs.map (·.1)).Nodup)(Y:CoI vs F)(Z:F.length<lim):∃ps:List (Int×Int),ps.length=F.length/\callD fns (m+3) 33 [.loc 0,.lst (F.map cD)] (FC sz T d (voD vs) jo cs ro rest)=Y2 (.loc (FC sz T d (voD vs) jo cs ro rest).length,FC sz T d (voD vs) jo cs ro rest++[.lst Y0 (ps.map cD)]):=by
 obtain⟨f,hf⟩:=Classical.axiomOfChoice (r:=λ(p q:Int×Int)=>p∈F->callD fns (m+2) 32 [.loc 0,cD p] (FC sz T d (voD vs) jo cs ro rest)=Y2 (cD q,FC sz T d (voD vs) jo cs ro rest)) λp=>by
  by_cases h:p∈F
  ·obtain⟨v,O,e,h1,h2⟩:=Y p h;obtain⟨q,U⟩:=out_ok m J O e h1 h2;exact⟨q,λ_=>U⟩
  ·exact⟨p,λz=>absurd z h⟩
 refine⟨F.map f,Qqz ..,?_⟩;have h:=qx2 (c:=callD fns (m+2)) (τ:=[Y2 (.loc 0),Y2 (.lst (F.map cD))]) (st:=FC sz T d (voD vs) jo cs ro rest) (i:=1) (elt:=.call 32 [.var 1,.var 0]) (sr:=[Y3,Y2 0]) F cD (λp=>cD (f p)) rfl rfl Z rfl λp L=>qzf 0 [32] 2 (λq=>_/\q) [.c (cD (f p),FC sz T d (voD vs) jo cs ro rest)] ⟨hf p L,rfl⟩;have e:F.map (λp=>cD (f p))=(F.map f).map cD:=by rw[Qq5]; rfl
 rw[e]at h;exact qzz 8 [] 3 (λq=>_/\q) [.c (.loc (FC sz T d (voD vs) jo cs ro rest).length,FC sz T d (voD vs) jo cs ro rest++[.lst Y0 ((F.map f).map cD)])] ⟨h,rfl⟩
def qgz(m)(I:Inv B rest cs)(Z:∀n∈ro,∃c∈cs,c.nm=n)(hl:ro.length<1000)(O:(vs.map (·.1)).Pairwise (· < ·))(Y:vs.length<60)(hV:VsOk vs)(J:JoI vs jo)(a0:ing W H P x y z=Y0):
  ∃o:Option Cl,(∀c,o=Y2 c->c∈cs)/\callD fns (m+6) 39 [.loc 0,.tup [.int x,.int y,.int z]] (FC ⟨szD W H P,dg,en⟩ T d (voD vs) jo cs ro rest)=Y2 (oD (o.map (·.nm)),FC ⟨szD W H P,dg,en⟩ T d (voD vs) jo cs ro rest):=by
 have U:(vs.map (·.1)).Nodup:=O.imp λh=>by lia
 obtain⟨ex,pr,c1,c2,c3,c4⟩:=qox m O Y hV J a0;obtain⟨ps,p1,p2⟩:=qhq (m+1) U c3 (by unfold lim; lia);obtain⟨gs,g1,g2,g3⟩:=sg_ok m I Z hl;generalize hS:FC ⟨szD W H P,dg,en⟩ T d (voD vs) jo cs ro rest=S at c1 p2 g3;obtain⟨a,b,r1,r2⟩:=qc5 (m+1) S (ps:=ps) g1 (by lia) (by unfold lim; lia) x y z;have q1:=qno (st:=S) c2 (qzl λ_ _=>rfl);have q2:=qza (st:=S) (ds:=ps.map cD) (qzl λ_ _=>rfl);have q3:=qza (st:=S) (nl_sg gs);have hh:callD fns (m+5) 37 [.loc 0,.tup [.int x,.int y,.int z]] S=Y2 (.loc (rkS S a b).length,rkS S a b++[.lst Y0 (a.map hiD++b.map hiD)]):=
  qzz 0 [30,33,35,36] 5 (λq=>_/\_/\_/\_/\_/\_/\_/\q) [.c (.loc (S.length+1),S++ex),.l (pr.map cD),.c (.loc S.length,S++[.lst Y0 (ps.map cD)]),.l (ps.map cD),.c (.loc S.length,S++[.lst Y0 (sgD gs)]),.l (sgD gs),.c (.loc (rkS S a b).length,rkS S a b++[.lst Y0 (a.map hiD++b.map hiD)])] ⟨c1,q1,p2,q2,g3,q3,r1,rfl⟩
 have q4:gcD S (.loc (rkS S a b).length,rkS S a b++[.lst Y0 (a.map hiD++b.map hiD)])=(.lst ((a++b).map hiD),S):=by
  have:=qno (st:=S) (ex:=[.lst Y0 (a.map hiD),.lst Y0 (b.map hiD),.lst Y0 ((a++b).map hiD)]) (i:=2) rfl (nl_h (a++b));rw[Qqn]at this ⊢;have e:(rkS S a b).length=S.length+2:=by simp
  rw[e];unfold rkS;rw[Qzj,Qzj];exact this
 have hf:=qhi (m+4) S (a++b);have F:callD fns (m+6) 39 [.loc 0,.tup [.int x,.int y,.int z]] S=Y2 (oD ((a++b).head?.map (·.1)),S):=
  qzz 0 [37,38] 6 (λq=>_/\_/\_/\q) [.c (.loc (rkS S a b).length,rkS S a b++[.lst Y0 (a.map hiD++b.map hiD)]),.l ((a++b).map hiD),.c (oD ((a++b).head?.map (·.1)),S)] ⟨hh,q4,hf,rfl⟩
 cases L:(a++b).head? with
 |none=>rw[L]at F; exact⟨Y3,(by intro _ z; cases z),F⟩
 |some p=>
  rw[L]at F;obtain⟨c,hc,e⟩:=r2 p (List.mem_of_head? L);refine⟨Y2 c,λx hx=>by cases hx; exact hc,?_⟩;rw[F];show Y2 (D.int p.1,S)=Y2 (D.int c.nm,S);rw[e]
def qhz(m)(I:Inv B rest cs)(O:∀n∈ro,∃c∈cs,c.nm=n)(Z:ro.length<1000)(F:(vs.map (·.1)).Pairwise (· < ·))(L:vs.length<60)(hV:VsOk vs)(J:JoI vs jo)(U:ing W H P x y z=Y0):
  ∃o:Option Int,(∀n,o=Y2 n->∃c∈cs,n=c.o)/\callD fns (m+7) 40 [.loc 0,.tup [.int x,.int y,.int z]] (FC ⟨szD W H P,dg,en⟩ T d (voD vs) jo cs ro rest)=Y2 (oD o,FC ⟨szD W H P,dg,en⟩ T d (voD vs) jo cs ro rest):=by
 obtain⟨o,h1,h2⟩:=qgz m (dg:=dg) (en:=en) (T:=T) (d:=d) I O Z F L hV J U
 cases o with
 |none=>exact⟨Y3,(by intro _ z; cases z),qzz 8 [39] 7 (λq=>_/\_/\_/\q) [.c (.non,FC ⟨szD W H P,dg,en⟩ T d (voD vs) jo cs ro rest),.g,.b Y0] ⟨h2,gS .non (FC ⟨szD W H P,dg,en⟩ T d (voD vs) jo cs ro rest) rfl,(show isNon .non=Y0 from rfl),rfl⟩⟩
 |some c=>
  have Y:=h1 c rfl;have hk:=qvi (sz:=⟨szD W H P,dg,en⟩) (T:=T) (d:=d) (fo:=voD vs) (jo:=jo) (ro:=ro) (m+4) I Y;exact⟨Y2 c.o,λn hn=>by cases hn; exact⟨c,Y,rfl⟩,qzz 8 [39,58] 7 (λq=>_/\_/\_/\_/\q) [.c (.int c.nm,FC ⟨szD W H P,dg,en⟩ T d (voD vs) jo cs ro rest),.g,.b Y1,.c (.tup [.int c.o,rD c.g,.int c.la,oD c.v,oD c.gv],FC ⟨szD W H P,dg,en⟩ T d (voD vs) jo cs ro rest)] ⟨h2,gS (.int c.nm) (FC ⟨szD W H P,dg,en⟩ T d (voD vs) jo cs ro rest) rfl,(show isNon (.int c.nm)=Y1 from rfl),hk,rfl⟩⟩
end
def vo_mem(h:(dget (voD vs) (.int b)).isSome):b∈vs.map (·.1):=by
 obtain⟨x,q⟩:=Qzt.mp h;unfold dget at q;obtain⟨p,z,_⟩:=Qqf.mp q;have e:=Qje z;obtain⟨v,F,rfl⟩:=Qqw.mp (Qxe z);have e:=e;cases beq_iff_eq.mp e;exact Qqw.mpr ⟨v,F,rfl⟩
def JoI.put(J:JoI vs jo)(h:b<a)(F:b∈vs.map (·.1)):JoI vs (dput jo (.int a) (.tup [.int b,.int f])):=λp z=>by
 unfold dput at z
 split at z
 ·obtain⟨q,O,rfl⟩:=Qqw.mp z;obtain⟨L,Y,U,rfl,h1,h2⟩:=J q O
  by_cases e:eqT (.int L) (.int a)=Y0
  ·rw[Xq e];have e:=e;cases beq_iff_eq.mp e;exact⟨_,b,f,rfl,h,F⟩
  ·rw[Z9 e];exact⟨L,Y,U,rfl,h1,h2⟩
 ·rcases Qqh.mp z with z|z
  ·exact J p z
  ·cases Qqy.mp z;exact⟨a,b,f,rfl,h,F⟩
def JoI.app(J:JoI vs jo)(v):JoI (vs++[v]) jo:=λp q=>by
 obtain⟨a,b,f,e,h1,h2⟩:=J p q;exact⟨a,b,f,e,h1,by rw[Qqn]; exact Qzy _ h2⟩
def qf9(kvs)(k)(v):(tput kvs k v).length<=kvs.length+1:=by
 unfold tput
 split
 ·rw[Qqz]; lia
 ·rw[Qqi]; exact Qqj _
section
variable {W H P:Int}{dg:List (List Int×D)}{en:List D}{T d:Int}{jo:List (D×D)}{ro:List Int}{rest:Yo}{cs:List Cl}{vs:List (Int×D×List (Int×Int))}{B:Nat}
def dig_ok(m)(I:Inv B rest cs)(L:∀n∈ro,∃c∈cs,c.nm=n)(hl:ro.length<1000)(a0:(vs.map (·.1)).Pairwise (· < ·))(a3:vs.length<60)(hV:VsOk vs)(J:JoI vs jo)(a4:ing W H P x y z=Y0)(a6:dg.length<900)(a5:en.length<900):
  ∃w U more,callD fns (m+8) 50 [.loc 0,.tup [sO "dig",.int o,.int mx,.int my,.int x,.int y,.int z,.int n]] (FC ⟨szD W H P,dg,en⟩ T d (voD vs) jo cs ro rest)=Y2 (sO w,FC ⟨szD W H P,U,en++(more:List En).map eD⟩ T d (voD vs) jo cs ro rest)/\U.length<=dg.length+1/\more.length<=2/\∀e∈more,e.2.1=o/\(∃c∈cs,e.2.2.1=c.o)/\(e.2.2.2=n\/e.2.2.2=10*n):=by
 cases hq:tget dg [x,y,z] with
 |some v=>exact⟨"dug",dg,[],by rw[Qxx,Qzh]; exact qzz 8 [] 8 (λq=>_/\q) [.q (Y2 v)] ⟨hq,rfl⟩,Qxq _,Qzq _,Qqr _⟩
 |none=>
  have O:decide (dg.length<lim)=true:=Z7 (by unfold lim; lia);obtain⟨Z,a1,a2⟩:=qhz m (dg:=tput dg [x,y,z] (.bl Y0)) (en:=en) (T:=T) (d:=d) I L hl a0 a3 hV J a4;obtain⟨m1,b1,b2⟩:=qdh (sz:=⟨szD W H P,tput dg [x,y,z] (.bl Y0),en⟩) (T:=T) (d:=d) (fo:=voD vs) (jo:=jo) (cs:=cs) (ro:=ro) (rest:=rest) (m+6) o Z (10*n) (by show en.length<1000; lia);have l1:m1.length<=1:=by
   rcases b1 with rfl|⟨b,_,_,rfl⟩
   ·exact Qzq _
   ·exact Qqj _
  obtain⟨Y,c1,c2⟩:=qnp (sz:=⟨szD W H P,tput dg [x,y,z] (.bl Y0),en++m1.map eD⟩) (T:=T) (d:=d) (fo:=voD vs) (jo:=jo) (m+1) I L hl (mx,my);obtain⟨m2,d1,d2⟩:=qdh (sz:=⟨szD W H P,tput dg [x,y,z] (.bl Y0),en++m1.map eD⟩) (T:=T) (d:=d) (fo:=voD vs) (jo:=jo) (cs:=cs) (ro:=ro) (rest:=rest) (m+6) o Y n (by rw[Qqi,Qqz]; lia);have l2:m2.length<=1:=by
   rcases d1 with rfl|⟨b,_,_,rfl⟩
   ·exact Qzq _
   ·exact Qqj _
  refine⟨"good",tput dg [x,y,z] (.bl Y0),m1++m2,?_,qf9 _ _ _,by rw[Qqi]; lia,λe F=>?_⟩
  ·rw[Qqn,<- Qzj];exact qzz 8 [40,53,52] 8 (λq=>_/\_/\_/\_/\_/\_/\_/\_/\_/\q) [.q Y3,.b Y0,.c (oD Z,FC ⟨szD W H P,tput dg [x,y,z] (.bl Y0),en⟩ T d (voD vs) jo cs ro rest),.g,.b Y0,.c (.non,FC ⟨szD W H P,tput dg [x,y,z] (.bl Y0),en++m1.map eD⟩ T d (voD vs) jo cs ro rest),.c (oD Y,FC ⟨szD W H P,tput dg [x,y,z] (.bl Y0),en++m1.map eD⟩ T d (voD vs) jo cs ro rest),.g,.c (.non,FC ⟨szD W H P,tput dg [x,y,z] (.bl Y0),en++m1.map eD++m2.map eD⟩ T d (voD vs) jo cs ro rest)]
    ⟨hq,O,a2,gS (oD Z) (FC ⟨szD W H P,tput dg [x,y,z] (.bl Y0),en⟩ T d (voD vs) jo cs ro rest) (by cases Z<;>rfl),mul10 n,b2,c2,gS (oD Y) (FC ⟨szD W H P,tput dg [x,y,z] (.bl Y0),en++m1.map eD⟩ T d (voD vs) jo cs ro rest) (by cases Y<;>rfl),d2,rfl⟩
  ·rcases Qqh.mp F with F|F
   ·rcases b1 with rfl|⟨b,O,_,rfl⟩
    ·cases F
    ·cases Qqy.mp F;exact⟨rfl,a1 b O,.inr rfl⟩
   ·rcases d1 with rfl|⟨b,O,_,rfl⟩
    ·cases F
    ·cases Qqy.mp F;exact⟨rfl,c1 b O,.inl rfl⟩
end
inductive DG (W H P:Int):D->Prop
 |old {f:D}(h:DF W H P f):DG W H P f
 |dig {o mx my x y z n:Int}(o1:1<=o) (o2:o<=40) (x1:0<=mx) (x2:mx<W) (y1:0<=my) (y2:my<H) (x3:0<=x) (x4:x<W) (y3:0<=y) (y4:y<H) (z1:0<=z) (z2:z<=P) (h1:1<=n) (h2:n<=1000000):DG W H P (.tup [sO "dig",.int o,.int mx,.int my,.int x,.int y,.int z,.int n])
 |pay {a b n:Int}(a1:1<=a) (a2:a<=40) (b1:1<=b) (b2:b<=40) (ne:a≠b) (h1:1<=n) (h2:n<=1000000):DG W H P (.tup [sO "pay",.int a,.int b,.int n])
theorem DG.sound(h:DG W H P f)(m)(st):callD fns (m+6) 8 [szD W H P,f] st=Y2 (.bl Y0,st):=by
 cases h with
 |old h=>exact h.sound m st
 |dig o1 o2 x1 Z O L Y U J F z q h1 h2=>exact s_dig (m+3) st o1 o2 x1 Z O L Y U J F z q h1 h2
 |pay a1 a2 b1 b2 ne h1 h2=>exact s_pay (m+3) st a1 a2 b1 b2 ne h1 h2
structure Ok (k:Nat) (d:Int) (dg:List (List Int×D)) (es:List En) (vs:List (Int×D×List (Int×Int))) (jo:List (D×D)) (cs:List Cl) (ro:List Int) (rest:Yo):Prop where
 I:Inv 0 rest cs
 R:RowI d cs ro
 cl:cs.length<=k
 rl:ro.length<=25*k
 dl:∀c∈cs,c.ds.length<=k
 vl:vs.length<=k
 vn:(vs.map (·.1)).Pairwise (· < ·)
 vd:∀v∈vs,v.1<=d
 V:VsOk vs
 jl:jo.length<=k
 J:JoI vs jo
 gl:dg.length<=k
 el:es.length<=2*k
 eo:∀e∈es,EnOk e
section
variable {W H P:Int}{T d day:Int}{dg:List (List Int×D)}{es:List En}{jo:List (D×D)}{ro:List Int}{rest:Yo}{cs:List Cl}{k:Nat}{vs:List (Int×D×List (Int×Int))}
def qhn(m)(h:Ok k d dg es vs jo cs ro rest)(hk:k<25)(hf:DG W H P f)(h1:1<=day)(h2:day<=400)(hd:d<day):
  ∃v a0 b3 b0 a9 O F rest',callD fns (m+10) 45 [.loc 0,.int day,f] (FC ⟨szD W H P,dg,es.map eD⟩ T d (voD vs) jo cs ro rest)=Y2 (v,FC ⟨szD W H P,a0,(b3:List En).map eD⟩ T day (voD b0) a9 O F rest')/\Ok (k+1) day a0 b3 b0 a9 O F rest':=by
 have hs:=hf.sound (m+3) (FC ⟨szD W H P,dg,es.map eD⟩ T d (voD vs) jo cs ro rest);have ⟨I,R,cl,rl,dl,vl,vn,vd,V,jl,J,b8,el,eo⟩:=h;have b4:(vs.map (·.1)).Nodup:=vn.imp Int.ne_of_lt;have Z:∀{O F},Op day cs ro O F->RowI day O F/\O.length<=k+1/\F.length<=25*(k+1):=λ{O F} o=>by
  obtain⟨_,b,c⟩:=qif o;exact⟨op_row hd R o,by lia,by lia⟩
 have Y:∀v∈vs,v.1<=day:=λv L=>Int.le_trans (vd v L) (Int.le_of_lt hd);have a6:∀c∈cs,c.ds.length<=k+1:=λc U=>Qxc (dl c U);have a4:=Qxc vl;have a5:=Qxc jl;have a7:=Qxc b8;have a8:es.length<=2*(k+1):=Qzl el (Nat.mul_le_mul_left 2 (Qxq k))
 cases hf with
 |old hf=>
  cases hf with
  |vein hP c4 b5 c3 b6 c0 U=>
   rename_i ss ps;obtain⟨rest',e,I',t,l⟩:=qh6 (d:=day) (ro:=ro) (m+3) I (.tup (ss.map .int)) ps vs (λv L=>Int.ne_of_lt (Int.lt_of_le_of_lt (vd v L) hd)) (by lia) (by lia) (by lia);obtain⟨a1,a2,a3⟩:=Z (.vein ps);refine⟨_,dg,es,_,_,_,_,_,qq2 (m+3) h1 h2 hd hs e,⟨I',a1,a2,a3,λc U=>?_,by simp; lia,?_,λv L=>?_,λv L=>?_,a5,J.app _,a7,a8,eo⟩⟩
   ·obtain⟨x,hx,rfl⟩:=Qqw.mp U;rw[(qqj day ps x).2.2];exact a6 x hx
   ·rw[Qqn,Qjf];refine⟨vn,by simp,λa ha b hb=>?_⟩;obtain⟨v,L,rfl⟩:=Qqw.mp ha;simp only[Qqb,Qxx,Qqy]at hb;have:=vd v L
    lia
   ·rcases Qqh.mp L with L|L
    ·exact Y v L
    ·cases Qqy.mp L; exact Int.le_refl _
   ·rcases Qqh.mp L with L|L
    ·exact V v L
    ·cases Qqy.mp L; exact⟨⟨ss,rfl,b5⟩,b6⟩
  |join=>
   rename_i a b f _ _ _ _ _ _;obtain⟨w,a9,e,l,hj⟩:=qh7 (jo:=jo) (m+7) a b f (by lia);obtain⟨a1,a2,a3⟩:=Z .same;refine⟨_,dg,es,_,_,_,_,_,qq2 (m+3) h1 h2 hd hs e,⟨I,a1,a2,a3,a6,a4,vn,Y,V,by lia,?_,a7,a8,eo⟩⟩;rcases hj with rfl|⟨h3,h4,rfl⟩
   ·exact J
   ·exact J.put h3 (vo_mem h4)
  |stake g1 g2=>
   rename_i o g _ _ _ _ _ _;obtain⟨O,F,rest',e,I',op,t,l,ds⟩:=qfn (d:=day) (ro:=ro) (m+3) I (Qzq _) o ⟨g1,g2⟩ g vs b4 (by lia) (λv L=>(V v L).2) (by lia) (λx hx=>by have:=R.le x hx; lia);obtain⟨a1,a2,a3⟩:=Z op;refine⟨_,dg,es,_,_,_,_,_,qq2 (m+3) h1 h2 hd hs e,⟨I',a1,a2,a3,λc U=>?_,a4,vn,Y,V,a5,J,a7,a8,eo⟩⟩;rcases ds c U with U|U
   ·exact a6 c U
   ·lia
  |claim U b9=>
   obtain⟨w,O,F,rest',e,I',op,t,l,ds⟩:=qe7 (m+4) I (Qzq _) d day hd (by lia) (λc U=>by have:=dl c U; lia) R U;obtain⟨a1,a2,a3⟩:=Z op;refine⟨_,dg,es,_,_,_,_,_,qq2 (m+3) h1 h2 hd hs (qfp (m+4) U e),⟨I',a1,a2,a3,λc U=>?_,a4,vn,Y,V,a5,J,a7,a8,eo⟩⟩;obtain⟨x,_,l2,hx⟩:=ds c U;have:=dl x hx
   lia
 |dig o1 o2 x1 x2 y1 y2 x3 x4 y3 y4 z1 z2 n1 n2=>
  rename_i o mx my x y z n;have b7:ing W H P x y z=true:=by
   unfold ing;rw[Z7 x3,Z7 x4,Z7 y3,Z7 y4,Z7 z1,Z7 z2]
   rfl
  obtain⟨a1,a2,a3⟩:=Z .same;obtain⟨w,a0,more,e,e1,e2,e3⟩:=dig_ok m (T:=T) (d:=day) (dg:=dg) (en:=es.map eD) (o:=o) (mx:=mx) (my:=my) (n:=n) I R.in1 (by lia) vn (by lia) V J b7 (by lia) (by rw[Qqz]; lia);rw[<- Qqn]at e;have ea:callD fns (m+9) 46 [.loc 0,.tup [sO "dig",.int o,.int mx,.int my,.int x,.int y,.int z,.int n]] (FC ⟨szD W H P,dg,es.map eD⟩ T day (voD vs) jo cs ro rest)=Y2 (sO w,FC ⟨szD W H P,a0,(es++more).map eD⟩ T day (voD vs) jo cs ro rest):=
   qzz 8 [50] 9 (λq=>_/\q) [.c (sO w,FC ⟨szD W H P,a0,(es++more).map eD⟩ T day (voD vs) jo cs ro rest)] ⟨e,rfl⟩
  refine⟨_,a0,es++more,_,_,_,_,_,qq2 (m+3) h1 h2 hd hs ea,⟨I,a1,a2,a3,a6,a4,vn,Y,V,a5,J,by lia,by rw[Qqi]; lia,λu hu=>?_⟩⟩;rcases Qqh.mp hu with hu|hu
  ·exact eo u hu
  ·obtain⟨q1,⟨c,U,q2⟩,q3⟩:=e3 u hu;have:=R.ow c U;unfold Ow at this;unfold EnOk
   lia
 |pay b1 b2 c1 c2 ne n1 n2=>
  rename_i a b n;obtain⟨a1,a2,a3⟩:=Z .same;obtain⟨more,e1,e⟩:=pay_ok (sz:=⟨szD W H P,dg,es.map eD⟩) (m+6) (by rw[Qqz]; lia);have e:callD fns (m+8) 51 [.loc 0,.tup [sO "pay",.int a,.int b,.int n]] (FC ⟨szD W H P,dg,es.map eD⟩ T day (voD vs) jo cs ro rest)=Y2 (sO "good",FC ⟨szD W H P,dg,(es++more).map eD⟩ T day (voD vs) jo cs ro rest):=by rw[Qqn]; exact e
  have ea:callD fns (m+9) 46 [.loc 0,.tup [sO "pay",.int a,.int b,.int n]] (FC ⟨szD W H P,dg,es.map eD⟩ T day (voD vs) jo cs ro rest)=Y2 (sO "good",FC ⟨szD W H P,dg,(es++more).map eD⟩ T day (voD vs) jo cs ro rest):=
   qzz 8 [51] 9 (λq=>_/\q) [.c (sO "good",FC ⟨szD W H P,dg,(es++more).map eD⟩ T day (voD vs) jo cs ro rest)] ⟨e,rfl⟩
  have ml:more.length<=1:=by
   rcases e1 with rfl|rfl
   ·exact Qzq _
   ·exact Qqj _
  refine⟨_,dg,es++more,_,_,_,_,_,qq2 (m+3) h1 h2 hd hs ea,⟨I,a1,a2,a3,a6,a4,vn,Y,V,a5,J,by lia,by rw[Qqi]; lia,λu hu=>?_⟩⟩;rcases Qqh.mp hu with hu|hu
  ·exact eo u hu
  ·rcases e1 with rfl|rfl
   ·cases hu
   ·cases Qqy.mp hu;unfold EnOk;dsimp only
    lia
end
section
variable {ns:List Int}(hn:ns.length<=63){W H P:Int}(w1:1<=W)(w2:W<=24)(h1:1<=H)(h2:H<=24)(p0:0<=P)(p1:P<=12)
include hn w1 h1 p0
theorem qnj(m)(st)(k):∃f,callD fns (m+3) 77 [scr ns,.int k,szD W H P] st=Y2 (f,st)/\DG W H P f:=by
 obtain⟨g,hg,O,x1,x2,L,y1,y2⟩:=qyz hn m st k 1 (W:=W) (H:=H) (by decide) (by decide) (by lia) (by lia);obtain⟨q,hq,u0,u1,Y,v0,v1,U⟩:=qyz hn m st k 5 (W:=W) (H:=H) (by decide) (by decide) (by lia) (by lia);obtain⟨z,hz,J,z2⟩:=dr hn (m+1) st k 9 (many:=P+1) (by decide) (by decide) (by lia);obtain⟨a,ha,a1,a2⟩:=dr hn (m+1) st k 11 (many:=3) (by decide) (by decide) (by decide);have ⟨w,hw,b1,b2⟩:∃w:Int,idxD st (.lst [.int 9,.int 300,.int 1000000]) (.int a)=Y2 (.int w)/\0<w/\w<=1000000:=by
  have:a=0\/a=1\/a=2:=by lia
  rcases this with rfl|rfl|rfl
  ·exact⟨9,rfl,by decide,by decide⟩
  ·exact⟨300,rfl,by decide,by decide⟩
  ·exact⟨1000000,rfl,by decide,by decide⟩
 obtain⟨n,F,n1,n2⟩:=dr hn (m+1) st k 10 (by decide) (by decide) b1;obtain⟨o,ho,o1,Z⟩:=qvr hn m st k 12 (by decide) (by decide);exact⟨_,qzz 0 [68,65,71] 3 (λq=>_/\_/\_/\_/\_/\_/\_/\_/\q) [.n,.n,.c (rD g,st),.n,.n,.c (rD q,st),.n,.c (.int z,st),.l [.int 9,.int 300,.int 1000000],.c (.int a,st),.i (.int w),.c (.int n,st),.c (.int o,st)] (r:=(.tup [sO "dig",.int o,.int g.1,.int g.2.1,.int q.2.2.1,.int q.2.2.2,.int z,.int (1+n)],st)) ⟨hg,hq,hz,qza (st:=st) (ds:=[.int 9,.int 300,.int 1000000]) rfl,ha,hw,F,ho,rfl⟩,.dig o1 Z O (by lia) L (by lia) (by lia) Y (by lia) U J (by lia) (by lia) (by lia)⟩
omit w1 h1 p0 in
theorem qm8(m)(st)(k):∃f,callD fns (m+3) 78 [scr ns,.int k] st=Y2 (f,st)/\DG W H P f:=by
 obtain⟨a,O,Y,U⟩:=qvr hn m st k 1 (by decide) (by decide);obtain⟨b,L,b1,b2⟩:=qvr hn m st k 3 (by decide) (by decide);obtain⟨u,J,u1,Z⟩:=dr hn (m+1) st k 6 (many:=2) (by decide) (by decide) (by decide);have ⟨w,hw,c1,c2⟩:∃w:Int,idxD st (.lst [.int 9,.int 1000000]) (.int u)=Y2 (.int w)/\0<w/\w<=1000000:=by
  have:u=0\/u=1:=by lia
  rcases this with rfl|rfl
  ·exact⟨9,rfl,by decide,by decide⟩
  ·exact⟨1000000,rfl,by decide,by decide⟩
 obtain⟨n,F,n1,n2⟩:=dr hn (m+1) st k 5 (by decide) (by decide) c1;have g:=qza (st:=st) (ds:=[.int 9,.int 1000000]) rfl
 by_cases e:b=a
 ·exact⟨_,qzz 0 [65,71] 3 (λq=>_/\_/\_/\_/\_/\_/\_/\_/\q) [.c (.int a,st),.c (.int b,st),.b Y0,.c (.int (a % 40),st),.l [.int 9,.int 1000000],.c (.int u,st),.i (.int w),.c (.int n,st)] (r:=(.tup [sO "pay",.int a,.int (a % 40+1),.int (1+n)],st)) ⟨O,L,(show(b==a)=Y0 by simpa using e),bMo st a (b:=40) (by decide),g,J,hw,F,rfl⟩,.pay Y U (by lia) (by lia) (by lia) (by lia) (by lia)⟩
 ·exact⟨_,qzz 0 [65,71] 3 (λq=>_/\_/\_/\_/\_/\_/\_/\q) [.c (.int a,st),.c (.int b,st),.b Y1,.l [.int 9,.int 1000000],.c (.int u,st),.i (.int w),.c (.int n,st)] (r:=(.tup [sO "pay",.int a,.int b,.int (1+n)],st)) ⟨O,L,(show(b==a)=Y1 by simpa using e),g,J,hw,F,rfl⟩,.pay Y U b1 b2 (λz=>e z.symm) (by lia) (by lia)⟩
noncomputable abbrev dgB:List M.S:=[.set (.var 7) (.call 65 [.var 0,.bin .Add (.var 1) (.bcall .len [.var 4]),.lit (.int 60),.lit (.int 5)]),.ite (.and (.cmp .Gt (.bcall .len [.var 4]) (.lit (.int 2))) (.cmp .Lt (.var 7) (.lit (.int 2)))) [.set (.var 6) (.call 77 [.var 0,.bin .Add (.bin .Add (.var 1) (.lit (.int 1))) (.bcall .len [.var 4]),.var 2])] [],.ite (.and (.cmp .Gt (.bcall .len [.var 4]) (.lit (.int 2))) (.and (.cmp .Eq (.var 7) (.lit (.int 2))) (.cmp .NotEq (.idx (.var 6) (.lit (.int 0))) (.lit (sO "vein"))))) [.set (.var 6) (.call 78 [.var 0,.bin .Add (.bin .Add (.var 1) (.lit (.int 1))) (.bcall .len [.var 4])])] [],.expr (.meth (.var 4) .append [.tup [.var 5,.var 6]])]
noncomputable abbrev dgT(ns:List Int)(k W H P many:Int)(st:Yo)(a b c:Option D):Sl:=[Y2 (scr ns),Y2 (.int k),Y2 (szD W H P),Y2 (.int many),Y2 (.loc st.length),a,b,c]
omit w1 h1 p0 in
theorem qn5(m)(st)(k many)(dl)(hl:dl.length<100)(w1:1<=W)(h1:1<=H)(p0:0<=P)(x)(Y:DF W H P f)(c):
  ∃J v,DG W H P J/\(RL (callD fns (m+3))).ex (dgT ns k W H P many st (Y2 (.int x)) (Y2 f) c) (st++[.lst Y0 (dl.map pD)]) dgB=Y2 (.nx (dgT ns k W H P many st (Y2 (.int x)) (Y2 J) (Y2 (.int v))),st++[.lst Y0 ((dl++[(x,J)]).map pD)]):=by
 have z:=gl (st:=st) (c:=.lst Y0 (dl.map pD));have F:decide ((dl.map pD).length<lim)=true:=Z7 (by rw[Qqz]; unfold lim; lia);obtain⟨v,U,v1,v2⟩:=dr hn (m+2) (st++[.lst Y0 (dl.map pD)]) (k+((dl.map pD).length:Int)) 60 (many:=5) (by decide) (by decide) (by decide);have L:∀J:D,st++[.lst Y0 ((dl++[(x,J)]).map pD)]=(st++[Yc.lst Y0 (dl.map pD)]).set st.length (.lst Y0 (dl.map pD++[pD (x,J)])):=λJ=>by rw[sl,Qqn]; rfl
 by_cases t1:2<((dl.map pD).length:Int)
 ·by_cases t2:v<2
  ·obtain⟨J,O,df⟩:=qnj hn w1 h1 p0 m (st++[.lst Y0 (dl.map pD)]) (k+1+((dl.map pD).length:Int));refine⟨J,v,df,?_⟩;rw[L];exact qzc 0 [65,77,78] 3 (λq=>_/\_/\_/\_/\_/\_/\_/\_/\_/\_/\_/\_/\_/\q) [.r (.lst Y0 (dl.map pD)),.c (.int v,st++[.lst Y0 (dl.map pD)]),.r (.lst Y0 (dl.map pD)),.b Y0,.b Y0,.r (.lst Y0 (dl.map pD)),.c (J,st++[.lst Y0 (dl.map pD)]),.r (.lst Y0 (dl.map pD)),.b Y0,.b Y1,.r (.lst Y0 (dl.map pD)),.r (.lst Y0 (dl.map pD)),.b Y0] ⟨z,U,z,Z7 t1,Z7 t2,z,O,z,Z7 t1,(show(v==2)=Y1 by simp; lia),z,z,F,rfl⟩
  ·by_cases Z:v=2
   ·obtain⟨J,O,df⟩:=qm8 hn (W:=W) (H:=H) (P:=P) m (st++[.lst Y0 (dl.map pD)]) (k+1+((dl.map pD).length:Int));have a0:wIs f ["vein"]=Y1->(RL (callD fns (m+3))).ex (dgT ns k W H P many st (Y2 (.int x)) (Y2 f) c) (st++[.lst Y0 (dl.map pD)]) dgB=Y2 (.nx (dgT ns k W H P many st (Y2 (.int x)) (Y2 J) (Y2 (.int v))),st++[.lst Y0 ((dl++[(x,J)]).map pD)]):=λnw=>by
     rw[L]
     cases Y with
     |vein=>cases nw
     |claim h _=>
      cases h<;>exact qzc 0 [65,77,78] 3 (λq=>_/\_/\_/\_/\_/\_/\_/\_/\_/\_/\_/\_/\_/\q) [.r (.lst Y0 (dl.map pD)),.c (.int v,st++[.lst Y0 (dl.map pD)]),.r (.lst Y0 (dl.map pD)),.b Y0,.b Y1,.r (.lst Y0 (dl.map pD)),.b Y0,.b Y0,.r (.lst Y0 (dl.map pD)),.c (J,st++[.lst Y0 (dl.map pD)]),.r (.lst Y0 (dl.map pD)),.r (.lst Y0 (dl.map pD)),.b Y0] ⟨z,U,z,Z7 t1,Z8 t2,z,Z7 t1,(show(v==2)=Y0 by simpa using Z),z,O,z,z,F,rfl⟩
     |_=>exact qzc 0 [65,77,78] 3 (λq=>_/\_/\_/\_/\_/\_/\_/\_/\_/\_/\_/\_/\_/\q) [.r (.lst Y0 (dl.map pD)),.c (.int v,st++[.lst Y0 (dl.map pD)]),.r (.lst Y0 (dl.map pD)),.b Y0,.b Y1,.r (.lst Y0 (dl.map pD)),.b Y0,.b Y0,.r (.lst Y0 (dl.map pD)),.c (J,st++[.lst Y0 (dl.map pD)]),.r (.lst Y0 (dl.map pD)),.r (.lst Y0 (dl.map pD)),.b Y0] ⟨z,U,z,Z7 t1,Z8 t2,z,Z7 t1,(show(v==2)=Y0 by simpa using Z),z,O,z,z,F,rfl⟩
    cases hw:wIs f ["vein"] with
    |false=>exact⟨J,v,df,a0 hw⟩
    |true=>
     refine⟨f,v,.old Y,?_⟩;rw[L]
     cases Y with
     |vein=>exact qzc 0 [65,77,78] 3 (λq=>_/\_/\_/\_/\_/\_/\_/\_/\_/\_/\_/\q) [.r (.lst Y0 (dl.map pD)),.c (.int v,st++[.lst Y0 (dl.map pD)]),.r (.lst Y0 (dl.map pD)),.b Y0,.b Y1,.r (.lst Y0 (dl.map pD)),.b Y0,.b Y0,.r (.lst Y0 (dl.map pD)),.r (.lst Y0 (dl.map pD)),.b Y0] ⟨z,U,z,Z7 t1,Z8 t2,z,Z7 t1,(show(v==2)=Y0 by simpa using Z),z,z,F,rfl⟩
     |claim h _=>cases h<;>cases hw
     |_=>cases hw
   ·refine⟨f,v,.old Y,?_⟩;rw[L];exact qzc 0 [65,77,78] 3 (λq=>_/\_/\_/\_/\_/\_/\_/\_/\_/\_/\_/\q) [.r (.lst Y0 (dl.map pD)),.c (.int v,st++[.lst Y0 (dl.map pD)]),.r (.lst Y0 (dl.map pD)),.b Y0,.b Y1,.r (.lst Y0 (dl.map pD)),.b Y0,.b Y1,.r (.lst Y0 (dl.map pD)),.r (.lst Y0 (dl.map pD)),.b Y0] ⟨z,U,z,Z7 t1,Z8 t2,z,Z7 t1,(show(v==2)=Y1 by simpa using Z),z,z,F,rfl⟩
 ·refine⟨f,v,.old Y,?_⟩;rw[L];exact qzc 0 [65,77,78] 3 (λq=>_/\_/\_/\_/\_/\_/\_/\_/\_/\q) [.r (.lst Y0 (dl.map pD)),.c (.int v,st++[.lst Y0 (dl.map pD)]),.r (.lst Y0 (dl.map pD)),.b Y1,.r (.lst Y0 (dl.map pD)),.b Y1,.r (.lst Y0 (dl.map pD)),.r (.lst Y0 (dl.map pD)),.b Y0] ⟨z,U,z,Z8 t1,z,Z8 t1,z,z,F,rfl⟩
end
section
theorem DF.noLoc(h:DF W H P f):M.noLoc f=true:=by
 cases h with
 |vein=>
  rename_i q ps _ _ _ _ _ _ _;show(Y0&&(M.noLoc (.tup (q.map .int))&&(M.noLoc (.tup (ps.map cD))&&Y0)))=Y0;rw[qdn,qwj,nlI]
  rfl
 |claim h _=>cases h<;>rfl
 |_=>rfl
theorem DG.noLoc(h:DG W H P f):M.noLoc f=true:=by
 cases h with
 |old h=>exact h.noLoc
 |_=>rfl
def pl_nl{pl:List (Int×D)}(h:∀p∈pl,DG W H P p.2):noLocs (pl.map pD)=true:=by
 induction pl with
 |nil=>rfl
 |cons p r z=>
  show((Y0&&(M.noLoc p.2&&Y0))&&noLocs (r.map pD))=Y0;rw[(h p (Qq6 ..)).noLoc,z λq F=>h q (Qqt _ F)]
  rfl
end
section
variable {ns:List Int}(hn:ns.length<=63){W H P:Int}(w1:1<=W)(w2:W<=24)(h1:1<=H)(h2:H<=24)(p0:0<=P)(p1:P<=12)
include hn w1 w2 h1 h2 p0 p1
theorem dug_ok(m)(st)(k)(k1:0<=k)(k2:k<1000)(m1:1<=many)(m2:many<=24):∃pl:List (Int×D),callD fns (m+6) 79 [scr ns,.int k,szD W H P,.int many] st=Y2 (.loc st.length,st++[.lst Y0 (pl.map pD)])/\(pl.length:Int)=many/\(∀p∈pl,DG W H P p.2/\1<=p.1/\p.1<=360)/\(pl.map (·.1)).Pairwise (· < ·):=by
 obtain⟨pl,a1,a2,Z,a4⟩:=qmv hn w1 w2 h1 h2 p0 p1 m (st++[.lst Y0 []]) k k1 k2 m1 m2;have U:(RL (callD fns (m+5))).ev (dgT ns k W H P many st Y3 Y3 Y3) (st++[.lst Y0 []]) (.gc (.call 76 [.var 0,.var 1,.var 2,.var 3]))=Y2 (.lst (pl.map pD),st++[.lst Y0 []]):=
  qzf 0 [76] 5 (λq=>_/\_/\q) [.c (.loc (st++[Yc.lst Y0 []]).length,st++[.lst Y0 []]++[.lst Y0 (pl.map pD)]),.l (pl.map pD)] ⟨a1,qza (st:=st++[.lst Y0 []]) (pl_nl λp F=>.old (Z p F).1),rfl⟩
 obtain⟨z,st',e,hk,a,b,c,dl,rfl,rfl,L,Y⟩:=qqt (st:=st++[.lst Y0 []]) (it:=.gc (.call 76 [.var 0,.var 1,.var 2,.var 3])) (t:=.tup [5,6])
  (λi z st'=>i<=pl.length/\∃(a b c:Option D) (dl:List (Int×D)),z=dgT ns k W H P many st a b c/\st'=st++[.lst Y0 (dl.map pD)]/\dl.map (·.1)=(pl.take i).map (·.1)/\∀p∈dl,DG W H P p.2)
  (by show((RL (callD fns (m+5))).ev _ _ _).bind _=_; rw[U]; rfl) (qzt rfl) (λi z st' _=>qqu rfl i) ⟨Qzq _,Y3,Y3,Y3,[],rfl,rfl,rfl,Qqr _⟩ (λi z st' x hx h=>by
   obtain⟨hi,a,b,c,dl,rfl,rfl,L,Y⟩:=h;rw[Qqv]at hx;obtain⟨p,F,rfl⟩:=Qqf.mp hx;have O:=(Qqk.mp F).1;have a0:dl.length<=i:=by
    have:=congrArg List.length L;rw[Qqz,Qqz,Qzz]at this
    lia
   obtain⟨f',v,g1,g2⟩:=qn5 hn (m+2) st k many dl (by lia) w1 h1 p0 p.1 (Z p (Qqm F)).1 c
   exact⟨_,_,g2,O,_,_,_,dl++[(p.1,f')],rfl,rfl,by rw[Qx6,F,Qqn,Qqn,L]; rfl,λq J=>by
    rcases Qqh.mp J with J|J
    ·exact Y q J
    ·cases Qqy.mp J; exact g1⟩)
 rw[Qqz,Qzu]at L;refine⟨dl,qzz 0 [] 6 (λq=>_/\q) [.s (.nx (dgT ns k W H P many st a b c),st++[.lst Y0 (dl.map pD)])] ⟨e,rfl⟩,?_,λp F=>⟨Y p F,?_⟩,by rw[L]; exact a4⟩
 ·have:=congrArg List.length L;rw[Qqz,Qqz]at this
  lia
 ·have:p.1∈dl.map (·.1):=Qqw.mpr ⟨p,F,rfl⟩;rw[L]at this;obtain⟨q,J,e⟩:=Qqw.mp this;rw[<- e];exact(Z q J).2
end
section
variable {W H P T:Int}(w1:1<=W)(w2:W<=24)(h1:1<=H)(h2:H<=24)(p0:0<=P)(p1:P<=12)(t1:1<=T)(t2:T<=400)
include w1 w2 h1 h2 p0 p1 t1 t2
theorem qnl(m):callD fns (m+3) 44 [.loc 0,.int W,.int H,.int P,.int T] [.obj 642 []]=Y2 (.non,FC ⟨szD W H P,[],([]:List En).map eD⟩ T 0 (voD []) [] [] [] []):=
 qzz 9 [] 3 (λq=>_/\_/\_/\_/\_/\_/\_/\_/\q) [.b Y0,.b Y0,.b Y0,.b Y0,.b Y0,.b Y0,.b Y0,.b Y0] ⟨Z7 w1,Z7 w2,Z7 h1,Z7 h2,Z7 p0,Z7 p1,Z7 t1,Z7 t2,rfl⟩
theorem ok0:Ok 0 0 [] [] [] [] [] [] []:=
 ⟨⟨Qqr _,Qqr _,.nil,Qqr _,.nil⟩,⟨Qqr _,Qqr _,Qqr _,Qqr _⟩,Qqj _,Qzq _,Qqr _,Qqj _,.nil,Qqr _,Qqr _,Qqj _,Qqr _,Qqj _,Qqj _,Qqr _⟩
theorem qb1(m){pl:List (Int×D)}(hl:pl.length<=24)(hp:∀p∈pl,DG W H P p.2/\1<=p.1/\p.1<=360)(hs:(pl.map (·.1)).Pairwise (· < ·)):∃d dg es vs jo cs ro rest,callD fns (m+11) 80 [szD W H P,.int T,.lst (pl.map pD)] []=Y2 (.loc 0,FC ⟨szD W H P,dg,(es:List En).map eD⟩ T d (voD vs) jo cs ro rest)/\es.length<=48/\∀e∈es,EnOk e:=by
 have hi:=qnl w1 w2 h1 h2 p0 p1 t1 t2 (m+7);obtain⟨J,st',e,a,b,d,dg,es,vs,jo,cs,ro,rest,rfl,rfl,g1,g2⟩:=qa0 (c:=callD fns (m+10)) (i:=2) (t:=.tup [4,5]) (body:=[.expr (.mcall 642 45 "enter" (.var 3) [.var 4,.var 5])])
  (λi J st'=>∃a b d dg es vs jo cs ro rest,J=[Y2 (szD W H P),Y2 (.int T),Y2 (.lst (pl.map pD)),Y2 (.loc 0),a,b]/\st'=FC ⟨szD W H P,dg,(es:List En).map eD⟩ T d (voD vs) jo cs ro rest/\Ok i d dg es vs jo cs ro rest/\∀p∈pl.drop i,d<p.1)
  rfl ⟨Y3,Y3,0,[],[],[],[],[],[],[],rfl,rfl,ok0 w1 w2 h1 h2 p0 p1 t1 t2,λp F=>by have:=(hp p (Qjg F)).2; lia⟩ (λi J st' _=>rfl) (λi J st' x hx h=>by
   obtain⟨a,b,d,dg,es,vs,jo,cs,ro,rest,rfl,rfl,g1,g2⟩:=h;rw[Qqv]at hx;obtain⟨p,F,rfl⟩:=Qqf.mp hx;have a1:=(Qqk.mp F).1;have a2:=(Qqk.mp F).2;have dr:pl.drop i=p::pl.drop (i+1):=by rw[Qj1 a1,a2]
   obtain⟨q1,q2,q3⟩:=hp p (Qqm F);obtain⟨v,Z,Y,L,U,a0,O,z,e1,e2⟩:=qhn (T:=T) m g1 (by lia) q1 q2 (by lia) (g2 p (by rw[dr]; exact .head _));refine⟨_,_,qzc 8 [45] 10 (λq=>_/\q) [.c (v,FC ⟨szD W H P,Z,Y.map eD⟩ T p.1 (voD L) U a0 O z)] (r:=(.nx [Y2 (szD W H P),Y2 (.int T),Y2 (.lst (pl.map pD)),Y2 (.loc 0),Y2 (.int p.1),Y2 p.2],FC ⟨szD W H P,Z,Y.map eD⟩ T p.1 (voD L) U a0 O z)) ⟨e1,rfl⟩,_,_,p.1,Z,Y,L,U,a0,O,z,rfl,rfl,e2,λq hq=>?_⟩;have h5:=hs.sublist ((List.drop_sublist i pl).map _);rw[dr,Qqb,Qxh]at h5
   exact h5.1 q.1 (Qqw.mpr ⟨q,hq,rfl⟩))
 refine⟨d,dg,es,vs,jo,cs,ro,rest,qzz 8 [44] 11 (λq=>_/\_/\q) [.c (.non,FC ⟨szD W H P,[],([]:List En).map eD⟩ T 0 (voD []) [] [] [] []),.s (.nx [Y2 (szD W H P),Y2 (.int T),Y2 (.lst (pl.map pD)),Y2 (.loc 0),a,b],FC ⟨szD W H P,dg,es.map eD⟩ T d (voD vs) jo cs ro rest)] ⟨hi,e,rfl⟩,?_,g1.eo⟩;have:=g1.el;rw[Qqz]at this
 lia
end
def qn6(h:∀e∈es,EnOk e)(w):-(2*10 ^ 7*(es.length:Int))<=dues es w/\dues es w<=2*10 ^ 7*(es.length:Int):=by
 induction es with
 |nil=>exact⟨by simp[dues],by simp[dues]⟩
 |cons e r q=>
  have h1:=q λx z=>h x (.tail _ z);have h2:=(h e (.head _)).2.2.2.2;have F:dues (e::r) w=((if e.2.2.1=w then e.2.2.2 else 0) - (if e.2.1=w then e.2.2.2 else 0))+dues r w:=by unfold dues; rw[Qqb,Qzo]
  rw[F,Qqg]
  split<;>split<;>lia
noncomputable def tl(es:List En):List Int:=(List.range 40).map λ(i:Nat)=>dues es (1+i)
theorem qy7(f:Int->Int):∀n:Nat,((List.range n).map λ(i:Nat)=>f (1+i)).sum=sumTo f n
 |0=>rfl
 |n+1=>by
  rw[List.range_succ,Qqn,List.sum_append,qy7 f n];show sumTo f n+(f (1+n)+0)=sumTo f n+f (n+1);rw[Int.add_zero,Int.add_comm 1]
def sum_ok(S)(q:es.length<=48)(h:∀e∈es,EnOk e):bfun S .sum [.lst ((tl es).map .int)]=Y2 (.int 0,S):=by
 show((asInts ((tl es).map .int)).bind λns=>if sumOk ns then Y2 (D.int ns.sum,S) else Y3)=_;rw[asI'];show(if sumOk (tl es) then Y2 (D.int (tl es).sum,S) else Y3)=_;have e:(tl es).sum=0:=(qy7 (dues es) 40).trans (qho h);rw[Xq,e];unfold sumOk;rw[Qqo,Qq8];refine⟨by simp[tl],λn hn=>?_⟩;obtain⟨i,_,rfl⟩:=Qqw.mp hn;have:=qn6 h (1+(i:Nat));rw[Qqo,decide_eq_true_eq,decide_eq_true_eq]
 lia
def tl_at(S)(es)(z:1<=u)(q:u<=40):idxD S (.lst ((tl es).map .int)) (.int (u - 1))=Y2 (.int (dues es u)):=by
 show atI ((tl es).map D.int) (u - 1)=_;unfold atI ixN tl;rw[Xq (by lia),Xq (by simp; lia)];have hi:(u - 1).toNat<40:=by lia
 simp only[oBs,Qqv];rw[Qxk hi];show Y2 (D.int (dues es (1+((u - 1).toNat:Int))))=_;rw[show(1+((u - 1).toNat:Int))=u by lia]
def src41(c)(τ)(S):src (RL c) τ S (.rng2 (.lit (.int 1)) (.lit (.int 41)))=Y2 (.rng 1 40,S):=by
 have z:(RL c).ev τ S (.lit (.int 1))=Y2 (.int 1,S):=qqo _ _ _ _ _ rfl;have q:(RL c).ev τ S (.lit (.int 41))=Y2 (.int 41,S):=qqo _ _ _ _ _ rfl;show((RL c).ev _ _ _).bind _=_;rw[z];show((RL c).ev _ _ _).bind _=_;rw[q]
 rfl
def qyn(xs)(lo q):cut (xs.map D.int) lo q=(cut xs lo q).map .int:=by
 unfold cut;rw[Qqz,List.map_take,List.map_drop]
def gR(n)(S r:Yo):noLoc (.int n)=Y0/\(S++r).take S.length=S:=⟨rfl,by simp⟩
noncomputable abbrev lT(ns:List Int)(W H P T:Int)(pl:List (Int×D))(es:List En)(fl:List Int)(a6 a9 a10 a11:Option D):Sl:=[Y2 (scr ns),Y2 (szD W H P),Y2 (.int T),Y2 (.lst (pl.map pD)),Y2 (.loc 0),Y2 (.lst ((tl es).map .int)),a6,Y2 (.lst (es.map eD)),Y2 (.lst (fl.map .int)),a9,a10,a11]
noncomputable abbrev inB':List M.S:=[.set (.var 11) (.gc (.call 63 [.var 4,.var 6,.var 10])),.ite (.cmp .NotEq (.var 11) (.neg (.gc (.call 63 [.var 4,.var 10,.var 6])))) [.ret (.lit (.bl Y1))] [],.set (.var 9) (.bin .Sub (.var 9) (.var 11))]
noncomputable abbrev ouB:List M.S:=[.set (.var 9) (.lit (.int 0)),.forr (.var 10) (.rng2 (.lit (.int 1)) (.lit (.int 41))) inB',.ite (.cmp .NotEq (.var 9) (.idx (.var 5) (.bin .Sub (.var 6) (.lit (.int 1))))) [.ret (.lit (.bl Y1))] []]
section
variable {ns:List Int}{W H P T:Int}{pl:List (Int×D)}{es:List En}{fl:List Int}{S:Yo}{m:Nat}(hO:∀{a b:Int},1<=a->a<=40->1<=b->b<=40->∃r,callD fns (m+11) 63 [.loc 0,.int a,.int b] S=Y2 (.int (net es a b),S++r))
include hO
theorem qjy(Y:1<=u)(U:u<=40)(L J):∃b10 b11,stepEx (RL (callD fns (m+11))) (lT ns W H P T pl es fl (Y2 (.int u)) (Y2 (.int 0)) L J) S (.forr (.var 10) (.rng2 (.lit (.int 1)) (.lit (.int 41))) inB')=Y2 (.nx (lT ns W H P T pl es fl (Y2 (.int u)) (Y2 (.int (-sumTo (net es u) 40))) b10 b11),S):=by
 obtain⟨z,st',e,s,b10,b11,rfl,rfl,h⟩:=qqt (c:=callD fns (m+11)) (t:=.var 10) (body:=inB')
  (λi z st'=>∃(s:Int) (b10 b11:Option D),z=lT ns W H P T pl es fl (Y2 (.int u)) (Y2 (.int s)) b10 b11/\st'=S/\s=-sumTo (net es u) i)
  (src41 _ _ _) (by simp[Src.size]) (λi z st' _=>qk2 _ _ _) ⟨0,L,J,rfl,rfl,rfl⟩ (λi z st' x Z hp=>by
   obtain⟨s,b10,b11,rfl,rfl,hs⟩:=hp;rw[Qqv]at Z;obtain⟨i',F,rfl⟩:=Qqf.mp Z;have O:i<40:=by
    have:=(Qqk.mp F).1;simpa using this
   rw[Qxk O]at F;cases F;obtain⟨r1,e1⟩:=hO Y U (b:=1+(i:Nat)) (by lia) (by lia);obtain⟨r2,e2⟩:=hO (a:=1+(i:Nat)) (by lia) (by lia) Y U;have hb:(!(net es u (1+(i:Nat)) == -net es (1+(i:Nat)) u))=false:=by
    rw[qhk es u (1+(i:Nat)),beq_self_eq_true]
    rfl
   refine⟨_,_,qzc 0 [63] 11 (λq=>_/\_/\_/\_/\_/\q) [.c (.int (net es u (1+(i:Nat))),st'++r1),.g,.c (.int (net es (1+(i:Nat)) u),st'++r2),.g,.b Y1] (r:=(.nx (lT ns W H P T pl es fl (Y2 (.int u)) (Y2 (.int (s - net es u (1+(i:Nat))))) (Y2 (.int (1+(i:Nat)))) (Y2 (.int (net es u (1+(i:Nat)))))),st')) ⟨e1,gR (net es u (1+(i:Nat))) st' r1,e2,gR (net es (1+(i:Nat)) u) st' r2,hb,rfl⟩,_,_,_,rfl,rfl,?_⟩;show s - net es u (1+(i:Nat))=-(sumTo (net es u) i+net es u ((i:Nat)+1));rw[hs,Int.add_comm 1]
   lia)
 rw[Qqz,Qx7]at h;rw[h]at e;exact⟨b10,b11,e⟩
theorem qhx(he:∀e∈es,EnOk e)(hf:∀u∈fl,1<=u/\u<=40):∃O L F z,stepEx (RL (callD fns (m+11))) (lT ns W H P T pl es fl Y3 Y3 Y3 Y3) S (.forr (.var 6) (.var 8) ouB)=Y2 (.nx (lT ns W H P T pl es fl O L F z),S):=by
 obtain⟨J,st',e,O,L,F,z,rfl,rfl⟩:=qa0 (c:=callD fns (m+11)) (i:=8) (t:=.var 6) (body:=ouB)
  (λi J st'=>∃O L F z,J=lT ns W H P T pl es fl O L F z/\st'=S)
  rfl ⟨Y3,Y3,Y3,Y3,rfl,rfl⟩ (λi J st' _=>rfl) (λi J st' x Z hp=>by
   obtain⟨O,L,F,z,rfl,rfl⟩:=hp;rw[Qqv]at Z;obtain⟨u,hu,rfl⟩:=Qqf.mp Z;obtain⟨Y,U⟩:=hf u (Qqm hu);obtain⟨b10,b11,e1⟩:=qjy (ns:=ns) (W:=W) (H:=H) (P:=P) (T:=T) (pl:=pl) (fl:=fl) hO Y U F z;have hb:(!(-sumTo (net es u) 40==dues es u))=false:=by
    rw[qm5 he u,Int.neg_neg,beq_self_eq_true]
    rfl
   exact⟨_,_,qzc 0 [] 11 (λq=>_/\_/\_/\q) [.s (.nx (lT ns W H P T pl es fl (Y2 (.int u)) (Y2 (.int (-sumTo (net es u) 40))) b10 b11),st'),.i (.int (dues es u)),.b Y1] (r:=(.nx (lT ns W H P T pl es fl (Y2 (.int u)) (Y2 (.int (-sumTo (net es u) 40))) b10 b11),st')) ⟨e1,tl_at st' es Y U,hb,rfl⟩,_,_,_,_,rfl,rfl⟩)
 exact⟨O,L,F,z,e⟩
end
def qe3(h:x∈cut xs lo q):x∈xs:=Qjg (Qxr h)
def qe4(xs:List α)(lo q):(cut xs lo q).length<=xs.length:=by
 unfold cut;rw[Qzz,Qxn]
 lia
noncomputable abbrev eA(es:List En):List Int:=es.map λe=>e.2.1
noncomputable abbrev eC(es:List En):List Int:=es.map λe=>e.2.2.1
noncomputable abbrev yA(es:List En):List Int:=cut (eA es) (Y2 (-3)) Y3
noncomputable abbrev yC(es:List En):List Int:=cut (eC es) Y3 (Y2 3)
noncomputable abbrev xA(es:List En):List D:=cut ((eA es).map .int) (Y2 (-3)) Y3
noncomputable abbrev xC(es:List En):List D:=cut ((eC es).map .int) Y3 (Y2 3)
noncomputable abbrev fA(es:List En):List Int:=yA es++yC es++[1,40]
noncomputable def gD(es:List En):D->Option D
 |.int w=>Y2 (.int (dues es w))
 |_=>Y3
def law_ok(m)(ns)(O:ns.length<=63):∃st',callD fns (m+12) 81 [scr ns] []=Y2 (.bl Y0,st'):=by
 obtain⟨W,H,P,a0,w1,w2,h1,h2,p0,p1⟩:=qls O (m+9) [] 0;obtain⟨T,Z,t1,t2⟩:=qlf O (m+9) [] 0;obtain⟨v,hv,v1,v2⟩:=dr O (m+10) [] 0 20 (many:=21) (by decide) (by decide) (by decide);obtain⟨pl,a4,b3,J,a3⟩:=dug_ok O w1 w2 h1 h2 p0 p1 (m+5) [] 1 (many:=4+v) (by decide) (by decide) (by lia) (by lia);have gp:=qza (st:=[]) (pl_nl λp hp=>(J p hp).1);obtain⟨d,dg,es,vs,jo,cs,ro,rest,a5,a7,F⟩:=qb1 w1 w2 h1 h2 p0 p1 t1 t2 m (by lia) J a3;have hO:∀{a b:Int},1<=a->a<=40->1<=b->b<=40->∃r,callD fns (m+11) 63 [.loc 0,.int a,.int b] (FC ⟨szD W H P,dg,es.map eD⟩ T d (voD vs) jo cs ro rest)=Y2 (.int (net es a b),FC ⟨szD W H P,dg,es.map eD⟩ T d (voD vs) jo cs ro rest++r):=λa1 L b1 b2=>qmp (m+8) (by lia) rfl a1 L b1 b2;have hB:∀{w:Int},1<=w->w<=40->∃r,callD fns (m+11) 64 [.loc 0,.int w] (FC ⟨szD W H P,dg,es.map eD⟩ T d (voD vs) jo cs ro rest)=Y2 (.int (dues es w),FC ⟨szD W H P,dg,es.map eD⟩ T d (voD vs) jo cs ro rest++r):=λa1 L=>qb7 (m+8) (by lia) rfl F a1 L;have hE:=qks (sz:=⟨szD W H P,dg,es.map eD⟩) (T:=T) (d:=d) (fo:=voD vs) (jo:=jo) (ro:=ro) (cs:=cs) (rest:=rest) (m+10);have gE:=qza (st:=FC ⟨szD W H P,dg,es.map eD⟩ T d (voD vs) jo cs ro rest) (nl_e es);generalize hS:FC ⟨szD W H P,dg,es.map eD⟩ T d (voD vs) jo cs ro rest=S at hO hB gE;have c1:=qqg (c:=callD fns (m+11)) (τ:=[Y2 (scr ns),Y2 (szD W H P),Y2 (.int T),Y2 (.lst (pl.map pD)),Y2 (.loc 0),Y3,Y3,Y3,Y3,Y3,Y3,Y3]) (st:=S) (t:=.var 0) (elt:=.gc (.call 64 [.var 1,.var 0])) (sr:=[Y3,Y2 4]) (gD es) (λτ=>∃a,τ=[a,Y2 (.loc 0)])
  (src41 _ _ _) (λi=>qk2 _ _ _) (by simp[Src.size]) (by simp; unfold lim; lia) ⟨Y3,rfl⟩ (λτ x hx hp=>by
   obtain⟨a,rfl⟩:=hp;obtain⟨i,hi,rfl⟩:=Qqw.mp hx;have hi:=Qz7.mp hi;obtain⟨r,e⟩:=hB (w:=1+(i:Nat)) (by lia) (by lia)
   exact⟨[Y2 (.int (1+(i:Nat))),Y2 (.loc 0)],qk3 rfl (qzf 0 [64] 11 (λq=>_/\_/\q) [.c (.int (dues es (1+(i:Nat))),S++r),.g] ⟨e,gR (dues es (1+(i:Nat))) S r,rfl⟩),_,rfl⟩)
 have e1:((List.range 40).map λ(i:Nat)=>D.int (1+i)).filterMap (gD es)=(tl es).map .int:=rfl;rw[e1]at c1;have g1:=qza (st:=S) (nlI (tl es));have c2:=qx2 (c:=callD fns (m+11)) (τ:=[Y2 (scr ns),Y2 (szD W H P),Y2 (.int T),Y2 (.lst (pl.map pD)),Y2 (.loc 0),Y2 (.lst ((tl es).map .int)),Y3,Y3,Y3,Y3,Y3,Y3]) (st:=S) (i:=5) (elt:=.and (.isi (.var 0) [M.Ty.int] Y1) (.not (.isi (.var 0) [M.Ty.bl] Y1))) (sr:=[Y3]) (tl es) .int (λ_=>.bl Y0) rfl rfl (by simp[tl]; unfold lim; lia) rfl λp _=>qzf 0 [] 11 (λq=>q) [] rfl;have e2:(tl es).map (λ_=>D.bl Y0)=((tl es).map λ_=>Y0).map .bl:=by rw[Qq5]; rfl
 rw[e2]at c2;have g2:=qza (st:=S) (nlB ((tl es).map λ_=>Y0));have L:bfun S .all [.lst (((tl es).map λ_=>Y0).map .bl)]=Y2 (.bl Y0,S):=by
  show(asBools (((tl es).map λ_=>Y0).map .bl)).map (λbs=>(D.bl (bs.all id),S))=_;rw[asB];exact congrArg (λb=>Y2 (D.bl b,_)) (by simp)
 have s2:=sum_ok S a7 F;have c3:=qx2 (c:=callD fns (m+11)) (τ:=[Y2 (scr ns),Y2 (szD W H P),Y2 (.int T),Y2 (.lst (pl.map pD)),Y2 (.loc 0),Y2 (.lst ((tl es).map .int)),Y3,Y2 (.lst (es.map eD)),Y3,Y3,Y3,Y3]) (st:=S) (i:=7) (elt:=.idx (.var 0) (.lit (.int 1))) (sr:=[Y3]) es eD (λe=>.int e.2.1) rfl rfl (by unfold lim; lia) rfl λp _=>qzf 0 [] 11 (λq=>q) [] rfl;have c4:=qx2 (c:=callD fns (m+11)) (τ:=[Y2 (scr ns),Y2 (szD W H P),Y2 (.int T),Y2 (.lst (pl.map pD)),Y2 (.loc 0),Y2 (.lst ((tl es).map .int)),Y3,Y2 (.lst (es.map eD)),Y3,Y3,Y3,Y3]) (st:=S) (i:=7) (elt:=.idx (.var 0) (.lit (.int 2))) (sr:=[Y3]) es eD (λe=>.int e.2.2.1) rfl rfl (by unfold lim; lia) rfl λp _=>qzf 0 [] 11 (λq=>q) [] rfl;have e3:es.map (λe=>D.int e.2.1)=(eA es).map .int:=by rw[Qq5]; rfl
 have e4:es.map (λe=>D.int e.2.2.1)=(eC es).map .int:=by rw[Qq5]; rfl
 rw[e3]at c3;rw[e4]at c4;have g3:=qza (st:=S) (nlI (eA es));have g4:=qza (st:=S) (nlI (eC es));have g5:=qza (st:=S) (nlI (yA es));have g6:=qza (st:=S) (nlI (yC es));rw[<- qyn]at g5 g6;have hA:∀u∈yA es,1<=u/\u<=40:=λu z=>by
  obtain⟨e,he,rfl⟩:=Qqw.mp (qe3 z);have:=F e he;unfold EnOk at this
  lia
 have hC:∀u∈yC es,1<=u/\u<=40:=λu z=>by
  obtain⟨e,he,rfl⟩:=Qqw.mp (qe3 z);have:=F e he;unfold EnOk at this
  lia
 have lA:(yA es).length<=es.length:=by have:=qe4 (eA es) (Y2 (-3)) Y3; rwa [Qqz]at this
 have lC:(yC es).length<=es.length:=by have:=qe4 (eC es) Y3 (Y2 3); rwa [Qqz]at this
 have Y:xA es=(yA es).map .int:=qyn (eA es) (Y2 (-3)) Y3;have U:xC es=(yC es).map .int:=qyn (eC es) Y3 (Y2 3);have o1:decide (lim<(xA es).length+(xC es).length)=false:=Z8 (by rw[Y,U,Qqz,Qqz]; unfold lim; lia);have o2:decide (lim<(xA es++xC es).length+[D.int 1,D.int 40].length)=false:=Z8 (by rw[Y,U,Qqi,Qqz,Qqz]; show ¬ (lim<_+_+2); unfold lim; lia)
 obtain⟨a6,a9,b0,a8,lo⟩:=qhx (ns:=ns) (W:=W) (H:=H) (P:=P) (T:=T) (pl:=pl) (fl:=fA es) hO F (λu z=>by
  rw[Qqh,Qqh]at z;rcases z with (z|z)|z
  ·exact hA u z
  ·exact hC u z
  ·rcases Qqa.mp z with rfl|z
   ·lia
   ·cases Qqy.mp z; lia)
 have ef:(fA es).map D.int=xA es++xC es++[.int 1,.int 40]:=by rw[Qqn,Qqn,Y,U]; rfl
 have g8:gcD S (.loc (S++[Yc.lst Y0 (xA es++xC es)]).length,S++[.lst Y0 (xA es++xC es)]++[.lst Y0 (xA es++xC es++[.int 1,.int 40])])=(.lst ((fA es).map D.int),S):=by
  have:=qno (st:=S) (ex:=[.lst Y0 (xA es++xC es),.lst Y0 (xA es++xC es++[.int 1,.int 40])]) (i:=1) rfl (by rw[<- ef]; exact nlI _);rw[ef,Qqi,Qzj];exact this
 have g7:=qza (st:=S++[.lst Y0 (xA es++xC es)]) (ds:=[.int 1,.int 40]) rfl;have r7:=gl (st:=S) (c:=.lst Y0 (xA es++xC es));subst hS
 exact⟨_,qzz 8 [66,67,65,79,80,60] 12 (λq=>_/\_/\_/\_/\_/\_/\_/\_/\_/\_/\_/\_/\_/\_/\_/\_/\_/\_/\_/\_/\_/\_/\_/\_/\_/\_/\q)
  [.c (szD W H P,[]),.c (.int T,[]),.c (.int v,[]),.c (.loc 0,[.lst Y0 (pl.map pD)]),.l (pl.map pD),.c (.loc 0,FC ⟨szD W H P,dg,es.map eD⟩ T d (voD vs) jo cs ro rest),
   .c (.loc (FC ⟨szD W H P,dg,es.map eD⟩ T d (voD vs) jo cs ro rest).length,FC ⟨szD W H P,dg,es.map eD⟩ T d (voD vs) jo cs ro rest++[.lst Y0 ((tl es).map .int)]),.l ((tl es).map .int),
   .c (.loc (FC ⟨szD W H P,dg,es.map eD⟩ T d (voD vs) jo cs ro rest).length,FC ⟨szD W H P,dg,es.map eD⟩ T d (voD vs) jo cs ro rest++[.lst Y0 (((tl es).map λ_=>Y0).map .bl)]),.l (((tl es).map λ_=>Y0).map .bl),.c (.bl Y0,FC ⟨szD W H P,dg,es.map eD⟩ T d (voD vs) jo cs ro rest),.c (.int 0,FC ⟨szD W H P,dg,es.map eD⟩ T d (voD vs) jo cs ro rest),.k,
   .c (.loc (FC ⟨szD W H P,dg,es.map eD⟩ T d (voD vs) jo cs ro rest).length,FC ⟨szD W H P,dg,es.map eD⟩ T d (voD vs) jo cs ro rest++[.lst Y0 (es.map eD)]),.l (es.map eD),
   .c (.loc (FC ⟨szD W H P,dg,es.map eD⟩ T d (voD vs) jo cs ro rest).length,FC ⟨szD W H P,dg,es.map eD⟩ T d (voD vs) jo cs ro rest++[.lst Y0 ((eA es).map .int)]),.l ((eA es).map .int),.l (xA es),
   .c (.loc (FC ⟨szD W H P,dg,es.map eD⟩ T d (voD vs) jo cs ro rest).length,FC ⟨szD W H P,dg,es.map eD⟩ T d (voD vs) jo cs ro rest++[.lst Y0 ((eC es).map .int)]),.l ((eC es).map .int),.l (xC es),
   .b Y1,.l [.int 1,.int 40],.r (.lst Y0 (xA es++xC es)),.b Y1,.l ((fA es).map D.int),
   .s (.nx (lT ns W H P T pl es (fA es) a6 a9 b0 a8),FC ⟨szD W H P,dg,es.map eD⟩ T d (voD vs) jo cs ro rest)]
  (r:=(.bl Y0,FC ⟨szD W H P,dg,es.map eD⟩ T d (voD vs) jo cs ro rest))
  ⟨a0,Z,hv,a4,gp,a5,c1,g1,c2,g2,L,s2,hE,gE,c3,g3,g5,c4,g4,g6,o1,g7,r7,o2,g8,lo,rfl⟩⟩
end K38
end
namespace K38
open PySem PySem.Spec PyProof.Rows L2 MS
open M (D Yc Yo Sl E S T Src Fn Out R)
def ar0{P:List Yv->Prop}(h:P []):∀us:List Yv,us.length=0->P us:=λus e=>by
 cases us with
 |nil=>exact h
 |cons a r=>cases e
def arS{P:List Yv->Prop}(h:∀a,∀us:List Yv,us.length=n->P (a::us)):∀us:List Yv,us.length=n+1->P us:=λus e=>by
 cases us with
 |nil=>cases e
 |cons a r=>exact h a r (Nat.succ.inj e)
def bs:∀r∈tab,Bd r:=by
 repeat' first|exact Qqr _|refine List.forall_mem_cons.mpr ⟨?_,?_⟩
 all_goals first|exact λ_ _ _ _ _ _=>arS λ_=>ar0 rfl|exact λ_ _ _ _ _ _=>arS λ_=>arS λ_=>ar0 rfl|exact λ_ _ _ _ _ _=>arS λ_=>arS λ_=>arS λ_=>ar0 rfl|exact λ_ _ _ _ _ _=>arS λ_=>arS λ_=>arS λ_=>arS λ_=>ar0 rfl|exact λ_ _ _ _ _ _=>arS λ_=>arS λ_=>arS λ_=>arS λ_=>arS λ_=>ar0 rfl
end K38
open PySem PySem.W PyProof.Rows
set_option maxRecDepth 100000 in
set_option maxHeartbeats 0 in
theorem PySem.Challenge.cw_dipright_k38_whole_accounts_come_to_noug_holds : PySem.Challenge.rw_dipright_k38_whole_accounts_come_to_noug.Holds := by
 w_on; o_law
 refine holds_open (XP:=XL (K38.vw PZW) []) (YP:=InK K38.KF) K38.left (InK.of (λ_=>by kernel_rfl)) InK.keeps (λs e=>xl_of s (Bool.and_eq_true_iff.mp e).1) XL.keeps (by rfl) (by rfl) (by rfl) (λs e=>recFacts_of (Bool.and_eq_true_iff.mp e).2) (by rfl) (by assumption) (by decide +kernel) ⟨rfl,rfl,rfl,rfl,rfl,by decide +kernel⟩ ?hw ?hc
 (case hw=>w_witness2)
 refine MS.walk_law (l:=RZW) (K:=K38.KH) (k:=2*20) (x:="_law_script") rfl rfl ⟨rfl,by decide,by decide⟩ (λw h Y=>Y) ?F
 case F=>
  intro w mg fa h KX G hmg
  k_fill
  refine MS.law_mk (t:=K38.tab) (glo:=K38.glo) (i:=81) (n:=19) KX G hmg rfl rfl rfl K38.bs (by decide +kernel) (K38.law_ok 8) ?_ ?_ ?_ ?_ ?_ ?_
  all_goals repeat' first|exact Qqr _|refine List.forall_mem_cons.mpr ⟨?_,?_⟩|apply MS.RwK.fn|apply MS.RwK.me|apply MS.ClK.mk|apply MS.GlK.mk|apply MS.GdK.mk|exact MS.vNil|exact MS.eNil|apply MS.vCons|apply MS.eCons|apply MS.vTup
  all_goals try dsimp only
  all_goals first|exact MS.vInt|exact MS.vStr|k_is|rfl

