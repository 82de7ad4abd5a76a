import PyProof.Rows.All
import Wide.All
import OpenK.AllK
import Wide.FinOn
import Lean
import PyProof.TableCode
import PyProof.EqAt
import PyProof.EqKinds
import PyProof.TupleCall
import PyProof.NeKinds
import PyProof.ZipIter
import PyProof.StrLoop
import PyProof.StrWalks
import PyProof.StrCalls
import PyProof.StrCalls2
import PyProof.StrLawsIn
import PyProof.SliceStr2
import PyProof.StrBlock
import PyProof.Rows.StrFirst
import KE.KIntText
import PyProof.StrLawsChain
import PyProof.StrLawsTight
import PyProof.CallStr
import PyProof.Rows.FStr
import PySem.SetTable
import PyProof.TupleKey
import PyProof.SetKind
import PyProof.IsRules
import PyProof.Rows.SetFrom
import PyProof.WalksMore
import PyProof.TupleIter
import KE.KSortTup
import KE.KTryMore
import PySem.Challenge.RW_dipright_k35_what_a_dig_brings
set_option Elab.async false
set_option backward.eqns.nonrecursive false
set_option genInjectivity false
set_option genSizeOf false
set_option bootstrap.genMatcherCode false
set_option linter.all false
set_option maxRecDepth 100000
set_option maxHeartbeats 4000000
open _root_ renaming List->L,Int->J,Nat->Y1,Option->Y4,Bool->Yc
open Bool renaming true->Z,false->Y7
open Option renaming some->Y,none->B
open PySem renaming Value->Y9,Addr->Y8,Str->Y6
open PySem renaming wpAny_bind->Qq,Shared->Qz,wpAny_pure->Qx,Expr->Qj,World->Qk,Around->Qv,wpAny_field->Qw,wpAny_setField_rec->Qy,SetTable->Qa,eval->Qb,wpAny_callSpecial?_slot->Qc,bootBuiltins->Qd,wpAny_call_entry->Qe,wpAny_truthy_bool->Qf,sysModules->Qg,compareOp->Qi,wpAny_mono->Ql,wpAny_newObj_type->Qm,NameKind->Qn,DictEntry->Qo,wpAny_seqItems->Qp,FuncData->Qr,Builtin->Qs,Params->Qt,wpAny_specialOf->Qu,call_meets->Q0,treeTable->Q1,sizeLine_eq->Q2,binaryOp->Q3,wpAny_holding->Q4,wpAny_attempt->Q5,importedModules->Q6,assignEach->Q7,tupleKind_room_in1->Q8,wpAny_setState_of->Q9,codeAny_mono->Zq,builtinLookup_eq_fast->Zz,wpAny_rule->Zx,wpAny_isInstance->Zj,attributeBase->Zk,getItem->Zv,sliceBounds->Zw,wpAny_of_eq->Zy,wpAny_passesOwn->Za,wpAny_loadPart'->Zb,codeAny_builtin->Zc,wpAny_Call_Name_kw->Zd,codeAny->Ze,isSubtype_type->Zf,wpAny_pyIter_list->Zg,ofAClassStatement->Zh,behindInMarks->Zi,Operator->Zm,letOwnedTupleGo->Zo,wpAny_typeOf->Zp,typeLookup_type->Zr,reduceHash->Zs,Keyword->Zu,callerA->Z1,getMethod->Z2,wpAny_onRaise->Z3,setSearchFrom->Z4
open PySem.W renaming boot_heap->Qh,behindTheImports->Zl
open PyProof.Rows renaming AllBare->Zn,IntsAre->Z0
section
universe u
theorem Z5[Decidable p](h:p):decide p=true:=decide_eq_true h
theorem Z6[Decidable p](h:¬p):decide p=false:=decide_eq_false h
theorem Z7{h:Decidable c}(n:¬c){t e:α}:ite c t e=e:=if_neg n
theorem Z8{h:Decidable c}(n:c){t e:α}:ite c t e=t:=if_pos n
end
open PySem.Challenge renaming pw_dipright_k35_what_a_dig_brings->PZW,rw_dipright_k35_what_a_dig_brings->RZW
open PySem.W renaming Frag->Qqq,keepIn->Qzr,nsIn->Qx5,mg_of->Qjz,methodCall_KW->Qjk,plainGet_of->Qjh,callWith_K->Qjl,cellsFrom_some->Qkq
open PySem.Heap renaming get?_push_of_some->Qqz,lt_size->Qqb,get?_push_size->Qqf,size_push->Qz9,get?_update_self->Qxn,get?_update_other->Qjq
open List renaming length_map->Qqx,getElem?_eq_some_iff->Qqk,mem_map->Qqv,getElem?_map->Qqw,mem_singleton->Qqy,mem_cons->Qqa,size_toArray->Qqc,length_append->Qqe,length_cons->Qqg,map_cons->Qqh,getElem?_eq_getElem->Qqi,mem_append->Qql,map_append->Qqm,mem_of_getElem?->Qqo,forall_mem_nil->Qqp,mem_cons_of_mem->Qqs,getElem?_set_ne->Qqt,mem_append_right->Qqu,mem_cons_self->Qq2,not_mem_nil->Qq4,append_nil->Qq5,getElem?_append_left->Qq6,map_map->Qq7,append_assoc->Qzq,getElem?_set_self->Qzz,all_eq_true->Qzx,nodup_cons->Qzj,length_take->Qzk,lookup_cons->Qzv,find?_cons->Qzy,take_length->Qzc,mem_append_left->Qzf,getElem?_eq_none_iff->Qzg,filterMap_cons->Qzh,all_cons->Qzi,mem_range->Qzl,getElem?_eq_none->Qzm,take_succ_eq_append_getElem->Qzn,getElem?_append_right->Qzp,replicate_succ->Qzs,length_set->Qzt,mem_of_find?_eq_some->Qzu,any_cons->Qz2,length_eq_zero_iff->Qz3,getElem_of_mem->Qz5,map_congr_left->Qz6,mem_filterMap->Qz8,length_singleton->Qxq,flatten_cons->Qxx,map_nil->Qxy,mem_filter->Qxa,nodup_append->Qxb,take_succ->Qxc,any_eq_true->Qxd,getElem_mem->Qxe,filterMap_map->Qxf,pairwise_cons->Qxg,find?_eq_none->Qxh,take_of_length_le->Qxi,length_filter_le->Qxm,filterMap_eq_map->Qxp,getElem?_range->Qxs,length_pos_iff->Qxt,pairwise_iff_getElem->Qxu,find?_some->Qx0,drop_eq_getElem_cons->Qx1,filter_append->Qx2,getElem?_take->Qx3,length_filterMap_le->Qx6,take_sublist->Qx7,length_range->Qx9,length_drop->Qjx,length_replicate->Qjv,take_append_drop->Qjw,filterMap_append->Qjy,foldl_cons->Qjb,getElem_toArray->Qjc,pairwise_append->Qje,forall_mem_cons->Qjf,take_append_of_le_length->Qjg,map_id->Qji,set_cons_zero->Qjm,length_zipIdx->Qjn,any_eq_false->Qjo,ext_getElem?->Qjt,foldl_append->Qju,find?_append->Qj0,getElem?_take_of_lt->Qj1,filter_cons->Qj4,getElem?_replicate->Qj6,getElem?_cons_succ->Qj7,of_mem_zip->Qj8,length_nil->Qj9,take_zero->Qkk,mapM_cons->Qkv
open Nat renaming le_refl->Qqj,ne_of_lt->Qqr,lt_of_lt_of_le->Qq3,zero_le->Qq8,lt_succ_self->Qzb,lt_irrefl->Qzo,le_trans->Qz0,lt_or_ge->Qz7,le_succ_of_le->Qxj,le_of_lt_succ->Qxk,le_succ->Qxv,ne_of_gt->Qxw,lt_succ_of_lt->Qxl,succ_pos->Qxo,zero_add->Qx4,le_add_right->Qjj,le_of_lt->Qja,mod_lt->Qjd,lt_trichotomy->Qjs,zero_lt_succ->Qj2,succ_le_succ->Qj5,blt_eq->Qkw
open Option renaming map_eq_some_iff->Qqd,isSome_iff_exists->Qz1,isSome_map->Qx8,bind_assoc->Qjp,map_eq_none_iff->Qkj
open Bool renaming and_eq_true->Qqn,false_ne_true->Qq0,false_eq_true->Qzw,or_eq_true->Qza,eq_iff_iff->Qxz,and_true->Qxr,not_true->Qky
open Array renaming getElem?_toList->Qq1,getElem?_eq_getElem->Qq9,length_toList->Qzd,getElem?_eq_some_iff->Qze,getD_eq_getD_getElem?->Qz4,size_append->Qjr,getElem?_replicate->Qj3,getElem?_extract->Qkz,getElem?_eq_none->Qkx
section
universe u v
theorem oBs(a)(f:α->Y4 b):(Y a).bind f=f a:=rfl
theorem oMs(a)(f:α->b):(Y a).map f=Y (f a):=rfl
end
namespace L2
open PySem PySem.Spec PyProof.Rows
noncomputable def qqf(s:Stmt):Arguments:=match s with
 |.FunctionDef _ a _ _ _ _ _ _ _ _=>a
 |_=>{ posonlyargs:=[],args:=[],vararg:=B,kwonlyargs:=[],kw_defaults:=[],kwarg:=B,defaults:=[] }
noncomputable def qz0(s:Stmt):L Stmt:=match s with
 |.FunctionDef _ _ b _ _ _ _ _ _ _=>b
 |_=>[]
noncomputable def qzy(s:Stmt):Scope:=match s with
 |.FunctionDef _ _ _ _ _ _ sc _ _ _=>sc
 |_=>{ kind:=.function,names:=[],isGenerator:=Y7,isCoroutine:=Y7 }
end L2
namespace K35
open PySem PySem.Spec PyProof.Rows
noncomputable def top(i:Y1):Stmt:=PZW.main.body.getD i (.Pass ⟨0,0,0,0⟩)
noncomputable def cb(s:Stmt)(j:Y1):Stmt:=match s with
 |.ClassDef _ _ _ b _ _ _ _ _ _ _=>b.getD j (.Pass ⟨0,0,0,0⟩)
 |_=>s
end K35
namespace HD
open PySem PySem.W PySem.Calls PyProof.Rows
noncomputable def lf:Life:=PySem.Life.mk [] [] [] 0 [] [] Bool.false #[] [] 0 Bool.false Bool.false Bool.false 0 [2000,10,10] Bool.false 0 Bool.true [] [] 0 Bool.false
noncomputable def sM:Y6:=⟨#[60,109,111,100,117,108,101,62]⟩
noncomputable def sF:Y6:=⟨#[47,99,108,97,105,109,47,99,117,116,46,112,121]⟩
noncomputable def sN:Y6:=⟨#[95,95,109,97,105,110,95,95]⟩
noncomputable def bt(l:L Obj):BT:=(l.foldl (λ(p:BT×Y1) o=>(p.1.ins p.2 o,p.2+1)) (.nil,0)).1
noncomputable def Ta(P:Qt):BT:=bt ((Qh P).objs.toList++[Obj.mk (.type "tuple") B (.seq #[]) #[],Obj.mk .none B (.fields #[]) #[],
 Obj.mk (.type "code") B (.fields #[.str sM 182,.str sM 183,.str sF 184,.int 1 0,.int 0 0,.int 0 0,.int 0 0,.int 0 0,.ref 11,.bool Y7,.int 181 0,.ref 12,.none,.none,.none,.none,.int 185 0,.int 1 0,.str sF 186]) #[],
 Obj.mk (.type "frame") B .plain #[Y (.ref 13),Y (.ref 3),Y (.ref 3),B,Y (.str sN 164),B,Y (.ref 0)]])
noncomputable def Sa(w:Qk)(os:OsState):SharedT:=⟨Ta w.params,15,lf,#[],⟨0,0,0,0⟩,187,os⟩
noncomputable abbrev an:Y4 Y9:=Y (.ref 6)
noncomputable abbrev p0:Pos:=⟨0,0,0,0⟩
noncomputable def ev(p:Program):Env:={ scope:=p.main.scope,locals:=mainNs,globals:=mainNs,cells:=[],code:=.ref 13,frame:=Y 14 }
noncomputable def cE(p:Program):Code:=.body (Zl p) (ev p)
noncomputable def Lk(p q:Program)(loose:L Y6)(Xt:Program->Qz->Yc)(ads:L Y8)(w:Qk)(s:Qz):=(staticsOk (Q6 p.main.body) (Qh w.params) s.heap&&namesBound p s.heap&&gensDone s&&laidKept (Qh w.params) s.heap,openSeen q loose (Q6 p.main.body) (Xt q) Z s,ads.map s.heap.get?)
theorem fin_of:topRun Q1 p w 11 an 2 s (restOf [] env c q [topFrame p0])=Y s:=by
 cases s
 rfl
noncomputable abbrev Fs(p:Program)(w:Qk)(s:Qz):Bool:=staticsOk (Q6 p.main.body) (Qh w.params) s.heap&&namesBound p s.heap&&gensDone s&&laidKept (Qh w.params) s.heap
theorem qny{os:OsState}(z:((Qh w.params).isNs mainGlobals&&(Array.mk []:Array GenState).size==0,(Qh w.params).objs.size,(Qh w.params).nsMap mainGlobals "__annotations__")=(Z,11,an))(r:topRun Q1 p w 11 an N ⟨Qh w.params,#[],boot_drawn,boot_toks,os⟩ (topStub p)=Y s)(l:Fs p w s=Z):topFrom Q1 p w N ⟨Qh w.params,#[],boot_drawn,boot_toks,os⟩=Y s:=by
 have c:=congrArg (·.1) z;have b:=congrArg (·.2.1) z;have a:=congrArg (·.2.2) z;dsimp only at c b a;simp only[topFrom,c,b,a,r,oBs];show(match Fs p w s with|true=>Y s|false=>B)=_;rw[l]
noncomputable def Rn(p:Program)(n:Y1)(w:Qk)(os:OsState):=segRunT Q1 p w 11 an 1 n (Sa w os) (piecesOf (Zl p) (ev p) (cE p) p0 [topFrame p0])
noncomputable def LA(p q:Program)(ads:L Y8)(w:Qk)(s:Qz):=(staticsOk (Q6 p.main.body) (Qh w.params) s.heap&&namesBound p s.heap&&gensDone s&&laidKept (Qh w.params) s.heap,seen ((recsOf q).map (·.name)) (ownsOf q) [] { s with gens:=#[] },ads.map s.heap.get?)
noncomputable def LB(p q:Program)(loose:L Y6)(Xt:Program->Qz->Yc)(s:Qz):Bool:=s.heap.keysOk (looseW q loose) ((recsOf q).map (·.name)) ((litsOf q).map (·.1)) ((clssOf q (looseW q loose)).map (·.name))&&s.heap.accountedOkI (Q6 p.main.body)&&s.heap.isNs mainGlobals&&s.heap.isNs builtinsNs&&tablesOk q s.heap&&Xt q s&&s.gens.size==0
noncomputable def LD(q:Program)(loose:L Y6)(s:Qz):=(s.heap.bltView,tabsOk q s,pinSeenD q (drecsOf q) s,clsSeenW q loose s)
noncomputable def LG(q:Program)(loose:L Y6)(s:Qz):=(wideSeen q s,plainSeenD q loose s)
theorem lo3{K:Qt->Frag}(k:∀w:Qk,Option.map (λs:Qz=>(s.heap,s.gens,s.drawn,s.toks)) (fencedOpening Q1 p w N)=Y (Qh w.params,#[],boot_drawn,boot_toks))(z:∀w:Qk,((Qh w.params).isNs mainGlobals&&(Array.mk []:Array GenState).size==0,(Qh w.params).objs.size,(Qh w.params).nsMap mainGlobals "__annotations__")=(Z,11,an))(pre:∀w:Qk,(λos=>topGo Q1 p w 11 an 12 ⟨Qh w.params,#[],boot_drawn,boot_toks,os⟩ (topStub p))=λos=>Y ((Sa w os).abs,⟨denote Q1 (cE p),cE p,p0,[topFrame p0]⟩))(blk:∀w:Qk,(λos=>segRun Q1 p w 11 an 1 1 (Sa w os).abs (blockOf (Zl p) (ev p) (cE p) p0 [topFrame p0]))=λos=>Y (Flow.next,(Sa w os).abs,cE p,p0))(E:∀w:Qk,(λos=>(Rn p n w os).map λr=>(r.1,r.2.2.1,r.2.2.2,LA p q ads w r.2.1.abs))=λ_=>Y (Flow.next,cE p,p1,Z,expectedOf q,(K w.params).map λp=>Y p.2))(gB:∀w:Qk,(λos=>(Rn p n w os).map λr=>LB p q loose Xt r.2.1.abs)=λ_=>Y Z)(D:∀w:Qk,(λos=>(Rn p n w os).map λr=>plainSeenE q (looseW q loose) r.2.1.abs)=λ_=>Y (plainGoodE q (looseW q loose)))(C:∀w:Qk,(λos=>(Rn p n w os).map λr=>LD q loose r.2.1.abs)=λ_=>Y (bltViewBooted,Z,pinGoodD (drecsOf q),clsGoodW q loose))(A:∀w:Qk,(λos=>(Rn p n w os).map λr=>LG q loose r.2.1.abs)=λ_=>Y (wideGood q,plainGoodD q loose))(le:Nat.ble (12+(1+(n+2))) N=Z):LeftO p q loose (Xt q) (λs=>ads.map s.heap.get?) (λw=>(K w.params).map λp=>Y p.2) N:=by
 intro w
 rcases Qqd.mp (k w) with⟨S,P,hS⟩
 rcases S with⟨H,g,d,t,os⟩
 have h1:H=Qh w.params:=congrArg (·.1) hS;have h2:g=#[]:=congrArg (·.2.1) hS;have y:d=boot_drawn:=congrArg (·.2.2.1) hS;have x:t=boot_toks:=congrArg (·.2.2.2) hS;subst h1 h2 y x
 rcases Qqd.mp (congrFun (E w) os) with⟨⟨f,i,c,j⟩,run,same⟩
 have h:∀{α:Type}{g:Flow×SharedT×Code×Pos->α}{v:α},(Rn p n w os).map g=Y v->g (f,i,c,j)=v:=λe=>by rw[run]at e; exact Option.some.inj e
 have I:f=Flow.next:=congrArg (·.1) same;have G:c=cE p:=congrArg (·.2.1) same;have F:j=p1:=congrArg (·.2.2.1) same;have o:Fs p w i.abs=true:=congrArg (·.2.2.2.1) same;have u:=congrArg (·.2.2.2.2.1) same;have l:=congrArg (·.2.2.2.2.2) same;have b:=h (congrFun (gB w) os);have c0:=h (congrFun (D w) os);have d:=h (congrFun (C w) os);have e:=h (congrFun (A w) os);have m:openSeen q loose (Q6 p.main.body) (Xt q) Z i.abs=openGood q loose:=Prod.ext u (Prod.ext (congrArg (·.1) d) (Prod.ext b (Prod.ext (congrArg (·.2.1) d) (Prod.ext (congrArg (·.2.2.1) d) (Prod.ext c0 (Prod.ext (congrArg (·.2) e) (Prod.ext (congrArg (·.1) e) (congrArg (·.2.2.2) d))))))));subst I G F;have a:=piece_app (rest:=[]) (segRun_of run) fin_of;rw[Qq5]at a;have all:=go_top (congrFun (pre w) os) (piece_block (congrFun (blk w) os) a);have more:=topRun_mono (N - (12+(1+(n+2)))) _ _ _ _ all;rw[Nat.add_sub_cancel' (Nat.le_of_ble_eq_true le)]at more;simp only[openEnds,P,oBs,qny (z w) more o,oMs];exact congrArg Y (Prod.ext m l)
end HD
namespace K35
open PySem L2
noncomputable def c0:L Y6:=["_law_plan","_law_script","_law_k","_law_size_here","_law_many","_law_pace","_law_draw","_law_plan_here","_law_day","_law_at","range","append"]
noncomputable def c1:L Y6:=["_law_fact","_law_dig","_law_mouth","_law_rect","_law_spot","_law_worth","dig","_law_who","_law_pay","_law_giver","_law_taker","pay"]
noncomputable def c2:L Y6:=["_law_dug","_law_found","_law_fact_here","_law_way","len","vein","_law_brought","_law_field","_law_whose","owner","over","claim"]
noncomputable def c3:L Y6:=["law","_law_size","_law_term_here","_law_term","Field","_law_book","_law_spots","_law_ahead","twin","pass_to","_law_word","good"]
noncomputable def c4:L Y6:=["dug","_law_told","enter","_law_same","entries","_law_j","_law_pick","_law_names","_law_vein","_law_steps","_law_outs","_law_claim_fact"]
noncomputable def c5:L Y6:=["_law_claim","_law_who_here","_law_side","_law_line","min","work","sell","part","give","_law_veins",".0","stake"]
noncomputable def c6:L Y6:=["_law_floor","join","fast","_law_due","isinstance","tuple","list","_law_like","all","int","bool","str"]
noncomputable def c7:L Y6:=["_law_wide","_law_tall","_law_deep","_law_sizes","_law_rest","_law_x","sorted","_law_y","_law_count","_law_first","_law_stride","_law_place"]
noncomputable def c8:L Y6:=["check_district","wide","tall","deep","term","fits","LENGTHS","DEPTHS","TERMS","BadNumber","not the numbers of a district","check_day"]
noncomputable def c9:L Y6:=["day","DAYS","not a day","__init__","self","extent","year","found","joints","staked","Claims","debts"]
noncomputable def c10:L Y6:=["fact","sound","BadFact","not sound for this district","Late","the field's day isn't earlier","answer","enter_vein","enter_join","enter_stake","enter_dig","enter_pay"]
noncomputable def c11:L Y6:=["change","vest_all","other","novein","order","joined","outcrops","extend","who","spot","worth","owe"]
noncomputable def c12:L Y6:=["COIN","gatekeeper","mouth","debtor","creditor","tenths","the field's day is later","today","_wall","size","veins","claims"]
noncomputable def c13:L Y6:=["name","NoVein","no vein is known by that day","get","named","ground","last","vested","given","state","years","standing"]
noncomputable def c14:L Y6:=["dict","__name__","law_dipright_k35_what_a_dig_brings","_law_cell","_law_turn","_law_step","_law_one","_law_two","field","cell","standing_grounds","inside"]
noncomputable def c15:L Y6:=["dipright.field","ranked","grounds","heads","first","behind","has_one","dip","covers","heirs","columns_at","first_claim"]
noncomputable def c16:L Y6:=["ranks","title","ground_of","outcrop","pair","pairs","dipright.title","MOVES","climbed","steps","x","y"]
noncomputable def c17:L Y6:=["step","reversed","in_ground","met_columns","met","joint","column","enumerate","OutOfGround","not a spot of the district","dipright.reach","good_steps"]
noncomputable def c18:L Y6:=["all_fit","good_outcrops","MOST_COLUMNS","is_cell","thing","set","sound_vein","numbers_agree","ASKS","dipright.veins","below","folk"]
noncomputable def c19:L Y6:=["side","line","floor","coins","bounds","FOLK","SIDES","LINES","STEPS","COINS","value","bound"]
noncomputable def c20:L Y6:=["asked","values","known","kind","zip","dipright.claims","Claim","days","piece","fallen","unvested","stands"]
noncomputable def c21:L Y6:=["book","row","names","NoClaim","no claim is known by that day","through","vest","noclaim","ended","whole","pieces","parted"]
noncomputable def c22:L Y6:=["nocut","insert","index","dipright.facts","can_part","rect","ahead","LEFT","TOP","LOW","RIGHT","dipright.years"]
noncomputable def c23:L Y6:=["counted","kept","some","any","DiprightError","dipright.ground","k","dipright.errors","ValueError","/claim/cut.py","__doc__","__package__"]
noncomputable def c24:L Y6:=["__loader__","__spec__","__annotations__","__builtins__","__file__","__cached__","__main__","__module__","__firstlineno__","__static_attributes__","__weakref__","Claim.__init__"]
noncomputable def c25:L Y6:=["Claim.piece","Claim.twin","Claim.state","__dict__","Claims.__init__","Claims.names","Claims.named","Claims.standing","Claims.stake","Claims.vest","Claims.vest_all","Claims.change"]
noncomputable def c26:L Y6:=["Claims.part","Claims.twin","Field.__init__","Field.enter","Field.answer","Field.enter_vein","Field.enter_join","Field.enter_stake","Field.enter_dig","Field.enter_pay","Field.gatekeeper","Field.owe"]
noncomputable def c27:L Y6:=["Field.pass_to","Field.today","Field.size","Field.term","Field.veins","Field.claims","Field.vein","Field.joined","Field.claim","Field.state","Field.years","Field.standing"]
noncomputable def c28:L Y6:=["Field.entries","Field.twin"]
noncomputable def Al:L (L Y6):=[c0,c1,c2,c3,c4,c5,c6,c7,c8,c9,c10,c11,c12,c13,c14,c15,c16,c17,c18,c19,c20,c21,c22,c23,c24,c25,c26,c27,c28]
noncomputable def Af(i j:Y1):Y6:=(Al.getD i []).getD j ⟨#[]⟩
noncomputable def b0:String:="dict"
noncomputable def b1:String:="__main__.__loader__#opaque"
noncomputable def b2:String:="tuple"
noncomputable def b3:String:="code"
noncomputable def b4:String:="function"
noncomputable def b5:String:="ValueError"
noncomputable def b6:String:="ValueError.__new__"
noncomputable def b7:String:="type"
noncomputable def b8:String:="Exception"
noncomputable def b9:String:="BaseException"
noncomputable def b10:String:="object"
noncomputable def b11:String:="ExceptionGroup.__weakref__"
noncomputable def b12:String:="getset_descriptor"
noncomputable def b13:String:="object.__new__"
noncomputable def b14:String:="function.__dict__"
noncomputable def b15:String:="function.__dict__#set"
lay_quick Af b0 b1 b2 b3 b4 b5 b6 b7 b8 b9 b10 b11 b12 b13 b14 b15
def Hy(a:Y1->Y1->Y6)(i:Y1)(p:Prop):Y1->L Y6->Prop
 |_,[]=>p
 |j,x::r=>x=a i j->Hy a i p (j+1) r
def Hz(a:Y1->Y1->Y6)(p:Prop):Y1->L (L Y6)->Prop
 |_,[]=>p
 |i,c::r=>Hy a i (Hz a p (i+1) r) 0 c
noncomputable def G(a:Y1->Y1->Y6):Program:=by
 refine'(?f:(x:Program)->Hz a (PZW=x) 0 Al->Program) _ ?h
 (case f=>exact λx _=>x)
 (case h=>(repeat intro _); show PZW=_; delta PZW; conv=>lhs; simp only[*,Nat.reduceAdd])
noncomputable abbrev fnD(x y:Y6)(s:Stmt):=FuncData.mk x y (qqf s) (.stmts (qz0 s)) (qzy s)
noncomputable abbrev kh:=PyData.keyHash
noncomputable abbrev de(P:Qt)(x:Y6)(k:Y1)(v:Y9):=DictEntry.mk (kh P x) (.str x k) v
noncomputable abbrev oq(u:String)(x:Array Y9):=Obj.mk (.type u) Option.none (.seq x) #[]
noncomputable abbrev zA(u:String)(a:Y1->Y1->Y6)(i j v w k:Y1)(ln n:J)(r p:Y1):=Obj.mk (.type u) Option.none (.fields #[.str (a i j) k,.str (a v w) (k+1),.str (a 23 9) (k+2),.int ln 0,.int n 0,.int 0 0,.int 0 0,.int 3 0,.ref r,.bool Bool.true,.int 181 0,.ref (r+1),.none,.ref (r+2),.ref (r+3),.ref (r+4),.int (.ofNat p) 0,.int ln 0,.str (a 23 9) (p+1)]) #[]
noncomputable abbrev zB(u:String)(a:Y1->Y1->Y6)(i j v w k:Y1)(ln n:J)(r p:Y1):=Obj.mk (.type u) Option.none (.fields #[.str (a i j) k,.str (a v w) (k+1),.str (a 23 9) (k+2),.int ln 0,.int n 0,.int 0 0,.int 0 0,.int 3 0,.ref r,.bool Bool.true,.int 181 0,.ref (r+1),.none,.none,.none,.ref (r+2),.int (.ofNat p) 0,.int ln 0,.str (a 23 9) (p+1)]) #[]
noncomputable abbrev zA2(u:String)(a:Y1->Y1->Y6)(i j:Y1):=zA u a i j i j
noncomputable abbrev zB2(u:String)(a:Y1->Y1->Y6)(i j:Y1):=zB u a i j i j
noncomputable abbrev zM(u:String)(a:Y1->Y1->Y6)(i j v w:Y1)(s:Stmt)(x y k r:Y1):=Obj.mk (.type u) Option.none (.func (fnD (a i j) (a v w) s 3 [] .none .none .none (.str (a x y) k) Option.none (.ref r) .none 0)) #[]
noncomputable abbrev zF(u:String)(a:Y1->Y1->Y6)(i j:Y1):=zM u a i j i j
noncomputable abbrev zR(P:Qt)(a:Y1->Y1->Y6)(i j k r:Y1):=de P (a i j) k (.ref r)
noncomputable def KG(tp:Y1->Stmt)(a:Y1->Y1->Y6)(u0 u1 u2 u3 u4 u5 u6 u7 u8 u9 u10 u11 u12 u13 u14 u15:String)(P:Qt):Qqq:=(nat_lit 3,Obj.mk (.type u0) Option.none (.dict #[de P (a 14 1) 165 (.str (a 14 2) 1087),de P (a 23 10) 166 .none,de P (a 23 11) 167 .none,de P (a 24 0) 168 (.builtin u1),de P (a 24 1) 169 .none,zR P a 24 2 170 6,zR P a 24 3 171 4,de P (a 24 4) 173 (.str (a 23 9) 172),de P (a 24 5) 174 .none,zR P a 12 8 193 21,zR P a 23 4 213 31,zR P a 8 9 229 44,zR P a 10 2 245 56,zR P a 10 4 261 68,zR P a 13 1 277 80,zR P a 21 3 293 92,zR P a 17 8 309 104,de P (a 22 7) 313 (.int 0 312),de P (a 22 8) 315 (.int 1 314),de P (a 22 10) 317 (.int 2 316),de P (a 22 9) 319 (.int 3 318),zR P a 14 11 327 113,zR P a 15 6 333 118,zR P a 22 4 342 125,zR P a 21 11 353 132,zR P a 17 2 361 139,zR P a 23 0 373 146,zR P a 21 5 381 153,zR P a 20 6 446 191,zR P a 9 10 562 273,zR P a 9 1 567 278,zR P a 19 5 570 279,zR P a 19 6 573 280,zR P a 19 7 576 281,zR P a 19 8 579 282,zR P a 19 9 582 283,de P (a 18 2) 584 (.int 16 583),zR P a 18 8 627 284,zR P a 19 4 634 299,zR P a 8 5 642 306,zR P a 18 0 648 311,zR P a 18 3 656 318,zR P a 17 11 664 325,zR P a 18 1 670 330,zR P a 18 6 678 337,zR P a 18 7 685 344,zR P a 10 1 693 351,zR P a 16 7 708 357,zR P a 16 8 720 364,zR P a 17 3 726 369,zR P a 15 10 732 374,zR P a 16 2 742 381,zR P a 16 3 750 388,zR P a 11 6 756 393,zR P a 15 8 764 400,zR P a 14 10 772 405,zR P a 15 1 785 412,zR P a 15 9 794 419,zR P a 15 11 801 426,zR P a 16 1 809 433,zR P a 2 9 818 440,zR P a 2 10 828 447,zR P a 8 6 833 448,zR P a 8 7 836 449,zR P a 8 8 839 450,de P (a 12 0) 841 (.int 10 840),zR P a 8 0 851 457,zR P a 8 11 858 464,zR P a 3 4 1086 642,zR P a 0 6 1104 653,zR P a 4 3 1110 658,zR P a 3 1 1122 665,zR P a 3 3 1131 672,zR P a 1 3 1144 679,zR P a 4 9 1150 684,zR P a 4 10 1166 691,zR P a 1 7 1175 698,zR P a 4 6 1185 705,zR P a 4 8 1194 712,zR P a 4 11 1209 719,zR P a 1 0 1215 724,zR P a 0 0 1229 731,zR P a 1 1 1241 738,zR P a 1 8 1251 745,zR P a 2 0 1265 752,zR P a 2 6 1277 759,zR P a 3 0 1295 766] 87) #[]) ::
(nat_lit 112,zA2 u3 a 14 11 320 24 2 107 325) ::
(nat_lit 113,zF u4 a 14 11 (tp 14) 23 5 310 112) ::
(nat_lit 117,zB2 u3 a 15 6 328 26 2 114 331) ::
(nat_lit 118,zF u4 a 15 6 (tp 15) 23 5 310 117) ::
(nat_lit 124,zA2 u3 a 22 4 334 28 3 119 340) ::
(nat_lit 125,zF u4 a 22 4 (tp 16) 23 5 310 124) ::
(nat_lit 131,zA2 u3 a 21 11 343 30 3 126 351) ::
(nat_lit 132,zF u4 a 21 11 (tp 17) 23 5 310 131) ::
(nat_lit 138,zA2 u3 a 17 2 354 40 2 133 359) ::
(nat_lit 139,zF u4 a 17 2 (tp 18) 23 5 310 138) ::
(nat_lit 145,zA2 u3 a 23 0 364 43 2 140 371) ::
(nat_lit 146,zF u4 a 23 0 (tp 20) 22 11 362 145) ::
(nat_lit 152,zA2 u3 a 21 5 374 49 2 147 379) ::
(nat_lit 153,zF u4 a 21 5 (tp 21) 22 11 362 152) ::
(nat_lit 166,zA u3 a 9 3 24 11 396 54 5 161 404) ::
(nat_lit 167,zM u4 a 9 3 24 11 (cb (tp 23) 0) 20 5 382 166) ::
(nat_lit 173,zA u3 a 20 8 25 0 407 62 3 168 414) ::
(nat_lit 174,zM u4 a 20 8 25 0 (cb (tp 23) 1) 20 5 382 173) ::
(nat_lit 180,zA u3 a 3 8 25 1 417 67 1 175 422) ::
(nat_lit 181,zM u4 a 3 8 25 1 (cb (tp 23) 2) 20 5 382 180) ::
(nat_lit 187,zA u3 a 13 9 25 2 425 72 2 182 430) ::
(nat_lit 188,zM u4 a 13 9 25 2 (cb (tp 23) 3) 20 5 382 187) ::
(nat_lit 190,Obj.mk (.type u0) Option.none (.dict #[de P (a 24 7) 391 (.str (a 20 5) 382),de P (a 24 8) 395 (.int 52 394),zR P a 9 3 406 167,zR P a 20 8 416 174,zR P a 3 8 424 181,zR P a 13 9 432 188,zR P a 24 9 439 189,zR P a 25 3 441 192,zR P a 24 10 443 193,de P (a 23 10) 444 .none] 4) #[]) ::
(nat_lit 191,Obj.mk (.type u7) Option.none (.cls (ClassData.mk (a 20 6) [.type u10] [.ref 191,.type u10] 190 (a 20 6) Bool.true [] [] Bool.false Option.none Bool.false)) #[Option.none,Option.none,Option.some (.str (a 20 6) 384),Option.some (.str (a 20 6) 392),Option.some (.builtin u13),Option.some (.bool Bool.true)]) ::
(nat_lit 208,zA u3 a 9 3 25 4 459 82 2 203 464) ::
(nat_lit 209,zM u4 a 9 3 25 4 (cb (tp 24) 0) 20 5 382 208) ::
(nat_lit 215,zA u3 a 21 2 25 5 467 87 1 210 471) ::
(nat_lit 216,zM u4 a 21 2 25 5 (cb (tp 24) 1) 20 5 382 215) ::
(nat_lit 222,zA u3 a 13 4 25 6 474 90 2 217 479) ::
(nat_lit 223,zM u4 a 13 4 25 6 (cb (tp 24) 2) 20 5 382 222) ::
(nat_lit 227,zB u3 a 13 11 25 7 482 95 2 224 485) ::
(nat_lit 228,zM u4 a 13 11 25 7 (cb (tp 24) 3) 20 5 382 227) ::
(nat_lit 234,zA u3 a 5 11 25 8 488 98 5 229 496) ::
(nat_lit 235,zM u4 a 5 11 25 8 (cb (tp 24) 4) 20 5 382 234) ::
(nat_lit 241,zA u3 a 21 6 25 9 499 102 4 236 507) ::
(nat_lit 242,zM u4 a 21 6 25 9 (cb (tp 24) 5) 20 5 382 241) ::
(nat_lit 248,zA u3 a 11 1 25 10 510 108 3 243 517) ::
(nat_lit 249,zM u4 a 11 1 25 10 (cb (tp 24) 6) 20 5 382 248) ::
(nat_lit 255,zA u3 a 11 0 25 11 520 112 3 250 528) ::
(nat_lit 256,zM u4 a 11 0 25 11 (cb (tp 24) 7) 20 5 382 255) ::
(nat_lit 262,zA u3 a 5 7 26 0 531 130 3 257 539) ::
(nat_lit 263,zM u4 a 5 7 26 0 (cb (tp 24) 8) 20 5 382 262) ::
(nat_lit 269,zA u3 a 3 8 26 1 542 141 1 264 549) ::
(nat_lit 270,zM u4 a 3 8 26 1 (cb (tp 24) 9) 20 5 382 269) ::
(nat_lit 272,Obj.mk (.type u0) Option.none (.dict #[de P (a 24 7) 454 (.str (a 20 5) 382),de P (a 24 8) 458 (.int 80 457),zR P a 9 3 466 209,zR P a 21 2 473 216,zR P a 13 4 481 223,zR P a 13 11 487 228,zR P a 5 11 498 235,zR P a 21 6 509 242,zR P a 11 1 519 249,zR P a 11 0 530 256,zR P a 5 7 541 263,zR P a 3 8 551 270,zR P a 24 9 555 271,zR P a 25 3 557 274,zR P a 24 10 559 275,de P (a 23 10) 560 .none] 4) #[]) ::
(nat_lit 273,Obj.mk (.type u7) Option.none (.cls (ClassData.mk (a 9 10) [.type u10] [.ref 273,.type u10] 272 (a 9 10) Bool.true [] [] Bool.false Option.none Bool.false)) #[Option.none,Option.none,Option.some (.str (a 9 10) 447),Option.some (.str (a 9 10) 455),Option.some (.builtin u13),Option.some (.bool Bool.true)]) ::
(nat_lit 278,oq u2 #[.int 1 565,.int 400 566]) ::
(nat_lit 279,oq u2 #[.int 1 568,.int 40 569]) ::
(nat_lit 280,oq u2 #[.int 0 571,.int 1 572]) ::
(nat_lit 281,oq u2 #[.int 1 574,.int 23 575]) ::
(nat_lit 282,oq u2 #[.int 0 577,.int 4 578]) ::
(nat_lit 283,oq u2 #[.int 1 580,.int 1000000 581]) ::
(nat_lit 284,Obj.mk (.type u0) Option.none (.dict #[zR P a 6 1 585 285,zR P a 5 11 589 286,zR P a 5 5 595 287,zR P a 5 6 597 288,zR P a 5 7 600 289,zR P a 5 8 605 290,zR P a 1 6 607 291,zR P a 1 11 615 292] 8) #[]) ::
(nat_lit 285,oq u2 #[.str (a 9 0) 586,.str (a 9 0) 587,.str (a 18 10) 588]) ::
(nat_lit 286,oq u2 #[.str (a 18 11) 590,.str (a 16 10) 591,.str (a 16 11) 592,.str (a 16 10) 593,.str (a 16 11) 594]) ::
(nat_lit 287,oq u2 #[.str (a 9 0) 596]) ::
(nat_lit 288,oq u2 #[.str (a 9 0) 598,.str (a 18 11) 599]) ::
(nat_lit 289,oq u2 #[.str (a 9 0) 601,.str (a 19 0) 602,.str (a 19 1) 603,.str (a 18 11) 604]) ::
(nat_lit 290,oq u2 #[.str (a 9 0) 606]) ::
(nat_lit 291,oq u2 #[.str (a 18 11) 608,.str (a 16 10) 609,.str (a 16 11) 610,.str (a 16 10) 611,.str (a 16 11) 612,.str (a 19 2) 613,.str (a 19 3) 614]) ::
(nat_lit 292,oq u2 #[.str (a 18 11) 616,.str (a 18 11) 617,.str (a 19 3) 618]) ::
(nat_lit 298,zA2 u3 a 19 4 628 158 1 293 632) ::
(nat_lit 299,zF u4 a 19 4 (tp 34) 22 3 563 298) ::
(nat_lit 305,zA2 u3 a 8 5 635 160 2 300 640) ::
(nat_lit 306,zF u4 a 8 5 (tp 35) 22 3 563 305) ::
(nat_lit 310,zB2 u3 a 18 0 643 164 3 307 646) ::
(nat_lit 311,zF u4 a 18 0 (tp 36) 22 3 563 310) ::
(nat_lit 317,zA2 u3 a 18 3 649 169 2 312 654) ::
(nat_lit 318,zF u4 a 18 3 (tp 37) 22 3 563 317) ::
(nat_lit 324,zA2 u3 a 17 11 657 171 2 319 662) ::
(nat_lit 325,zF u4 a 17 11 (tp 38) 22 3 563 324) ::
(nat_lit 329,zB2 u3 a 18 1 665 173 2 326 668) ::
(nat_lit 330,zF u4 a 18 1 (tp 39) 22 3 563 329) ::
(nat_lit 336,zA2 u3 a 18 6 671 179 2 331 676) ::
(nat_lit 337,zF u4 a 18 6 (tp 40) 22 3 563 336) ::
(nat_lit 343,zA2 u3 a 18 7 679 181 1 338 683) ::
(nat_lit 344,zF u4 a 18 7 (tp 41) 22 3 563 343) ::
(nat_lit 350,zA2 u3 a 10 1 686 187 2 345 691) ::
(nat_lit 351,zF u4 a 10 1 (tp 42) 22 3 563 350) ::
(nat_lit 352,oq u2 #[.int 0 696,.int 0 697]) ::
(nat_lit 353,oq u2 #[.int 1 698,.int 0 699]) ::
(nat_lit 354,oq u2 #[.int (-1) 701,.int 0 702]) ::
(nat_lit 355,oq u2 #[.int 0 703,.int 1 704]) ::
(nat_lit 356,oq u2 #[.int 0 705,.int (-1) 707]) ::
(nat_lit 357,oq u2 #[.ref 352,.ref 353,.ref 354,.ref 355,.ref 356]) ::
(nat_lit 363,zA2 u3 a 16 8 709 195 3 358 718) ::
(nat_lit 364,zF u4 a 16 8 (tp 45) 18 9 694 363) ::
(nat_lit 368,zB2 u3 a 17 3 721 204 4 365 724) ::
(nat_lit 369,zF u4 a 17 3 (tp 46) 18 9 694 368) ::
(nat_lit 373,zB2 u3 a 15 10 727 211 2 370 730) ::
(nat_lit 374,zF u4 a 15 10 (tp 47) 18 9 694 373) ::
(nat_lit 380,zA2 u3 a 16 2 735 221 2 375 740) ::
(nat_lit 381,zF u4 a 16 2 (tp 49) 17 10 733 380) ::
(nat_lit 387,zA2 u3 a 16 3 743 223 2 382 748) ::
(nat_lit 388,zF u4 a 16 3 (tp 50) 17 10 733 387) ::
(nat_lit 392,zB2 u3 a 11 6 751 225 2 389 754) ::
(nat_lit 393,zF u4 a 11 6 (tp 51) 17 10 733 392) ::
(nat_lit 399,zA2 u3 a 15 8 757 227 2 394 762) ::
(nat_lit 400,zF u4 a 15 8 (tp 52) 17 10 733 399) ::
(nat_lit 404,zB2 u3 a 14 10 767 230 1 401 770) ::
(nat_lit 405,zF u4 a 14 10 (tp 54) 16 6 765 404) ::
(nat_lit 411,zA2 u3 a 15 1 773 232 3 406 783) ::
(nat_lit 412,zF u4 a 15 1 (tp 55) 16 6 765 411) ::
(nat_lit 418,zA2 u3 a 15 9 786 241 2 413 792) ::
(nat_lit 419,zF u4 a 15 9 (tp 56) 16 6 765 418) ::
(nat_lit 425,zA2 u3 a 15 11 795 244 1 420 799) ::
(nat_lit 426,zF u4 a 15 11 (tp 57) 16 6 765 425) ::
(nat_lit 432,zA2 u3 a 16 1 802 246 2 427 807) ::
(nat_lit 433,zF u4 a 16 1 (tp 58) 16 6 765 432) ::
(nat_lit 439,zA2 u3 a 2 9 810 248 2 434 816) ::
(nat_lit 440,zF u4 a 2 9 (tp 59) 16 6 765 439) ::
(nat_lit 446,zA2 u3 a 2 10 819 251 2 441 826) ::
(nat_lit 447,zF u4 a 2 10 (tp 60) 16 6 765 446) ::
(nat_lit 448,oq u2 #[.int 1 831,.int 24 832]) ::
(nat_lit 449,oq u2 #[.int 0 834,.int 12 835]) ::
(nat_lit 450,oq u2 #[.int 1 837,.int 400 838]) ::
(nat_lit 456,zA2 u3 a 8 0 842 261 4 451 849) ::
(nat_lit 457,zF u4 a 8 0 (tp 66) 15 0 829 456) ::
(nat_lit 463,zA2 u3 a 8 11 852 264 1 458 856) ::
(nat_lit 464,zF u4 a 8 11 (tp 67) 15 0 829 463) ::
(nat_lit 477,zA u3 a 9 3 26 2 871 269 5 472 879) ::
(nat_lit 478,zM u4 a 9 3 26 2 (cb (tp 68) 0) 15 0 829 477) ::
(nat_lit 484,zA u3 a 4 2 26 3 882 280 3 479 888) ::
(nat_lit 485,zM u4 a 4 2 26 3 (cb (tp 68) 1) 15 0 829 484) ::
(nat_lit 491,zA u3 a 10 6 26 4 891 289 2 486 896) ::
(nat_lit 492,zM u4 a 10 6 26 4 (cb (tp 68) 2) 15 0 829 491) ::
(nat_lit 498,zA u3 a 10 7 26 5 899 302 2 493 904) ::
(nat_lit 499,zM u4 a 10 7 26 5 (cb (tp 68) 3) 15 0 829 498) ::
(nat_lit 505,zA u3 a 10 8 26 6 907 307 2 500 914) ::
(nat_lit 506,zM u4 a 10 8 26 6 (cb (tp 68) 4) 15 0 829 505) ::
(nat_lit 512,zA u3 a 10 9 26 7 917 319 2 507 924) ::
(nat_lit 513,zM u4 a 10 9 26 7 (cb (tp 68) 5) 15 0 829 512) ::
(nat_lit 519,zA u3 a 10 10 26 8 927 326 2 514 935) ::
(nat_lit 520,zM u4 a 10 10 26 8 (cb (tp 68) 6) 15 0 829 519) ::
(nat_lit 526,zA u3 a 10 11 26 9 938 337 2 521 943) ::
(nat_lit 527,zM u4 a 10 11 26 9 (cb (tp 68) 7) 15 0 829 526) ::
(nat_lit 533,zA u3 a 12 1 26 10 946 341 2 528 952) ::
(nat_lit 534,zM u4 a 12 1 26 10 (cb (tp 68) 8) 15 0 829 533) ::
(nat_lit 540,zA u3 a 11 11 26 11 955 345 4 535 962) ::
(nat_lit 541,zM u4 a 11 11 26 11 (cb (tp 68) 9) 15 0 829 540) ::
(nat_lit 547,zA u3 a 3 9 27 0 965 349 2 542 970) ::
(nat_lit 548,zM u4 a 3 9 27 0 (cb (tp 68) 10) 15 0 829 547) ::
(nat_lit 561,zA u3 a 12 9 27 2 980 358 1 556 984) ::
(nat_lit 562,zM u4 a 12 9 27 2 (cb (tp 68) 12) 15 0 829 561) ::
(nat_lit 575,zA u3 a 12 10 27 4 994 364 1 570 998) ::
(nat_lit 576,zM u4 a 12 10 27 4 (cb (tp 68) 14) 15 0 829 575) ::
(nat_lit 589,zA u3 a 2 5 27 6 1008 370 2 584 1013) ::
(nat_lit 590,zM u4 a 2 5 27 6 (cb (tp 68) 16) 15 0 829 589) ::
(nat_lit 596,zA u3 a 11 5 27 7 1016 375 2 591 1021) ::
(nat_lit 597,zM u4 a 11 5 27 7 (cb (tp 68) 17) 15 0 829 596) ::
(nat_lit 603,zA u3 a 2 11 27 8 1024 380 2 598 1030) ::
(nat_lit 604,zM u4 a 2 11 27 8 (cb (tp 68) 18) 15 0 829 603) ::
(nat_lit 624,zA u3 a 13 11 27 11 1049 390 1 619 1053) ::
(nat_lit 625,zM u4 a 13 11 27 11 (cb (tp 68) 21) 15 0 829 624) ::
(nat_lit 631,zA u3 a 4 4 28 0 1056 393 1 626 1060) ::
(nat_lit 632,zM u4 a 4 4 28 0 (cb (tp 68) 22) 15 0 829 631) ::
(nat_lit 638,zA u3 a 3 8 28 1 1063 396 1 633 1068) ::
(nat_lit 639,zM u4 a 3 8 28 1 (cb (tp 68) 23) 15 0 829 638) ::
(nat_lit 641,Obj.mk (.type u0) Option.none (.dict #[de P (a 24 7) 866 (.str (a 15 0) 829),de P (a 24 8) 870 (.int 267 869),zR P a 9 3 881 478,zR P a 4 2 890 485,zR P a 10 6 898 492,zR P a 10 7 906 499,zR P a 10 8 916 506,zR P a 10 9 926 513,zR P a 10 10 937 520,zR P a 10 11 945 527,zR P a 12 1 954 534,zR P a 11 11 964 541,zR P a 3 9 972 548,zR P a 12 7 979 555,zR P a 12 9 986 562,zR P a 8 4 993 569,zR P a 12 10 1000 576,zR P a 12 11 1007 583,zR P a 2 5 1015 590,zR P a 11 5 1023 597,zR P a 2 11 1032 604,zR P a 13 9 1040 611,zR P a 13 10 1048 618,zR P a 13 11 1055 625,zR P a 4 4 1062 632,zR P a 3 8 1070 639,zR P a 24 9 1079 640,zR P a 25 3 1081 643,zR P a 24 10 1083 644,de P (a 23 10) 1084 .none] 4) #[]) ::
(nat_lit 642,Obj.mk (.type u7) Option.none (.cls (ClassData.mk (a 3 4) [.type u10] [.ref 642,.type u10] 641 (a 3 4) Bool.true [] [] Bool.false Option.none Bool.false)) #[Option.none,Option.none,Option.some (.str (a 3 4) 859),Option.some (.str (a 3 4) 867),Option.some (.builtin u13),Option.some (.bool Bool.true)]) ::
(nat_lit 652,zA2 u3 a 0 6 1089 406 4 647 1102) ::
(nat_lit 653,zF u4 a 0 6 (tp 70) 14 2 1087 652) ::
(nat_lit 657,zB2 u3 a 4 3 1105 421 2 654 1108) ::
(nat_lit 658,zF u4 a 4 3 (tp 71) 14 2 1087 657) ::
(nat_lit 664,zA2 u3 a 3 1 1111 430 2 659 1120) ::
(nat_lit 665,zF u4 a 3 1 (tp 72) 14 2 1087 664) ::
(nat_lit 671,zA2 u3 a 3 3 1123 437 2 666 1129) ::
(nat_lit 672,zF u4 a 3 3 (tp 73) 14 2 1087 671) ::
(nat_lit 678,zA2 u3 a 1 3 1132 440 5 673 1142) ::
(nat_lit 679,zF u4 a 1 3 (tp 74) 14 2 1087 678) ::
(nat_lit 683,zB2 u3 a 4 9 1145 444 4 680 1148) ::
(nat_lit 684,zF u4 a 4 9 (tp 75) 14 2 1087 683) ::
(nat_lit 690,zA2 u3 a 4 10 1151 446 4 685 1164) ::
(nat_lit 691,zF u4 a 4 10 (tp 76) 14 2 1087 690) ::
(nat_lit 697,zA2 u3 a 1 7 1167 456 3 692 1173) ::
(nat_lit 698,zF u4 a 1 7 (tp 77) 14 2 1087 697) ::
(nat_lit 704,zA2 u3 a 4 6 1176 458 4 699 1183) ::
(nat_lit 705,zF u4 a 4 6 (tp 78) 14 2 1087 704) ::
(nat_lit 711,zA2 u3 a 4 8 1186 462 3 706 1192) ::
(nat_lit 712,zF u4 a 4 8 (tp 79) 14 2 1087 711) ::
(nat_lit 718,zA2 u3 a 4 11 1195 464 5 713 1207) ::
(nat_lit 719,zF u4 a 4 11 (tp 80) 14 2 1087 718) ::
(nat_lit 723,zB2 u3 a 1 0 1210 472 4 720 1213) ::
(nat_lit 724,zF u4 a 1 0 (tp 81) 14 2 1087 723) ::
(nat_lit 730,zA2 u3 a 0 0 1216 484 4 725 1227) ::
(nat_lit 731,zF u4 a 0 0 (tp 82) 14 2 1087 730) ::
(nat_lit 737,zA2 u3 a 1 1 1230 492 3 732 1239) ::
(nat_lit 738,zF u4 a 1 1 (tp 83) 14 2 1087 737) ::
(nat_lit 744,zA2 u3 a 1 8 1242 497 2 739 1249) ::
(nat_lit 745,zF u4 a 1 8 (tp 84) 14 2 1087 744) ::
(nat_lit 751,zA2 u3 a 2 0 1252 503 4 746 1263) ::
(nat_lit 752,zF u4 a 2 0 (tp 85) 14 2 1087 751) ::
(nat_lit 758,zA2 u3 a 2 6 1266 513 3 753 1275) ::
(nat_lit 759,zF u4 a 2 6 (tp 86) 14 2 1087 758) ::
(nat_lit 765,zA2 u3 a 3 0 1278 526 1 760 1293) ::
(nat_lit 766,zF u4 a 3 0 (tp 87) 14 2 1087 765)::[]
noncomputable def KF:Qt->Qqq:=KG top Af b0 b1 b2 b3 b4 b5 b6 b7 b8 b9 b10 b11 b12 b13 b14 b15
noncomputable def KH(P:Qt):Qqq:=by refine'(?f:(x:Qqq)->KF P=x->Qqq) _ ?h; (case f=>exact λx _=>x); (case h=>conv=>lhs; whnf)
end K35
namespace PySem.W.Fast
open PySem K35
noncomputable def tw2377356036708883103:Program:=G tw66621413205893616
theorem te2377356036708883103:PZW=tw2377356036708883103:=Eq.trans (b:=G Af) (by kernel_rfl) (congrArg G te66621413205893616)
noncomputable def qzu(i:Y1):Stmt:=tw2377356036708883103.main.body.getD i (.Pass ⟨0,0,0,0⟩)
theorem qql:top=qzu:=funext λi=>congrArg (λp:Program=>p.main.body.getD i (.Pass ⟨0,0,0,0⟩)) te2377356036708883103
noncomputable def qqi:Qt->Frag:=KG qzu tw66621413205893616 tw13818850699568197884 tw3087419757702392999 tw8484315967800936292 tw5311316253535657952 tw4864633536192298462 tw11518690085569298679 tw8111327539145493554 tw3567328472436461091 tw12297233989815276039 tw461325936053453762 tw9858256499633934682 tw9765988192110096350 tw12032294300741768399 tw15400831402646211440 tw5092795681707863514 tw17421456979347664341
theorem te14504799692933827080:KF=qqi:=congr (congr (congr (congr (congr (congr (congr (congr (congr (congr (congr (congr (congr (congr (congr (congr (congr (congrArg KG qql) te66621413205893616) te13818850699568197884) te3087419757702392999) te8484315967800936292) te5311316253535657952) te4864633536192298462) te11518690085569298679) te8111327539145493554) te3567328472436461091) te12297233989815276039) te461325936053453762) te9858256499633934682) te9765988192110096350) te12032294300741768399) te15400831402646211440) te5092795681707863514) te17421456979347664341
end PySem.W.Fast
namespace K35
open PySem PySem.W PySem.Calls PyProof.Rows HD
noncomputable abbrev ads:L Y8:=[3,112,113,117,118,124,125,131,132,138,139,145,146,152,153,166,167,173,174,180,181,187,188,190,191,208,209,215,216,222,223,227,228,234,235,241,242,248,249,255,256,262,263,269,270,272,273,278,279,280,281,282,283,284,285,286,287,288,289,290,291,292,298,299,305,306,310,311,317,318,324,325,329,330,336,337,343,344,350,351,352,353,354,355,356,357,363,364,368,369,373,374,380,381,387,388,392,393,399,400,404,405,411,412,418,419,425,426,432,433,439,440,446,447,448,449,450,456,457,463,464,477,478,484,485,491,492,498,499,505,506,512,513,519,520,526,527,533,534,540,541,547,548,561,562,575,576,589,590,596,597,603,604,624,625,631,632,638,639,641,642,652,653,657,658,664,665,671,672,678,679,683,684,690,691,697,698,704,705,711,712,718,719,723,724,730,731,737,738,744,745,751,752,758,759,765,766]
noncomputable abbrev loose:L Y6:=["ASKS"]
noncomputable def vw(p:Program):Program:=view p [0,2,3,4,5,6,7,8,10,11,12,13,14,15,16,17,18,20,21,23,24,26,27,28,29,30,31,32,33,34,35,36,37,38,39,40,41,42,44,45,46,47,49,50,51,52,54,55,56,57,58,59,60,62,63,64,65,66,67,68,70,71,72,73,74,75,76,77,78,79,80,81,82,83,84,85,86,87]
noncomputable def Xt(q:Program)(s:Qz):Bool:=xlAt q [] s&&recOk (RowW.records (OpenRow.toRowW (OpenLaw.row RZW))) s
theorem pre:∀w:Qk,(λos=>topGo Q1 PZW w 11 an 12 ⟨Qh w.params,#[],boot_drawn,boot_toks,os⟩ (topStub PZW))=λos=>Y ((Sa w os).abs,⟨denote Q1 (cE PZW),cE PZW,p0,[topFrame p0]⟩):=by
 rw[Fast.te15667345088766844465,Fast.te14364793385576792824,Fast.te11892475500146522536,Fast.te2377356036708883103];exact λw=>by kernel_rfl
theorem blk:∀w:Qk,(λos=>segRun Q1 PZW w 11 an 1 1 (Sa w os).abs (blockOf (Zl PZW) (ev PZW) (cE PZW) p0 [topFrame p0]))=λos=>Y (Flow.next,(Sa w os).abs,cE PZW,p0):=by
 rw[Fast.te14374325043358763698,Fast.te14364793385576792824,Fast.te2377356036708883103];exact λw=>by kernel_rfl
noncomputable def GA(w:Qk):Prop:=(λos=>(Rn PZW 5320 w os).map λr=>(r.1,r.2.2.1,r.2.2.2,LA PZW (vw PZW) ads w r.2.1.abs))=λ_=>Y (Flow.next,cE PZW,⟨526,0,548,15⟩,Z,expectedOf (vw PZW),(KF w.params).map λp=>Y p.2)
theorem gAf:∀w:Qk,GA (w.withFollow "special-get-raises" Y7):=by
 unfold GA Rn LA;rw[Fast.te10110043849684766642,Fast.te14364793385576792824,Fast.te5923862056798008813,Fast.te2377356036708883103,Fast.te14504799692933827080];exact λw=>by kernel_rfl
theorem gAt:∀w:Qk,GA (w.withFollow "special-get-raises" Z):=by
 unfold GA Rn LA;rw[Fast.te10110043849684766642,Fast.te14364793385576792824,Fast.te5923862056798008813,Fast.te2377356036708883103,Fast.te14504799692933827080];exact λw=>by kernel_rfl
noncomputable def GB(w:Qk):Prop:=(λos=>(Rn PZW 5320 w os).map λr=>LB PZW (vw PZW) loose Xt r.2.1.abs)=λ_=>Y Z
theorem gBf:∀w:Qk,GB (w.withFollow "special-get-raises" Y7):=by
 unfold GB Rn LB;rw[Fast.te10110043849684766642,Fast.te14364793385576792824,Fast.te5923862056798008813,Fast.te2377356036708883103];exact λw=>by kernel_rfl
theorem gBt:∀w:Qk,GB (w.withFollow "special-get-raises" Z):=by
 unfold GB Rn LB;rw[Fast.te10110043849684766642,Fast.te14364793385576792824,Fast.te5923862056798008813,Fast.te2377356036708883103];exact λw=>by kernel_rfl
noncomputable def GC(w:Qk):Prop:=(λos=>(Rn PZW 5320 w os).map λr=>plainSeenE (vw PZW) (looseW (vw PZW) loose) r.2.1.abs)=λ_=>Y (plainGoodE (vw PZW) (looseW (vw PZW) loose))
theorem gCf:∀w:Qk,GC (w.withFollow "special-get-raises" Y7):=by
 unfold GC Rn ;rw[Fast.te10110043849684766642,Fast.te14364793385576792824,Fast.te2377356036708883103];exact λw=>by kernel_rfl
theorem gCt:∀w:Qk,GC (w.withFollow "special-get-raises" Z):=by
 unfold GC Rn ;rw[Fast.te10110043849684766642,Fast.te14364793385576792824,Fast.te2377356036708883103];exact λw=>by kernel_rfl
noncomputable def GD(w:Qk):Prop:=(λos=>(Rn PZW 5320 w os).map λr=>LD (vw PZW) loose r.2.1.abs)=λ_=>Y (bltViewBooted,Z,pinGoodD (drecsOf (vw PZW)),clsGoodW (vw PZW) loose)
theorem gDf:∀w:Qk,GD (w.withFollow "special-get-raises" Y7):=by
 unfold GD Rn LD;rw[Fast.te10110043849684766642,Fast.te14364793385576792824,Fast.te2377356036708883103];exact λw=>by kernel_rfl
theorem gDt:∀w:Qk,GD (w.withFollow "special-get-raises" Z):=by
 unfold GD Rn LD;rw[Fast.te10110043849684766642,Fast.te14364793385576792824,Fast.te2377356036708883103];exact λw=>by kernel_rfl
noncomputable def GE(w:Qk):Prop:=(λos=>(Rn PZW 5320 w os).map λr=>LG (vw PZW) loose r.2.1.abs)=λ_=>Y (wideGood (vw PZW),plainGoodD (vw PZW) loose)
theorem gEf:∀w:Qk,GE (w.withFollow "special-get-raises" Y7):=by
 unfold GE Rn LG;rw[Fast.te10110043849684766642,Fast.te14364793385576792824,Fast.te2377356036708883103];exact λw=>by kernel_rfl
theorem gEt:∀w:Qk,GE (w.withFollow "special-get-raises" Z):=by
 unfold GE Rn LG;rw[Fast.te10110043849684766642,Fast.te14364793385576792824,Fast.te2377356036708883103];exact λw=>by kernel_rfl
theorem left:LeftO PZW (vw PZW) loose (Xt (vw PZW)) (λs=>ads.map s.heap.get?) (λw=>(KF w.params).map λp=>Y p.2) 10764:=
 lo3 (boot_open (by kernel_rfl) (by decide) (λs=>by kernel_rfl)) (λw=>by kernel_rfl) pre blk (byRow2 "special-get-raises" gAf gAt) (byRow2 "special-get-raises" gBf gBt) (byRow2 "special-get-raises" gCf gCt) (byRow2 "special-get-raises" gDf gDt) (byRow2 "special-get-raises" gEf gEt) (by decide)
end K35
section
namespace L2
open PySem PySem.Spec PyProof.Rows
abbrev Key:=Sum J Y6
noncomputable def qbk:Key->Y9->Yc
 |.inl k,v=>Value.isInt k v
 |.inr x,v=>Value.isStrOf x v
noncomputable def keyH(w:Qk):Key->J
 |.inl k=>hashInt k
 |.inr x=>hashStr w x
def qzh:∀{k}{v},qbk k v=Z->(∃i t,k=Sum.inl i/\v=Value.int i t)\/(∃x t,k=Sum.inr x/\v=Value.str x t)
 |.inl i,v,h=>by
  obtain⟨t,e⟩:=Value.isInt_shape h;exact .inl ⟨i,t,rfl,e⟩
 |.inr x,v,h=>by
  obtain⟨t,e⟩:=Value.isStrOf_shape h;exact .inr ⟨x,t,rfl,e⟩
def qdp(i)(t):qbk (.inl i) (.int i t)=true:=by simp[qbk,Value.isInt]
def qdo(x)(t):qbk (.inr x) (.str x t)=true:=by simp[qbk,Value.isStrOf]
def key_ll(a b):decide ((Sum.inl a:Key)=Sum.inl b)=(a==b):=by
 by_cases e:a=b
 ·subst e; simp
 ·have h:¬ (Sum.inl a:Key)=Sum.inl b:=λq=>e (Sum.inl.inj q);rw[Z6 h];exact(beq_eq_false_iff_ne.mpr e).symm
def key_rr(a b):decide ((Sum.inr a:Key)=Sum.inr b)=decide (a=b):=by
 by_cases e:a=b
 ·subst e; simp
 ·have h:¬ (Sum.inr a:Key)=Sum.inr b:=λq=>e (Sum.inr.inj q);rw[Z6 h,Z6 e]
def key_lr(a)(b):decide ((Sum.inl a:Key)=Sum.inr b)=false:=Z6 (λq=>nomatch q)
def key_rl(a)(b):decide ((Sum.inr a:Key)=Sum.inl b)=false:=Z6 (λq=>nomatch q)
noncomputable def mixKind(prog:Program)(w:Qk):PySem.KeyKind prog w Key where
 is:=qbk
 hash:=keyH w
 inj:=λv a b ha hb=>by
  rcases qzh ha with⟨i,t,rfl,rfl⟩|⟨x,t,rfl,rfl⟩
  ·rcases qzh hb with⟨j,u,rfl,e⟩|⟨y,u,rfl,e⟩
   ·injection e with e1 _; rw[e1]
   ·exact nomatch e
  ·rcases qzh hb with⟨j,u,rfl,e⟩|⟨y,u,rfl,e⟩
   ·exact nomatch e
   ·injection e with e1 _; rw[e1]
 byValue:=λk v h=>by
  rcases qzh h with⟨i,t,rfl,rfl⟩|⟨x,t,rfl,rfl⟩<;>rfl
 pyHash:=λhv h=>by
  rcases qzh hv with⟨i,t,rfl,rfl⟩|⟨x,t,rfl,rfl⟩
  ·exact wpAny_pyHash_int h
  ·exact wpAny_pyHash_str h
 eqBool:=λhu hv h=>by
  rcases qzh hu with⟨i,t,rfl,rfl⟩|⟨x,t,rfl,rfl⟩
  ·rcases qzh hv with⟨j,u,rfl,rfl⟩|⟨y,u,rfl,rfl⟩
   ·rw[key_ll]at h; exact wpAny_eqBool_int h
   ·rw[key_lr]at h; exact SeqAt.EqAt.int_str i t y u _ _ _ _ h
  ·rcases qzh hv with⟨j,u,rfl,rfl⟩|⟨y,u,rfl,rfl⟩
   ·rw[key_rl]at h; exact SeqAt.EqAt.str_int x t j u _ _ _ _ h
   ·rw[key_rr]at h; exact wpAny_eqBool_str h
 «strs»:=λk x t v h=>by
  rcases qzh h with⟨i,u,rfl,e⟩|⟨y,u,rfl,e⟩
  ·exact nomatch e
  ·injection e with e1 _;subst e1;cases v<;>rfl
def qw3(prog)(w)(i)(t):(mixKind prog w).is (.inl i) (.int i t)=true:=qdp i t
def qq5(prog)(w)(x)(t):(mixKind prog w).is (.inr x) (.str x t)=true:=qdo x t
inductive V where
 |non|bl (b:Yc)|int (i:J)|str (x:Y6)|byt (b:Array UInt8)|flt (b:UInt64)|ref (a:Y8)|ty (n:String)
 deriving DecidableEq
noncomputable def RelV:V->Y9->Prop
 |.non,u=>u=Value.none
 |.bl b,u=>u=Value.bool b
 |.int i,u=>∃t,u=Value.int i t
 |.str x,u=>∃t,u=Value.str x t
 |.byt b,u=>∃t,u=Value.bytes b t
 |.flt b,u=>∃t,u=Value.float b t
 |.ref a,u=>u=Value.ref a
 |.ty n,u=>u=Value.type n
abbrev Vals:L V->L Y9->Prop:=Paired RelV
theorem Vals.length(r:Vals xs us):xs.length=us.length:=Paired.length r
theorem Vals.get:∀{xs:L V}{us:L Y9}{i:Y1}{x:V},Vals xs us->xs[i]?=Y x->∃u,us[i]?=Y u/\RelV x u
 |_,_,_,_,.nil,e=>by simp at e
 |_,_,0,_,.cons r _,e=>by simp at e; subst e; exact⟨_,rfl,r⟩
 |_,_,i+1,x,.cons _ t,e=>by
  obtain⟨u,h1,h2⟩:=Vals.get t (by simpa using e);exact⟨u,by simpa using h1,h2⟩
theorem Vals.append:∀{xs ys}{us ws},Vals xs us->Vals ys ws->Vals (xs++ys) (us++ws)
 |_,_,_,_,.nil,s=>s
 |_,_,_,_,.cons r t,s=>.cons r (Vals.append t s)
theorem Vals.take:∀{xs:L V}{us:L Y9}(n:Y1),Vals xs us->Vals (xs.take n) (us.take n)
 |_,_,0,_=>.nil
 |_,_,_+1,.nil=>.nil
 |_,_,n+1,.cons r t=>.cons r (Vals.take n t)
theorem Vals.drop:∀{xs:L V}{us:L Y9}(n:Y1),Vals xs us->Vals (xs.drop n) (us.drop n)
 |_,_,0,r=>r
 |_,_,_+1,.nil=>.nil
 |_,_,n+1,.cons _ t=>Vals.drop n t
noncomputable def RelO:Y4 V->Y4 Y9->Prop
 |some v,Y u=>RelV v u
 |none,B=>True
 |_,_=>False
def KV{κ:Type}:L (κ×V)->L (κ×Y9)->Prop:=Paired λ(p:κ×V) (q:κ×Y9)=>p.1=q.1/\RelV p.2 q.2
noncomputable def kV:Key->V
 |.inl i=>.int i
 |.inr x=>.str x
inductive HO where
 /-- a list -/
 |lst (xs:L V)
 /-- a tuple (never changes) -/
 |tup (xs:L V)
 /-- a dict whose keys are ints and texts; one whose keys are tuples of ints and texts (the empty one is both) -/
 |dK (kvs:L (Key×V))|dT (kvs:L (L Key×V))
 /-- a set of ints: its members,its size -/
 |set (S:J->Yc) (n:Y1)
 /-- an instance of the class at C,its dict at dx,its attributes -/
 |ins (C dx:Y8) (fs:L (Y6×V))
 /-- the dict of the instance at x -/
 |own (x:Y8)
 /-- the dict of an exception -/
 |xd (fs:L (Y6×V))
 /-- a bound method,f of x -/
 |met (f x:Y8)
 /-- a range object lo,lo+1,.. below hi -/
 |rng (lo hi:J)
 /-- a thing that is known to the object (the script; a dict while a loop walks it): read,never written while it is so -/
 |frz (o:Obj) (u:HO)
 /-- a code object's table -/
 |tbl (ps:Array Y9)
 /-- any other thing,by what is Z of its one object (a def of one's own: SetO a S n:=HO.ext λh=>..) -/
 |ext (φ:Heap->Prop)
abbrev Hp:=Y8->Y4 HO
noncomputable def upd(H:Hp)(a:Y8)(o:HO):Hp:=λb=>if b=a then Y o else H b
def qzk:upd H a o a=Y o:=by unfold upd; rw[Z8 rfl]
def qzq(h:b≠a):upd H a o b=H b:=by unfold upd; rw[Z7 h]
def qzs{H:Hp}(h:H a=Y o)(h':H b=Y u)(d:o≠u):a≠b:=by
 intro e; subst e; rw[h]at h'; exact d (Option.some.inj h')
def qzg{H:Hp}(h:H a=Y o)(h':H b=B):a≠b:=by
 intro e; subst e; rw[h]at h'; cases h'
section
variable (P:Program)(w:Qk)
noncomputable def ObjOk(H:Hp)(h:Heap)(a:Y8):HO->Prop
 |.lst xs=>xs.length<=sizeLine/\∃(its:L Y9) (n:Y1),Vals xs its/\h.get? a=Y { cls:=.type "list",data:=.seq its.toArray n }
 |.tup xs=>xs.length<=sizeLine/\∃its:L Y9,Vals xs its/\IsTup h a its.toArray
 |.dK kvs=>kvs.length<=sizeLine/\(a==Qg)=Y7/\∃vs,KV kvs vs/\h.DictOf (mixKind P w) a vs
 |.dT kvs=>kvs.length<=sizeLine/\(a==Qg)=Y7/\∃xs:L (L Key×Y8×Y9),
   Paired (λ(p:L Key×V) (q:L Key×Y8×Y9)=>p.1=q.1/\H q.2.1=Y (.tup (p.1.map kV))/\RelV p.2 q.2.2) kvs xs/\
   ∃o es ep,h.get? a=Y o/\o.ExactDict/\o.data=.dict es ep/\es.toList=xs.map (entryOfKey (tupleKind (mixKind P w)))/\(xs.map (·.1)).Nodup
 |.set S n=>h.SetOf (intKind P w) a S n
 |.ins C dx fs=>H dx=Y (.own a)/\fs.length<=1000/\dx≠a/\h.get? a=Y (PySem.W.instObj C dx)/\
   ∃mA,h.Ns1 dx mA/\(∀f,RelO (fs.lookup f) (mA f))/\PySem.Within mA (fs.map (·.1))
 |.own _=>∃o,h.get? a=Y o
 |.xd fs=>∃mA,h.Ns1 a mA/\∀f,RelO (fs.lookup f) (mA f)
 |.rng lo hi=>∃t u v,h.get? a=Y { cls:=.type "range",data:=.fields #[.int lo t,.int hi u,.int 1 v] }
 |.frz o u=>h.get? a=Y o/\ObjOk H h a u
 |.tbl ps=>h.get? a=Y { cls:=.none,data:=.fields ps }
 |.met f x=>h.get? a=Y (PySem.W.methodObj (.ref f) (.ref x))
 |.ext φ=>φ h/\(∃o,h.get? a=Y o)/\∀h1 h2:Heap,φ h1->(∀o,h1.get? a=Y o->h2.get? a=Y o)->φ h2
def HOk(H:Hp)(h:Heap):Prop:=∀a o,H a=Y o->ObjOk P w H h a o
end
section
theorem ObjOk.lt(x:ObjOk P w H h a o):a<h.objs.size:=by
 cases o with
 |lst xs=>obtain⟨_,_,_,_,e⟩:=x; exact Qqb e
 |tup xs=>obtain⟨_,_,_,p⟩:=x; exact p.lt
 |dK kvs=>obtain⟨_,_,_,_,o,_,_,e,_⟩:=x; exact Qqb e
 |dT kvs=>obtain⟨_,_,_,_,o,_,_,e,_⟩:=x; exact Qqb e
 |set S n=>obtain⟨o,_,_,_,e,_⟩:=x; exact Qqb e
 |ins C dx fs=>obtain⟨_,_,_,e,_⟩:=x; exact Qqb e
 |own y=>obtain⟨_,e⟩:=x; exact Qqb e
 |xd fs=>obtain⟨_,⟨_,_,_,e,_⟩,_⟩:=x; exact Qqb e
 |rng lo hi=>obtain⟨_,_,_,e⟩:=x; exact Qqb e
 |frz ob u=>obtain⟨e,_⟩:=x; exact Qqb e
 |tbl ps=>exact Qqb (x)
 |met f y=>exact Qqb (x)
 |ext b=>obtain⟨_,⟨_,e⟩,_⟩:=x; exact Qqb e
theorem Paired.mapP:∀{d}{c},Paired F d c->(∀a b,F a b->G a b)->Paired G d c
 |_,_,.nil,_=>.nil
 |_,_,.cons r t,f=>.cons (f _ _ r) (Paired.mapP t f)
def ObjOk.stay(x:ObjOk P w H h a o)(k:∀b u,(b=a\/H b=Y (.own a))->h.get? b=Y u->h'.get? b=Y u)
  (s:∀b,H b=Y (.own a)->H' b=Y (.own a)) (m:∀b xs,H b=Y (.tup xs)->H' b=Y (.tup xs)):ObjOk P w H' h' a o:=by
 induction o with
 |lst xs=>obtain⟨z,i,n,r,e⟩:=x; exact⟨z,i,n,r,k _ _ (.inl rfl) e⟩
 |tup xs=>obtain⟨z,i,r,ob,e,c⟩:=x; exact⟨z,i,r,ob,k _ _ (.inl rfl) e,c⟩
 |dK kvs=>obtain⟨z,y,vs,r,ob,es,g,e,c⟩:=x; exact⟨z,y,vs,r,ob,es,g,k _ _ (.inl rfl) e,c⟩
 |dT kvs=>
  obtain⟨z,y,xs,r,ob,es,g,e,c⟩:=x;exact⟨z,y,xs,Paired.mapP r λp q z=>⟨z.1,m _ _ z.2.1,z.2.2⟩,ob,es,g,k _ _ (.inl rfl) e,c⟩
 |set S n=>obtain⟨ob,es,g,t,e,c⟩:=x; exact⟨ob,es,g,t,k _ _ (.inl rfl) e,c⟩
 |ins C dx fs=>
  obtain⟨d,z,ne,e,mA,⟨j,es,g,A,c⟩,r⟩:=x;exact⟨s _ d,z,ne,k _ _ (.inl rfl) e,mA,⟨j,es,g,k _ _ (.inr d) A,c⟩,r⟩
 |own y=>obtain⟨ob,e⟩:=x; exact⟨ob,k _ _ (.inl rfl) e⟩
 |xd fs=>obtain⟨mA,⟨j,es,g,e,c⟩,r⟩:=x; exact⟨mA,⟨j,es,g,k _ _ (.inl rfl) e,c⟩,r⟩
 |rng lo hi=>obtain⟨t,u,v,e⟩:=x; exact⟨t,u,v,k _ _ (.inl rfl) e⟩
 |frz ob u l=>obtain⟨e,q⟩:=x; exact⟨k _ _ (.inl rfl) e,l q⟩
 |tbl ps=>
  have e:=x;exact k a _ (.inl rfl) e
 |met f y=>
  have e:=x;exact k a _ (.inl rfl) e
 |ext D=>obtain⟨p,⟨o,e⟩,st⟩:=x; exact⟨st _ _ p λo q=>k _ _ (.inl rfl) q,⟨o,k _ _ (.inl rfl) e⟩,st⟩
theorem HOk.lt(x:HOk P w H h)(e:H a=Y o):a<h.objs.size:=(x a o e).lt
def HOk.fresh(x:HOk P w H h)(e:h.objs.size<=a):H a=none:=by
 cases q:H a with
 |none=>rfl
 |some u=>exact absurd (Qq3 (x.lt q) e) (Qzo _)
def HOk.kept(x:HOk P w H h)(k:∀b u,h.get? b=Y u->h'.get? b=Y u):HOk P w H h':=λa o e=>
 (x a o e).stay (λb u _ q=>k b u q) (λ_ q=>q) λ_ _ q=>q
def HOk.laid(x:HOk P w H h)(k:∀b u,h.get? b=Y u->h'.get? b=Y u)(d:h.objs.size<=a)(new:ObjOk P w (upd H a o) h' a o):HOk P w (upd H a o) h':=λb u e=>by
 have hn:=x.fresh d
 by_cases hb:b=a
 ·subst hb; rw[qzk]at e; cases e; exact new
 ·rw[qzq hb]at e;exact(x b u e).stay (λc v _ q=>k c v q) (λc q=>by rw[qzq (qzg q hn)]; exact q) λc xs q=>by rw[qzq (qzg q hn)]; exact q
end
def Rd(H:Hp)(a:Y8)(u:HO):Prop:=H a=Y u\/∃o,H a=Y (.frz o u)
def Rd.ok(r:Rd H a u)(x:HOk P w H h):ObjOk P w H h a u:=by
 rcases r with r|⟨o,r⟩
 ·exact x a u r
 ·obtain⟨_,q⟩:=x a _ r;exact q
noncomputable def Mut:Y4 HO->Prop
 |some (.lst _)=>True
 |some (.dK _)=>True
 |some (.dT _)=>True
 |some (.set _ _)=>True
 |some (.ins _ _ _)=>True
 |some (.ext _)=>True
 |_=>False
section
def HOk.write(ok:HOk P w H h)(g:Mut (H x))(l:e=x\/H e=Y (.own x))(k:∀b u,b≠e->h.get? b=Y u->h'.get? b=Y u)(i:∃u,h'.get? e=Y u)
  (new:ObjOk P w (upd H x o') h' x o'):HOk P w (upd H x o') h':=λb u q=>by
 have d:∀c y,H c=Y (.own y)->c≠x:=λc y r z=>by subst z; rw[r]at g; exact g
 have f:∀c xs,H c=Y (.tup xs)->c≠x:=λc xs r z=>by subst z; rw[r]at g; exact g
 by_cases hb:b=x
 ·subst hb; rw[qzk]at q; cases q; exact new
 ·rw[qzq hb]at q
  by_cases a:b=e
  ·have j:H b=Y (.own x):=by
    rcases l with z|z
    ·exact absurd (a.trans z) hb
    ·rw[a]; exact z
   rw[q]at j; cases j;obtain⟨v,hv⟩:=i;exact⟨v,by rw[a]; exact hv⟩
  ·refine(ok b u q).stay (λc v hc r=>k c v ?_ r) (λc r=>by rw[qzq (d c b r)]; exact r) λc xs r=>by rw[qzq (f c xs r)]; exact r
   rcases hc with rfl|hc
   ·exact a
   ·rintro rfl;rcases l with z|z
    ·exact d c b hc z
    ·rw[hc]at z; cases z; exact hb rfl
end
structure Un (fs ex:L Y8) (H H':Hp) (h h':Heap):Prop where
 keep:∀b o,h.get? b=Y o->H b=B->b ∉ fs->b ∉ ex->h'.get? b=Y o
 slot:∀b o,h.get? b=Y o->H b=B->b∈fs->b ∉ ex->∃sl,h'.get? b=Y { o with slots:=sl }
 free:∀b o,h.get? b=Y o->H b=B->b ∉ ex->H' b=B
 there:∀b o,h.get? b=Y o->b ∉ ex->∃o',h'.get? b=Y o'
 tups:∀b xs,H b=Y (.tup xs)->H' b=Y (.tup xs)
 frzs:∀b o u,H b=Y (.frz o u)->H' b=Y (.frz o u)
 tbls:∀b ps,H b=Y (.tbl ps)->∃more,H' b=Y (.tbl (ps++more))
section
def Un.any(u:Un fs ex H H1 h h1)(q:h.get? b=Y ob)(n:H b=B)(c:b ∉ ex):∃sl,h1.get? b=Y { ob with slots:=sl }:=by
 by_cases hb:b∈fs
 ·exact u.slot b ob q n hb c
 ·exact⟨ob.slots,u.keep b ob q n hb c⟩
def Un.kept(k:∀b u,h.get? b=Y u->h'.get? b=Y u):Un fs ex H H h h':=
 ⟨λb ob q _ _ _=>k b ob q,λb ob q _ _ _=>⟨ob.slots,k b ob q⟩,λ_ _ _ n _=>n,λb ob q _=>⟨ob,k b ob q⟩,λ_ _ q=>q,λ_ _ _ q=>q,λ_ ps q=>⟨#[],by rw[q]; simp⟩⟩
def Un.refl:Un fs ex H H h h:=Un.kept λ_ _ q=>q
def Un.laid(k:∀b u,h.get? b=Y u->h'.get? b=Y u)(d:h.objs.size<=a)(c:H a=B):Un fs ex H (upd H a o) h h' where
 keep:=λb u q _ _ _=>k b u q
 slot:=λb u q _ _ _=>⟨u.slots,k b u q⟩
 free:=λb u q n _=>by rw[qzq (Qqr (Qq3 (Qqb q) d))]; exact n
 there:=λb u q _=>⟨u,k b u q⟩
 tups:=λb xs q=>by rw[qzq (qzg q c)]; exact q
 frzs:=λb u xs q=>by rw[qzq (qzg q c)]; exact q
 tbls:=λb ps q=>⟨#[],by rw[qzq (qzg q c),q]; simp⟩
def Un.write(d:Mut (H x))(j:e=x\/H e=Y (.own x))(k:∀b u,b≠e->h.get? b=Y u->h'.get? b=Y u)(g:∃u,h'.get? e=Y u):Un fs ex H (upd H x o) h h':=by
 have i:∀b,H b=B->b≠x:=λb n z=>by subst z; rw[n]at d; exact d
 have hb:∀b,H b=B->b≠e:=λb n z=>by
  subst z;rcases j with r|r
  ·exact i b n r
  ·rw[n]at r; cases r
 have f:∀b u,H b=Y u->¬ Mut (Y u)->b≠x:=λb u q nm z=>by subst z; rw[q]at d; exact nm d
 refine⟨λb u q n _ _=>k b u (hb b n) q,λb u q n _ _=>⟨u.slots,k b u (hb b n) q⟩,λb u q n _=>by rw[qzq (i b n)]; exact n,λb u q _=>?_,
  λb xs q=>by rw[qzq (f b _ q λz=>z)]; exact q,λb u xs q=>by rw[qzq (f b _ q λz=>z)]; exact q,λb ps q=>⟨#[],by rw[qzq (f b _ q λz=>z),q]; simp⟩⟩
 by_cases c:b=e
 ·subst c; exact g
 ·exact⟨u,k b u c q⟩
end
noncomputable def trk(h:Heap)(H:Hp):L Y8:=(List.range h.objs.size).filter λa=>(H a).isSome
noncomputable def hidT(h:Heap)(H:Hp):Heap:=PySem.W.hideAll h (trk h H)
def qd3(h)(H):(hidT h H).objs.size=h.objs.size:=PySem.W.hideAll_size _ _
def qg0(e:h.get? b=Y o)(n:H b=B):(hidT h H).get? b=Y o:=
 PySem.W.hideAll_get _ e λa=>by
  have q:=(Qxa.mp a).2;rw[n]at q; simp at q
def qmg(e:(hidT h H).get? b=Y o):h.get? b=Y o/\H b=none:=by
 have a:=PySem.W.of_hideAll (trk h H) e;refine⟨a,?_⟩
 cases q:H b with
 |none=>rfl
 |some x=>
  have c:b∈trk h H:=Qxa.mpr ⟨Qzl.mpr (Qqb a),by simp[q]⟩;have z:(hidT h H).get? b=none:=PySem.W.hideAll_none (trk h H) c;rw[z]at e; cases e
structure Mod (K:Qqq) (mg:Y6->Y4 Y9) (base:Heap):Prop where
 kin:K.In base
 glob:base.Ns mainGlobals mg
 blt:∃mb,base.Ns builtinsNs mb/\∀x:Y6,x ≠ "__name__"->mb x=Qd x
 nolimit:base.NoLimit
structure Cx where
 prog:Program
 w:Qk
 K:Qqq
 mg:Y6->Y4 Y9
 base:Heap
 A:Qv
 N:L Y6
 s₀:Qz
 H₀:Hp
 env:Env
 outer:L Env
 stack:L Env
 ex:L Y8
 fn:Y6->Yc
 calm:Yc
 pn:L (Y8×Obj)
 xe:Y9->Qz->Prop
noncomputable def frs(l:L Env):L Y8:=l.filterMap (·.frame)
noncomputable abbrev Cx.fs(X:Cx):L Y8:=frs X.outer
def Vis(sc:Scope)(x:Y6):Prop:=sc.names.lookup x=Y .local\/sc.names.lookup x=Y .cell\/sc.names.lookup x=Y .free
def Loc(sc:Scope)(x:Y6):Prop:=sc.names.lookup x=Y .local\/sc.names.lookup x=Y .cell
def Look(env:Env)(h:Heap)(m:Y6->Y4 Y9)(x:Y6)(u:Y9):Prop:=
 (env.kindOf x=Y .local/\m x=Y u)\/((env.kindOf x=Y .cell\/env.kindOf x=Y .free)/\∃c,env.cells.lookup x=Y c/\h.IsCell c (Y u))
structure Cx.Ok (X:Cx):Prop where
 mod:Mod X.K X.mg X.base
 kind:X.env.scope.kind=.function
 glob:X.env.globals=mainGlobals
 blt:X.env.builtins=builtinsNs
 above:X.s₀.heap.objs.size<=X.env.locals
 inj:∀x y c,X.env.cells.lookup x=Y c->X.env.cells.lookup y=Y c->x=y
 has:∀x,(X.env.kindOf x=Y .cell\/X.env.kindOf x=Y .free)->∃c,X.env.cells.lookup x=Y c
 cab:∀x c,X.fn x=Z->X.env.cells.lookup x=Y c->X.s₀.heap.objs.size<=c
 hd:X.calm=Z->X.A.handled=B
 frames:X.A.frames=Y X.stack
 stk:X.stack=X.outer\/(X.stack=X.env::X.outer/\X.env.frame=Y X.env.locals)
 exf:∀b∈X.ex,b≠X.env.locals/\∀x c,X.env.cells.lookup x=Y c->c≠b
 bs:∀b o,X.base.get? b=Y o->X.s₀.heap.get? b=Y o/\X.H₀ b=B
 bsz:X.base.objs.size<=X.s₀.heap.objs.size
 noex:∀b o,X.base.get? b=Y o->b ∉ X.ex
 exfs:∀b∈X.ex,b ∉ X.fs
 funs:X.s₀.heap.FunFrames X.base X.outer
 frf:∀b∈X.fs,X.H₀ b=B
structure Inv (X:Cx) (pins:L (Y8×Obj)) (σ:L (Y4 V)) (H:Hp) (s:Qz):Prop where
 ok:X.Ok
 os:s.os=X.s₀.os
 bare:Zn s.gens
 base:Un X.fs X.ex X.H₀ H X.s₀.heap s.heap
 loc:∃m,s.heap.Ns X.env.locals m/\∀(i:Y1) (x:Y6) (v:V),X.N[i]?=Y x->σ[i]?=Y (Y v)->Vis X.env.scope x->∃u,RelV v u/\Look X.env s.heap m x u
 cell:∀x c,X.env.cells.lookup x=Y c->∃v,s.heap.IsCell c v
 free:H X.env.locals=B
 freeC:∀x c,X.env.cells.lookup x=Y c->H c=B
 pin:∀p∈X.pn++pins,s.heap.get? p.1=Y p.2/\H p.1=B/\p.1≠X.env.locals/\p.1 ∉ X.fs/\∀v,p.2.data≠.cell v
 hok:HOk X.prog X.w H s.heap
 len:σ.length=X.N.length
section
variable {X:Cx}
def Cx.Ok.nofr(ok:X.Ok)(e:X.base.get? b=Y o):b ∉ X.fs:=λhb=>by
 have:=(ok.funs.mem hb).1;rw[e]at this; cases this
theorem Inv.bs(I:Inv X pins σ H s):∀b o,X.base.get? b=Y o->s.heap.get? b=Y o/\H b=none:=λb o e=>
 ⟨I.base.keep b o (I.ok.bs b o e).1 (I.ok.bs b o e).2 (I.ok.nofr e) (I.ok.noex b o e),I.base.free b o (I.ok.bs b o e).1 (I.ok.bs b o e).2 (I.ok.noex b o e)⟩
def Inv.bk(I:Inv X pins σ H s):∀b o,X.base.get? b=Y o->s.heap.get? b=Y o:=λb o e=>(I.bs b o e).1
theorem Inv.mod(I:Inv X pins σ H s):Mod X.K X.mg X.base:=I.ok.mod
def Inv.kIn(I:Inv X pins σ H s):X.K.In s.heap:=I.ok.mod.kin.keeps I.bk
theorem Inv.lt(I:Inv X pins σ H s):X.env.locals<s.heap.objs.size:=let ⟨_,hn,_⟩:=I.loc; hn.lt
def Inv.sz(I:Inv X pins σ H s):X.s₀.heap.objs.size<=s.heap.objs.size:=Qz0 I.ok.above (Qja I.lt)
def Inv.nofs(I:Inv X pins σ H s)(h:s.heap.objs.size<=a):a ∉ X.fs:=λhb=>by
 obtain⟨_,o,b,_⟩:=I.ok.funs.mem hb;exact absurd (Qq3 (Qqb b) (Qz0 I.sz h)) (Qzo _)
def Inv.cne(I:Inv X pins σ H s):∀x c,X.env.cells.lookup x=Y c->c≠X.env.locals:=λx c e z=>by
 obtain⟨v,o,d,hd⟩:=I.cell x c e;obtain⟨m,⟨o',es,f,a,b,_⟩,_⟩:=I.loc;rw[z,a]at d; cases d; rw[b]at hd; cases hd
theorem Inv.funs(I:Inv X pins σ H s):s.heap.FunFrames X.base X.outer:=by
 have all:∀(l:L Env),(∀b∈frs l,b∈X.fs)->X.s₀.heap.FunFrames X.base l->s.heap.FunFrames X.base l:=by
  intro l
  induction l with
  |nil=>intro _ _; trivial
  |cons env r d=>
   intro hs g;obtain⟨h,⟨a,o,hf,hn,f,hd⟩,hr⟩:=g;have c:=hs a (by unfold frs; rw[Qzh,hf]; exact Qq2);obtain⟨sl,e⟩:=I.base.slot a o f (I.ok.frf a c) c λz=>I.ok.exfs a z c;exact⟨h,⟨a,_,hf,hn,e,hd⟩,d (λb hb=>hs b (by unfold frs; rw[Qzh,hf]; exact Qqs _ hb)) hr⟩
 exact all X.outer (λ_ hb=>hb) I.ok.funs
theorem Inv.stack(I:Inv X pins σ H s):s.heap.FunFrames X.base X.stack:=by
 rcases I.ok.stk with e|⟨e,hf⟩
 ·rw[e]; exact I.funs
 ·rw[e];obtain⟨m,hn,_⟩:=I.loc;refine .cons (by rw[I.ok.kind]; decide) hf hn ?_ I.funs;exact Heap.get?_none_of_le (Qz0 I.ok.bsz I.ok.above)
def Inv.stkSub(I:Inv X pins σ H s):∀b∈frs X.stack,b∈X.env.locals::X.fs:=λb hb=>by
 rcases I.ok.stk with e|⟨e,hf⟩
 ·rw[e]at hb; exact Qqs _ hb
 ·rw[e]at hb;unfold frs at hb;rw[Qzh,hf]at hb;exact hb
def Inv.stkFree(I:Inv X pins σ H s):∀b∈frs X.stack,H b=none:=λb hb=>by
 rcases Qqa.mp (I.stkSub b hb) with e|hb
 ·rw[e]; exact I.free
 ·obtain⟨_,o,a,_⟩:=I.ok.funs.mem hb;exact I.base.free b o a (I.ok.frf b hb) λz=>I.ok.exfs b z hb
def Inv.step{ch:L Y8}(I:Inv X pins σ H s)(g:∀b∈ch,(b∈X.ex\/X.s₀.heap.objs.size<=b)/\b≠X.env.locals/\(∀x c,X.env.cells.lookup x=Y c->c≠b)/\∀p∈X.pn++pins,p.1≠b)(keep:∀b o,b≠X.env.locals->b ∉ X.fs->b ∉ ch->s.heap.get? b=Y o->H b=B->h'.get? b=Y o)(slot:∀b o,b≠X.env.locals->b∈X.fs->b ∉ ch->s.heap.get? b=Y o->H b=B->∃sl,h'.get? b=Y { o with slots:=sl })(free:∀b o,b ∉ ch->s.heap.get? b=Y o->H b=B->H' b=B)(there:∀b o,b ∉ ch->s.heap.get? b=Y o->∃o',h'.get? b=Y o')(tups:∀b xs,H b=Y (.tup xs)->H' b=Y (.tup xs))(frzs:∀b o u,H b=Y (.frz o u)->H' b=Y (.frz o u))(tbls:∀b ps,H b=Y (.tbl ps)->∃more,H' b=Y (.tbl (ps++more)))(ns:∀m,s.heap.Ns X.env.locals m->h'.Ns X.env.locals m)(hok:HOk X.prog X.w H' h')(G:Zn g'):
  Inv X pins σ H' { s with heap:=h',gens:=g',drawn:=d',toks:=t' }:=by
 have y:∀b o,X.s₀.heap.get? b=Y o->b≠X.env.locals:=λb o e=>Qqr (Qq3 (Qqb e) I.ok.above);have j:∀b o,X.s₀.heap.get? b=Y o->b ∉ X.ex->b ∉ ch:=λb o e a hb=>by
  rcases (g b hb).1 with z|z
  ·exact a z
  ·exact absurd (Qq3 (Qqb e) z) (Qzo _)
 have h:∀x c,X.env.cells.lookup x=Y c->∀v,s.heap.IsCell c v->h'.IsCell c v:=λx c e v ⟨o,w,hd⟩=>by
  have f:=λz=>(g c z).2.2.1 x c e rfl
  by_cases hc:c∈X.fs
  ·obtain⟨sl,q⟩:=slot c o (I.cne x c e) hc f w (I.freeC x c e);exact⟨_,q,hd⟩
  ·exact⟨o,keep c o (I.cne x c e) hc f w (I.freeC x c e),hd⟩
 refine⟨I.ok,I.os,G,⟨λb o e n hb a=>?_,λb o e n hb a=>?_,λb o e n a=>?_,λb o e a=>?_,λb xs e=>tups b xs (I.base.tups b xs e),λb o xs e=>frzs b o xs (I.base.frzs b o xs e),λb ps e=>?_⟩,?_,λx c e=>?_,?_,λx c e=>?_,λp E=>?_,hok,I.len⟩
 ·exact keep b o (y b o e) hb (j b o e a) (I.base.keep b o e n hb a) (I.base.free b o e n a)
 ·obtain⟨sl,t⟩:=I.base.slot b o e n hb a;obtain⟨C,A⟩:=slot b _ (y b o e) hb (j b o e a) t (I.base.free b o e n a);exact⟨C,A⟩
 ·obtain⟨o',t⟩:=I.base.there b o e a;exact free b o' (j b o e a) t (I.base.free b o e n a)
 ·obtain⟨o',t⟩:=I.base.there b o e a;exact there b o' (j b o e a) t
 ·obtain⟨m1,t⟩:=I.base.tbls b ps e;obtain⟨m2,A⟩:=tbls b _ t;exact⟨m1++m2,by rw[A,Array.append_assoc]⟩
 ·obtain⟨m,hn,F⟩:=I.loc;refine⟨m,ns m hn,λi x v t A K=>?_⟩;obtain⟨u,r,l⟩:=F i x v t A K;refine⟨u,r,?_⟩;rcases l with l|⟨k,c,e,z⟩
  ·exact .inl l
  ·exact .inr ⟨k,c,e,h x c e _ z⟩
 ·obtain⟨v,z⟩:=I.cell x c e;exact⟨v,h x c e v z⟩
 ·obtain⟨m,⟨o,_,_,w,_⟩,_⟩:=I.loc;exact free _ o (λz=>(g _ z).2.1 rfl) w I.free
 ·obtain⟨v,o,w,hd⟩:=I.cell x c e;exact free c o (λz=>(g c z).2.2.1 x c e rfl) w (I.freeC x c e)
 ·obtain⟨e,n,ne,D,d⟩:=I.pin p E;have f:=λz=>(g p.1 z).2.2.2 p E rfl;exact⟨keep p.1 p.2 ne D f e n,free p.1 p.2 f e n,ne,D,d⟩
def Inv.un(I:Inv X pins σ H s)(u:Un X.fs [] H H' s.heap h')(hok:HOk X.prog X.w H' h'):Inv X pins σ H' { s with heap:=h',toks:=t' }:=by
 obtain⟨m,⟨o,es,i,f,r⟩,_⟩:=id I.loc;obtain⟨sl,h⟩:=u.any f I.free (by simp)
 exact I.step (ch:=[]) (λ_ z=>nomatch z) (λb o _ hb _ e n=>u.keep b o e n hb (by simp)) (λb o _ hb _ e n=>u.slot b o e n hb (by simp)) (λb o _ e n=>u.free b o e n (by simp)) (λb o _ e=>u.there b o e (by simp)) u.tups u.frzs u.tbls (λm' g=>by
  obtain⟨o',c,d,a,r'⟩:=g;rw[f]at a; cases a
  exact⟨_,c,d,h,r'⟩) hok I.bare
def Inv.call(I:Inv X pins σ H s)(u:Un (frs X.stack) ch H H' s.heap h')(hok:HOk X.prog X.w H' h')(k:Zn g')(d:∀b∈ch,(b∈X.ex\/X.s₀.heap.objs.size<=b)/\b≠X.env.locals/\(∀x c,X.env.cells.lookup x=Y c->c≠b)/\∀p∈X.pn++pins,p.1≠b):
  Inv X pins σ H' { s with heap:=h',gens:=g',drawn:=d',toks:=t' }:=by
 obtain⟨m,⟨o,es,l,i,r⟩,_⟩:=id I.loc;obtain⟨sl,f⟩:=u.any i I.free λz=>(d _ z).2.1 rfl
 exact I.step d (λb o f hb hc e n=>u.keep b o e n (λz=>(Qqa.mp (I.stkSub b z)).elim f hb) hc) (λb o _ _ hc e n=>u.any e n hc) (λb o hc e n=>u.free b o e n hc) (λb o hc e=>u.there b o e hc) u.tups u.frzs u.tbls (λm' j=>by
  obtain⟨o',g,h,a,r'⟩:=j;rw[i]at a; cases a
  exact⟨_,g,h,f,r'⟩) hok k
def Inv.turned(I:Inv X pins σ H s)(k:∀b o,b≠it->s.heap.get? b=Y o->h'.get? b=Y o)(g:H it=B)(d:it≠X.env.locals)(l:it∈X.ex\/X.s₀.heap.objs.size<=it)(j:∀x c,X.env.cells.lookup x=Y c->c≠it)(i:∀p∈X.pn++pins,p.1≠it):Inv X pins σ H { s with heap:=h',toks:=t' }:=by
 have a:∀b u,H b=Y u->b≠it:=λb u e z=>by rw[z,g]at e; cases e
 refine I.step (ch:=[it]) (λb hb=>?_) (λb o _ _ hc e _=>k b o (λz=>hc (by simp[z])) e) (λb o _ _ hc e _=>⟨o.slots,k b o (λz=>hc (by simp[z])) e⟩) (λ_ _ _ _ n=>n)
  (λb o hc e=>⟨o,k b o (λz=>hc (by simp[z])) e⟩) (λ_ _ e=>e) (λ_ _ _ e=>e) (λb ps e=>⟨#[],by rw[e]; simp⟩) (λm h=>?_) (λb u e=>?_) I.bare
 ·have e:b=it:=by simpa using hb
  subst e;exact⟨l,d,j,i⟩
 ·obtain⟨o,es,t,f,r⟩:=h;exact⟨o,es,t,k _ o (Ne.symm d) f,r⟩
 ·refine(I.hok b u e).stay (λc v hc q=>k c v ?_ q) (λ_ q=>q) λ_ _ q=>q;rcases hc with z|z
  ·rw[z]; exact a b u e
  ·exact a c _ z
def Inv.tok(I:Inv X pins σ H s)(t):Inv X pins σ H { s with toks:=t }:=I.un Un.refl I.hok
theorem Inv.kept(I:Inv X pins σ H s)(k:∀b u,s.heap.get? b=Y u->h'.get? b=Y u):Inv X pins σ H { s with heap:=h',toks:=t' }:=I.un (Un.kept k) (I.hok.kept k)
theorem Inv.laid(I:Inv X pins σ H s)(k:∀b u,s.heap.get? b=Y u->h'.get? b=Y u)(c:s.heap.objs.size<=a)(new:ObjOk X.prog X.w (upd H a o) h' a o):
  Inv X pins σ (upd H a o) { s with heap:=h',toks:=t' }:=I.un (Un.laid k c (I.hok.fresh c)) (I.hok.laid k c new)
theorem Inv.write(I:Inv X pins σ H s)(c:Mut (H x))(d:e=x\/H e=Y (.own x))(k:∀b u,b≠e->s.heap.get? b=Y u->h'.get? b=Y u)(a:∃u,h'.get? e=Y u)(new:ObjOk X.prog X.w (upd H x o) h' x o):Inv X pins σ (upd H x o) { s with heap:=h',toks:=t' }:=I.un (Un.write c d k a) (I.hok.write c d k a new)
def Inv.pins_of(I:Inv X pins σ H s)(h:∀p∈a,s.heap.get? p.1=Y p.2/\H p.1=B/\p.1≠X.env.locals/\p.1 ∉ X.fs/\∀v,p.2.data≠.cell v):Inv X a σ H s:=
 ⟨I.ok,I.os,I.bare,I.base,I.loc,I.cell,I.free,I.freeC,λp b=>(Qql.mp b).elim (λz=>I.pin p (Qzf _ z)) (h p),I.hok,I.len⟩
def qy5{N:L Y6}(c:N.Nodup){i:Y1}(a:N[i]?=Y x)(b:N[j]?=Y x):i=j:=by
 obtain⟨h1,e⟩:=Qqk.mp a;obtain⟨h2,d⟩:=Qqk.mp b;exact(List.getElem_inj c).mp (e.trans d.symm)
def qvi(I:Inv X pins σ H s)(hN:X.N.Nodup)(K:X.N[i]?=Y x)(g:Loc X.env.scope x)(r:RelV v u)(h:∀s',Inv X pins (σ.set i (Y v)) H s'->(∃a,Heap.SameBut a s.heap s'.heap/\(a=X.env.locals\/X.env.cells.lookup x=Y a))->Q () s')(hf:X.fn x=Z\/X.env.scope.names.lookup x=Y .local):wpAny M A (storeName X.env x u) Q E s:=by
 obtain⟨m,hn,hl⟩:=id I.loc;have N:(X.env.scope.kind==.class||(X.env.scope.kind==.module&&X.env.locals != X.env.globals))=false:=by rw[I.ok.kind]; rfl
 have C:i<σ.length:=by rw[I.len]; exact(Qqk.mp K).1
 have cne:=I.cne;have tracked:∀{a:Y8}{h':Heap},(∃o,s.heap.get? a=Y o/\H a=B)->Heap.SameBut a s.heap h'->HOk X.prog X.w H h':=λ{a h'} ha hs b ob e=>by
  obtain⟨_,_,l⟩:=ha;refine(I.hok b ob e).stay (λc S hc q=>(hs.2 c ?_).trans q) (λ_ q=>q) λ_ _ q=>q;rintro rfl;rcases hc with rfl|hc
  ·rw[l]at e; cases e
  ·rw[l]at hc; cases hc
 rcases g with w|w
 ·refine wpAny_storeName_local w hn (λh' a1 hs=>?_) N;obtain⟨oL,_,_,a0,_⟩:=id hn;refine h _ ⟨I.ok,I.os,I.bare,⟨λb o e n hb g=>?_,λb o e n hb g=>?_,I.base.free,λb o e g=>?_,I.base.tups,I.base.frzs,I.base.tbls⟩,⟨_,a1,λj y U f t e3=>?_⟩,λy c e=>?_,I.free,I.freeC,λp hp=>?_,tracked ⟨oL,a0,I.free⟩ hs,by simpa using I.len⟩ ⟨_,hs,.inl rfl⟩
  ·exact(hs.2 b (Qqr (Qq3 (Qqb e) I.ok.above))).trans (I.base.keep b o e n hb g)
  ·obtain⟨sl,f⟩:=I.base.slot b o e n hb g;exact⟨sl,(hs.2 b (Qqr (Qq3 (Qqb e) I.ok.above))).trans f⟩
  ·obtain⟨o',f⟩:=I.base.there b o e g;exact⟨o',(hs.2 b (Qqr (Qq3 (Qqb e) I.ok.above))).trans f⟩
  ·by_cases hj:j=i
   ·subst hj;rw[K]at f; cases f;rw[Qzz C]at t;cases t;exact⟨u,r,.inl ⟨w,by simp⟩⟩
   ·rw[Qqt (Ne.symm hj)]at t;obtain⟨W,r',q⟩:=hl j y U f t e3;refine⟨W,r',?_⟩;rcases q with⟨k,e⟩|⟨k,c,e,z⟩
    ·refine .inl ⟨k,?_⟩;have:y≠x:=λe=>hj (qy5 hN f (e▸K));simp[this,e]
    ·exact .inr ⟨k,c,e,z.sameBut hs (cne y c e)⟩
  ·obtain⟨S,z⟩:=I.cell y c e;exact⟨S,z.sameBut hs (cne y c e)⟩
  ·obtain⟨e,n,ne,nf,d⟩:=I.pin p hp;exact⟨(hs.2 p.1 ne).trans e,n,ne,nf,d⟩
 ·have D:X.fn x=true:=by
   rcases hf with z|z
   ·exact z
   ·rw[z]at w; cases w
  obtain⟨c,hc⟩:=I.ok.has x (.inl w);obtain⟨S,z⟩:=I.cell x c hc;refine wpAny_storeName_cell I.ok.kind w hc z (λh' R hs=>?_);obtain⟨oc,G,F⟩:=id z;refine h { s with heap:=h' } ⟨I.ok,I.os,I.bare,⟨λb o e n hb g=>?_,λb o e n hb g=>?_,I.base.free,λb o e g=>?_,I.base.tups,I.base.frzs,I.base.tbls⟩,⟨m,hn.sameBut hs (Ne.symm (cne x c hc)),λj y U f t e3=>?_⟩,λy T e=>?_,I.free,I.freeC,λp hp=>?_,tracked ⟨oc,G,I.freeC x c hc⟩ hs,by simpa using I.len⟩ ⟨c,hs,.inr hc⟩
  ·exact(hs.2 b (Qqr (Qq3 (Qqb e) (I.ok.cab x c D hc)))).trans (I.base.keep b o e n hb g)
  ·obtain⟨sl,f⟩:=I.base.slot b o e n hb g;exact⟨sl,(hs.2 b (Qqr (Qq3 (Qqb e) (I.ok.cab x c D hc)))).trans f⟩
  ·obtain⟨o',f⟩:=I.base.there b o e g;exact⟨o',(hs.2 b (Qqr (Qq3 (Qqb e) (I.ok.cab x c D hc)))).trans f⟩
  ·by_cases hj:j=i
   ·subst hj;rw[K]at f; cases f;rw[Qzz C]at t;cases t;exact⟨u,r,.inr ⟨.inl w,c,hc,R⟩⟩
   ·rw[Qqt (Ne.symm hj)]at t;obtain⟨W,r',q⟩:=hl j y U f t e3;refine⟨W,r',?_⟩;rcases q with q|⟨k,T,e,z'⟩
    ·exact .inl q
    ·refine .inr ⟨k,T,e,z'.sameBut hs ?_⟩;rintro rfl;exact hj (qy5 hN f (I.ok.inj _ _ _ e hc▸K))
  ·by_cases P:T=c
   ·subst P; exact⟨_,R⟩
   ·obtain⟨w2,z2⟩:=I.cell y T e;exact⟨w2,z2.sameBut hs P⟩
  ·obtain⟨e,n,ne,nf,d⟩:=I.pin p hp;refine⟨(hs.2 p.1 ?_).trans e,n,ne,nf,d⟩;intro q;rw[q,G]at e;have q':=Option.some.inj e;exact d S (by rw[<- q']; exact F)
def qyl(I:Inv X pins σ H s)(c:X.N.Nodup)(b:X.N[i]?=Y x)(a:Loc X.env.scope x)(r:RelV v u)(h:∀s',Inv X pins (σ.set i (Y v)) H s'->Q () s')(hf:X.fn x=Z\/X.env.scope.names.lookup x=Y .local):wpAny M A (storeName X.env x u) Q E s:=
 qvi I c b a r (λs' d _=>h s' d) hf
def Inv.call'(I:Inv X pins σ H s)(f:s'.os=s.os)(u:Un (frs X.stack) ch H H' s.heap s'.heap)(hok:HOk X.prog X.w H' s'.heap)(g:Zn s'.gens)(a:∀b∈ch,(b∈X.ex\/X.s₀.heap.objs.size<=b)/\b≠X.env.locals/\(∀x c,X.env.cells.lookup x=Y c->c≠b)/\∀p∈X.pn++pins,p.1≠b):Inv X pins σ H' s':=by
 obtain⟨h',h,i,d,o'⟩:=s';have e:=f;subst e;exact I.call u hok g a
end
abbrev XK:=Y9->Y4 Y8->Hp->Prop
abbrev St:=L (Y4 V)
abbrev VK:=V->Hp->Prop
abbrev TE:=St->Hp->VK->Prop
abbrev TT:=St->Hp->(Yc->Hp->Prop)->Prop
abbrev TA:=St->Hp->(L V->Hp->Prop)->Prop
structure Ends where
 nx:St->Hp->Prop
 rt:VK
 bk:St->Hp->Prop:=λ_ _=>False
 ct:St->Hp->Prop:=λ_ _=>False
abbrev TS:=Ends->St->Hp->Prop
def EP(X:Cx)(pins:L (Y8×Obj))(σ:St)(Q:VK)(u:Y9)(s':Qz):Prop:=∃v H',Inv X pins σ H' s'/\RelV v u/\Q v H'
def TP(X:Cx)(pins:L (Y8×Obj))(σ:St)(Q:Yc->Hp->Prop)(b:Yc)(s':Qz):Prop:=∃H',Inv X pins σ H' s'/\Q b H'
def AP(X:Cx)(pins:L (Y8×Obj))(σ:St)(Q:L V->Hp->Prop)(us:L Y9)(s':Qz):Prop:=∃vs H',Inv X pins σ H' s'/\Vals vs us/\Q vs H'
def SP(X:Cx)(pins:L (Y8×Obj))(D:Ends)(f:Flow)(s':Qz):Prop:=
 match f with
 |.next=>∃σ' H',Inv X pins σ' H' s'/\D.nx σ' H'
 |.brk=>∃σ' H',Inv X pins σ' H' s'/\D.bk σ' H'
 |.cont=>∃σ' H',Inv X pins σ' H' s'/\D.ct σ' H'
 |.ret u=>∃v σ' H',Inv X pins σ' H' s'/\RelV v u/\D.rt v H'
def PE(X:Cx)(e:Qj)(t:TE):Prop:=
 ∀(pins:L (Y8×Obj)) (s:Qz) (σ:St) (H:Hp) (Q:VK),Inv X pins σ H s->t σ H Q->wpAny (model X.prog X.w) X.A (Qb e X.env) (EP X pins σ Q) X.xe s
def PT(X:Cx)(e:Qj)(t:TT):Prop:=
 ∀(pins:L (Y8×Obj)) (s:Qz) (σ:St) (H:Hp) (Q:Yc->Hp->Prop),Inv X pins σ H s->t σ H Q->wpAny (model X.prog X.w) X.A (isTrue e X.env (Qb e X.env)) (TP X pins σ Q) X.xe s
def PW(X:Cx)(e:Qj)(t:TT):Prop:=
 ∀(whole:Sem Y9) (pins:L (Y8×Obj)) (s:Qz) (σ:St) (H:Hp) (Q:Yc->Hp->Prop),Inv X pins σ H s->t σ H Q->wpAny (model X.prog X.w) X.A (isTrue e X.env whole) (TP X pins σ Q) X.xe s
def PW.pt(h:PW X e t):PT X e t:=h _
def PA(X:Cx)(es:L Qj)(t:TA):Prop:=
 ∀(pos:Pos) (pins:L (Y8×Obj)) (s:Qz) (σ:St) (H:Hp) (Q:L V->Hp->Prop),Inv X pins σ H s->t σ H Q->wpAny (model X.prog X.w) X.A (spliced (backTo pos (starEach es X.env))) (AP X pins σ Q) X.xe s
def PS(X:Cx)(st:Stmt)(t:TS):Prop:=
 ∀(pins:L (Y8×Obj)) (s:Qz) (σ:St) (H:Hp) (D:Ends),Inv X pins σ H s->t D σ H->wpAny (model X.prog X.w) X.A (exec st X.env) (SP X pins D) X.xe s
def PSs(X:Cx)(st:L Stmt)(t:TS):Prop:=
 ∀(pins:L (Y8×Obj)) (s:Qz) (σ:St) (H:Hp) (D:Ends),Inv X pins σ H s->t D σ H->wpAny (model X.prog X.w) X.A (execs st X.env) (SP X pins D) X.xe s
def thn{t:Sem α}{Q b:α->Qz->Prop}(h:wpAny M A t Q E s)(c:∀a s,Q a s->b a s):wpAny M A t b E s:=Ql h c λ_ _ x=>x
section
def bin(p:PE X a j)(hb:PE X b tb){R:V->V->Hp->Prop}(I:Inv X c d H s)(h:j d H λx H1=>tb d H1 λy H2=>R x y H2){Q:α->Qz->Prop}{f:Y9->Y9->Sem α}(hf:∀v u i x y H2,Inv X c d H2 i->RelV x v->RelV y u->R x y H2->wpAny (model X.prog X.w) X.A (f v u) Q X.xe i):
  wpAny (model X.prog X.w) X.A (Qb a X.env) (λv g=>wpAny (model X.prog X.w) X.A (Qb b X.env) (λu e=>wpAny (model X.prog X.w) X.A (f v u) Q X.xe e) X.xe g) X.xe s:=by
 refine thn (p c s d H _ I h) λv k ⟨x,H1,r,m,o⟩=>?_;refine thn (hb c k d H1 _ r o) λu i ⟨y,H2,q,l,n⟩=>?_;exact hf v u i x y H2 q m l n
noncomputable def tVar(i:Y1):TE:=λσ H Q=>∃v,σ[i]?=Y (Y v)/\Q v H
noncomputable def tC(v:V):TE:=λ_ H Q=>Q v H
def pe_var(k:X.N[i]?=Y x)(hv:Vis X.env.scope x)(hd:(x==("__debug__" : Y6))=false:=by decide)(f:(x==("__classdict__" : Y6))=false:=by decide):PE X (.Name x pos) (tVar i):=by
 intro pins s σ H Q I h;obtain⟨v,e,h⟩:=h;obtain⟨m,hn,j⟩:=I.loc;obtain⟨u,r,l⟩:=j i x v k e hv;have d:EP X pins σ Q u s:=⟨v,H,I,r,h⟩
 rcases l with⟨b,g⟩|⟨b,c,hc,a⟩
 ·exact wpAny_Name (wpAny_loadName_local I.ok.kind b hn g d) hd
 ·rcases b with b|b
  ·exact wpAny_Name (wpAny_loadName_cell I.ok.kind b hc a d) hd
  ·exact wpAny_Name (wpAny_loadName_free I.ok.kind b hc a d f) hd
def pe_int{i j pos}:PE X (.Constant (.int i) j pos) (tC (.int i)):=λ_ _ _ H _ I h=>wpAny_Constant_int ⟨.int i,H,I.tok _,⟨_,rfl⟩,h⟩
def pe_bl{b j pos}:PE X (.Constant (.bool b) j pos) (tC (.bl b)):=λ_ _ _ H _ I h=>Constant_bool ⟨.bl b,H,I,rfl,h⟩
def pe_non{j pos}:PE X (.Constant .none j pos) (tC .non):=λ_ _ _ H _ I h=>Constant_none ⟨.non,H,I,rfl,h⟩
def pe_str{x j pos}:PE X (.Constant (.str x) j pos) (tC (.str x)):=λ_ _ _ H _ I h=>Calls.Constant_str ⟨.str x,H,I.tok _,⟨_,rfl⟩,h⟩
def Gl(X:Cx)(x:Y6):Prop:=X.env.kindOf x=Y .globalImplicit
def qw7(I:Inv X a b H s)(d:Gl X x)(c:X.mg x=Y u)(h:Q u s)(hd:(x==("__debug__" : Y6))=false:=by decide):wpAny (model X.prog X.w) X.A (Qb (.Name x pos) X.env) Q E s:=
 Calls.Name_function_global I.ok.kind d (Calls.loadGlobal_global (by rw[I.ok.glob]; exact I.mod.glob.keeps I.bk) c h) hd
def qx3(I:Inv X a b H s)(e:Gl X x)(d:X.mg x=B)(hv:Qd x=Y u)(h:Q u s)(c:x ≠ "__name__":=by decide)(hd:(x==("__debug__" : Y6))=false:=by decide):wpAny (model X.prog X.w) X.A (Qb (.Name x pos) X.env) Q E s:=by
 obtain⟨f,h1,h2⟩:=I.mod.blt;exact Calls.Name_function_global I.ok.kind e (Calls.loadGlobal_builtin (by rw[I.ok.glob]; exact I.mod.glob.keeps I.bk) d (by rw[I.ok.blt]; exact h1.keeps I.bk) ((h2 x c).trans hv) h) hd
def qw1(b:Gl X x)(a:X.mg x=Y u)(r:RelV v u)(hd:(x==("__debug__" : Y6))=false:=by decide):PE X (.Name x pos) (tC v):=
 λ_ _ _ H _ I h=>qw7 I b a ⟨v,H,I,r,h⟩ hd
def qjf(c:Gl X x)(b:X.mg x=B)(hv:Qd x=Y u)(r:RelV v u)(a:x ≠ "__name__":=by decide)(hd:(x==("__debug__" : Y6))=false:=by decide):PE X (.Name x pos) (tC v):=
 λ_ _ _ H _ I h=>qx3 I c b hv ⟨v,H,I,r,h⟩ a hd
def PC(X:Cx)(op:CmpOp)(a b:Qj)(t:TE):Prop:=
 ∀(pins:L (Y8×Obj)) (s:Qz) (σ:St) (H:Hp) (Q:VK),Inv X pins σ H s->t σ H Q->
  wpAny (model X.prog X.w) X.A (Qb a X.env) (λv s₁=>wpAny (model X.prog X.w) X.A (Qb b X.env) (λu s₂=>wpAny (model X.prog X.w) X.A (Qi op v u) (EP X pins σ Q) X.xe s₂) X.xe s₁) X.xe s
noncomputable def tB(t:TE):TT:=λσ H Q=>t σ H λx H1=>∃c,x=.bl c/\Q c H1
def qc1(h:PC X c a b t)(e:Zi c b=Y7):PE X (.Compare a [c] [b] pos) t:=λpins s σ H Q I d=>wpAny_Compare1 (h pins s σ H Q I d) e
def qco(h:PC X e a b t)(f:Zi e b=Y7):PT X (.Compare a [e] [b] pos) (tB t):=by
 intro pins s σ H Q I j;refine wpAny_isTrue_Compare1 (thn (h pins s σ H _ I j) λv n f=>thn f λu m h2=>thn h2 λc l ⟨x,H1,k,g,i⟩=>?_) f;obtain⟨d,rfl,q⟩:=i;cases g;exact Qf ⟨H1,k,q⟩
noncomputable def tAnd(t u:TT):TT:=λσ H Q=>t σ H λc H1=>if c=Z then u σ H1 Q else Q Y7 H1
noncomputable def tOr(t u:TT):TT:=λσ H Q=>t σ H λc H1=>if c=Z then Q Z H1 else u σ H1 Q
noncomputable def tNot(t:TT):TT:=λσ H Q=>t σ H λc H1=>Q (!c) H1
def qlo(d:PT X a tA):PW X (.BoolOp .And [a] pos) tA:=by
 intro f pins s σ H Q I h;refine isTrue_and (thn (d pins s σ H Q I h) λc g e=>?_)
 cases c with
 |true=>exact isTrue_and_nil e
 |false=>exact e
def pw_or1(d:PT X a tA):PW X (.BoolOp .Or [a] pos) tA:=by
 intro f pins s σ H Q I h;refine isTrue_or (thn (d pins s σ H Q I h) λc g e=>?_)
 cases c with
 |false=>exact isTrue_or_nil e
 |true=>exact e
def pw_and(i:PT X a tA)(hb:PW X (.BoolOp .And (b::rest) pos) tB'):PW X (.BoolOp .And (a::b::rest) pos) (tAnd tA tB'):=by
 intro f pins s σ H Q I h;refine isTrue_and (thn (i pins s σ H _ I h) λc g ⟨H1,e,d⟩=>?_)
 cases c with
 |true=>exact hb f pins g σ H1 Q e d
 |false=>exact⟨H1,e,d⟩
def pw_or(i:PT X a tA)(hb:PW X (.BoolOp .Or (b::rest) pos) tB'):PW X (.BoolOp .Or (a::b::rest) pos) (tOr tA tB'):=by
 intro f pins s σ H Q I h;refine isTrue_or (thn (i pins s σ H _ I h) λc g ⟨H1,e,d⟩=>?_)
 cases c with
 |true=>exact⟨H1,e,d⟩
 |false=>exact hb f pins g σ H1 Q e d
def pt_not(d:PT X a tA):PT X (.UnaryOp .Not a pos) (tNot tA):=by
 intro pins s σ H Q I h;exact isTrue_not (d pins s σ H (λc H1=>Q (!c) H1) I h)
noncomputable def tAndV(ta tb:TE):TE:=λσ H Q=>ta σ H λx H1=>∃c,x=.bl c/\if c=Z then tb σ H1 Q else Q (.bl Y7) H1
noncomputable def tOrV(ta tb:TE):TE:=λσ H Q=>ta σ H λx H1=>∃c,x=.bl c/\if c=Z then Q (.bl Z) H1 else tb σ H1 Q
noncomputable def tNotV(ta:TE):TE:=λσ H Q=>ta σ H λx H1=>∃c,x=.bl c/\Q (.bl (!c)) H1
def qh4{op}(h:PE X a t):PE X (.BoolOp op [a] pos) t:=λpins s σ H Q I c=>BoolOp_one (h pins s σ H Q I c)
def pe_and(i:PE X a ta)(hb:PE X (.BoolOp .And (b::rest) pos) tb):PE X (.BoolOp .And (a::b::rest) pos) (tAndV ta tb):=by
 intro pins s σ H Q I h;refine BoolOp_and (thn (i pins s σ H _ I h) λv f ⟨x,H1,e,g,d⟩=>?_);obtain⟨c,rfl,d⟩:=d;cases g;refine Qf ?_
 cases c with
 |true=>exact hb pins f σ H1 Q e d
 |false=>exact⟨.bl Y7,H1,e,rfl,d⟩
def pe_or(i:PE X a ta)(hb:PE X (.BoolOp .Or (b::rest) pos) tb):PE X (.BoolOp .Or (a::b::rest) pos) (tOrV ta tb):=by
 intro pins s σ H Q I h;refine BoolOp_or (thn (i pins s σ H _ I h) λv f ⟨x,H1,e,g,d⟩=>?_);obtain⟨c,rfl,d⟩:=d;cases g;refine Qf ?_
 cases c with
 |false=>exact hb pins f σ H1 Q e d
 |true=>exact⟨.bl Z,H1,e,rfl,d⟩
def pe_not(f:PE X a ta):PE X (.UnaryOp .Not a pos) (tNotV ta):=by
 intro pins s σ H Q I h;refine UnaryOp_ (thn (f pins s σ H _ I h) λv i ⟨x,H1,g,e,d⟩=>?_);obtain⟨c,rfl,d⟩:=d;cases e;exact not_of (Qf ⟨.bl (!c),H1,g,rfl,d⟩)
noncomputable def tIf(t:TT)(ta tb:TE):TE:=λσ H Q=>t σ H λc H1=>if c=Z then ta σ H1 Q else tb σ H1 Q
def qga(hc:PT X c tA)(i:PE X a ta)(hb:PE X b tb):PE X (.IfExp c a b pos) (tIf tA ta tb):=by
 intro pins s σ H Q I h;refine wpAny_IfExp (thn (hc pins s σ H _ I h) λd e ⟨H1,g,f⟩=>?_)
 cases d with
 |true=>exact i pins e σ H1 Q g f
 |false=>exact hb pins e σ H1 Q g f
end
def SqL(K:Qqq)(H:Hp)(a:Y8)(xs:L V):Prop:=
 Rd H a (.lst xs)\/
  ∃(o:Obj) (its:Array Y9) (n:Y1),K.lookup a=Y o/\o.cls=.type "list"/\o.dict=B/\o.data=.seq its n/\its.size<=sizeLine/\Vals xs its.toList
def SqT(K:Qqq)(H:Hp)(a:Y8)(xs:L V):Prop:=
 Rd H a (.tup xs)\/
  ∃(o:Obj) (its:Array Y9) (n:Y1),K.lookup a=Y o/\o.cls=.type "tuple"/\o.data=.seq its n/\its.size<=sizeLine/\Vals xs its.toList
noncomputable def absV:Y9->Y4 V
 |.none=>Y .non
 |.bool b=>Y (.bl b)
 |.int i _=>Y (.int i)
 |.str x _=>Y (.str x)
 |.bytes b _=>Y (.byt b)
 |.float b _=>Y (.flt b)
 |.ref a=>Y (.ref a)
 |.type n=>Y (.ty n)
 |_=>B
def RelV.abs(r:RelV x u):absV u=Y x:=by
 cases x with
 |non=>cases r; rfl
 |bl _=>cases r; rfl
 |int _=>obtain⟨t,rfl⟩:=r; rfl
 |str _=>obtain⟨t,rfl⟩:=r; rfl
 |byt _=>obtain⟨t,rfl⟩:=r; rfl
 |flt _=>obtain⟨t,rfl⟩:=r; rfl
 |ref _=>cases r; rfl
 |ty _=>cases r; rfl
theorem RelV.inj(r:RelV x u)(q:RelV y u):x=y:=Option.some.inj (r.abs.symm.trans q.abs)
theorem Vals.inj:∀{xs ys}{us},Vals xs us->Vals ys us->xs=ys
 |_,_,_,.nil,.nil=>rfl
 |_,_,_,.cons r t,.cons r' t'=>by rw[r.inj r',Vals.inj t t']
section
def SqL.of{K:Qqq}(h:H a=Y (.lst xs)):SqL K H a xs:=.inl (.inl h)
def SqT.of{K:Qqq}(h:H a=Y (.tup xs)):SqT K H a xs:=.inl (.inl h)
def Inv.list(I:Inv X pins σ H s)(h:SqL X.K H a xs):∃b:L Y9,Vals xs b/\PlainL s.heap a b.toArray/\xs.length<=sizeLine:=by
 rcases h with h|⟨o,b,n,c,hc,hd,hs,d,r⟩
 ·obtain⟨z,b,n,r,e⟩:=h.ok I.hok;exact⟨b,r,⟨_,n,e,rfl,rfl,rfl⟩,z⟩
 ·refine⟨b.toList,r,⟨o,n,I.kIn a o c,hc,hd,by simpa using hs⟩,?_⟩;have e:=r.length;simp only[Qzd]at e;omega
def Inv.tuple(I:Inv X pins σ H s)(h:SqT X.K H a xs):∃b:L Y9,Vals xs b/\IsTup s.heap a b.toArray/\xs.length<=sizeLine:=by
 rcases h with h|⟨o,b,n,c,hc,hs,d,r⟩
 ·obtain⟨z,b,r,p⟩:=h.ok I.hok;exact⟨b,r,p,z⟩
 ·refine⟨b.toList,r,⟨o,I.kIn a o c,hc,n,by simpa using hs⟩,?_⟩;have e:=r.length;simp only[Qzd]at e;omega
def Inv.list_inj(I:Inv X pins σ H s)(h:SqL X.K H a xs)(h':SqL X.K H a ys):xs=ys:=by
 obtain⟨b,r,⟨o,n,e,_,_,d⟩,_⟩:=I.list h;obtain⟨its',r',⟨o',g,c,_,_,f⟩,_⟩:=I.list h';rw[e]at c; cases c;rw[d]at f;injection f with d1 _;have:b=its':=by simpa using congrArg Array.toList d1
 subst this;exact r.inj r'
def Inv.tuple_inj(I:Inv X pins σ H s)(h:SqT X.K H a xs)(h':SqT X.K H a ys):xs=ys:=by
 obtain⟨b,r,⟨o,e,_,n,d⟩,_⟩:=I.tuple h;obtain⟨its',r',⟨o',c,_,g,f⟩,_⟩:=I.tuple h';rw[e]at c; cases c;rw[d]at f;injection f with d1 _;have:b=its':=by simpa using congrArg Array.toList d1
 subst this;exact r.inj r'
end
noncomputable abbrev Cx.wish(X:Cx)(E:Y9->Qz->Prop):Cx:={ X with xe:=E }
noncomputable abbrev Cx.nox(X:Cx):Cx:=X.wish λ_ _=>False
theorem Cx.Ok.wish{X:Cx}(ok:X.Ok)(E:Y9->Qz->Prop):(X.wish E).Ok:=
 ⟨ok.mod,ok.kind,ok.glob,ok.blt,ok.above,ok.inj,ok.has,ok.cab,ok.hd,ok.frames,ok.stk,ok.exf,ok.bs,ok.bsz,ok.noex,ok.exfs,ok.funs,ok.frf⟩
def Cx.Ok.unwish{X:Cx}(ok:(X.wish E).Ok):X.Ok:=
 ⟨ok.mod,ok.kind,ok.glob,ok.blt,ok.above,ok.inj,ok.has,ok.cab,ok.hd,ok.frames,ok.stk,ok.exf,ok.bs,ok.bsz,ok.noex,ok.exfs,ok.funs,ok.frf⟩
section
theorem Inv.wish(I:Inv X pins σ H s)(E:Y9->Qz->Prop):Inv (X.wish E) pins σ H s:=⟨I.ok.wish E,I.os,I.bare,I.base,I.loc,I.cell,I.free,I.freeC,I.pin,I.hok,I.len⟩
theorem Inv.unwish(I:Inv (X.wish E) pins σ H s):Inv X pins σ H s:=⟨I.ok.unwish,I.os,I.bare,I.base,I.loc,I.cell,I.free,I.freeC,I.pin,I.hok,I.len⟩
theorem SP.unwish(h:SP (X.wish E) pins D f s'):SP X pins D f s':=by
 cases f with
 |next=>obtain⟨a,H',I,q⟩:=h; exact⟨a,H',I.unwish,q⟩
 |brk=>obtain⟨a,H',I,q⟩:=h; exact⟨a,H',I.unwish,q⟩
 |cont=>obtain⟨a,H',I,q⟩:=h; exact⟨a,H',I.unwish,q⟩
 |ret u=>obtain⟨v,a,H',I,r,q⟩:=h; exact⟨v,a,H',I.unwish,r,q⟩
theorem PSs.nox{st:L Stmt}(h:PSs X.nox st t):PSs X st t:=λpins s σ H D I a=>
 Ql (h pins s σ H D (I.wish _) a) (λ_ _ q=>q.unwish) λ_ _ z=>False.elim z
end
section
variable {X:Cx}{st:Stmt}{rest:L Stmt}{t u:TS}
noncomputable def tNext:TS:=λD σ H=>D.nx σ H
noncomputable def tSeq(t u:TS):TS:=λD σ H=>t { D with nx:=u D } σ H
def pss_nil:PSs X [] tNext:=λ_ _ σ H _ I h=>wpAny_execs_nil ⟨σ,H,I,h⟩
def qy0(d:PS X st t)(c:PSs X rest u):PSs X (st::rest) (tSeq t u):=by
 intro pins s σ H D I h;refine wpAny_execs_cons (thn (d pins s σ H { D with nx:=u D } I h) λf b q=>?_)
 cases f with
 |next=>
  obtain⟨a,H',g,q⟩:=q;exact c pins b a H' D g q
 |ret v=>exact q
 |brk=>exact q
 |cont=>exact q
def Inv.quiet(I:Inv X a b H s):interactive X.env=false:=by simp[interactive,I.ok.kind]
def ps_doc{x j pos pos'}:PS X (.Expr (.Constant (.str x) j pos) pos') tNext:=λ_ s σ H _ I h=>wpAny_Expr (Calls.Constant_str (show SP X _ _ .next { s with toks:=s.toks+1 } from⟨σ,H,I.tok _,h⟩)) I.quiet
noncomputable def tDrop(te:TE):TS:=λD σ H=>te σ H λ_ H1=>D.nx σ H1
def qls(b:PE X e te)(hs:swapsWith e B pos.line X.env=pure Y7):PS X (.Expr e pos) (tDrop te):=by
 intro pins s σ H D I h;exact wpAny_Expr_any (thn (b pins s σ H _ I h) λv d ⟨x,H1,c,f,a⟩=>⟨σ,H1,c,a⟩) I.quiet hs
noncomputable def tRet(te:TE):TS:=λD σ H=>te σ H D.rt
def ps_ret(c:PE X e te):PS X (.Return (Y e) pos) (tRet te):=by
 intro pins s σ H D I h;exact wpAny_Return_some (thn (c pins s σ H _ I h) λv f ⟨x,H1,d,a,b⟩=>⟨x,σ,H1,d,a,b⟩)
noncomputable def tIfS(c:TT)(t u:TS):TS:=λD σ H=>c σ H λb H1=>if b=Z then t D σ H1 else u D σ H1
def ps_if(hc:PT X c tc)(j:PSs X a t)(hb:PSs X b u):PS X (.If c a b pos) (tIfS tc t u):=by
 intro pins s σ H D I h;refine wpAny_If (thn (hc pins s σ H _ I h) λd f ⟨H1,i,g⟩=>?_)
 cases d with
 |true=>exact j pins f σ H1 D i g
 |false=>exact hb pins f σ H1 D i g
end
abbrev TG:=V->St->Hp->(St->Hp->Prop)->Prop
abbrev TGs:=L V->St->Hp->(St->Hp->Prop)->Prop
def PG(X:Cx)(target:Qj)(t:TG):Prop:=
 ∀(pins:L (Y8×Obj)) (s:Qz) (σ:St) (H:Hp) (v:V) (u:Y9) (Q:St->Hp->Prop),Inv X pins σ H s->RelV v u->t v σ H Q->
  wpAny (model X.prog X.w) X.A (assign target X.env u) (λ_ s'=>∃σ' H',Inv X pins σ' H' s'/\Q σ' H') X.xe s
def PGs(X:Cx)(ts:L Qj)(t:TGs):Prop:=
 ∀(pins:L (Y8×Obj)) (s:Qz) (σ:St) (H:Hp) (vs:L V) (us:L Y9) (Q:St->Hp->Prop),Inv X pins σ H s->Vals vs us->t vs σ H Q->
  wpAny (model X.prog X.w) X.A (assignInOrder ((Q7 ts X.env).map (·.2)) us) (λ_ s'=>∃σ' H',Inv X pins σ' H' s'/\Q σ' H') X.xe s
section
noncomputable def qyq(i:Y1):TG:=λv σ H Q=>Q (σ.set i (Y v)) H
def qc0(c:X.N.Nodup)(b:X.N[i]?=Y x)(a:Loc X.env.scope x)(hf:X.fn x=Z\/X.env.scope.names.lookup x=Y .local):PG X (.Name x pos) (qyq i):=by
 intro pins s σ H v u Q I r h;exact wpAny_assign_Name (qyl I c b a r (λs' d=>⟨_,H,d,h⟩) hf)
noncomputable def gNil:TGs:=λvs σ H Q=>vs=[]/\Q σ H
noncomputable def gCons(t:TG)(u:TGs):TGs:=λvs σ H Q=>∃v r,vs=v::r/\t v σ H λσ' H'=>u r σ' H' Q
def ql4:PGs X [] gNil:=by
 intro pins s σ H vs a Q I r h;obtain⟨e,h⟩:=h;subst e;cases r;exact assignInOrder_nil ⟨σ,H,I,h⟩
def qgw(g:PG X e t)(f:PGs X es u)(hs:(Q7 (e::es) X.env).map (·.2)=assign e X.env::(Q7 es X.env).map (·.2):=by rfl):PGs X (e::es) (gCons t u):=by
 intro pins s σ H vs l Q I r h;obtain⟨v,k,i,h⟩:=h;subst i
 cases r with
 |cons r c=>
  rw[hs];refine assignInOrder_cons (thn (g pins s σ H _ _ _ I r h) λ_ b ⟨a,H1,j,d⟩=>?_);exact f pins b a H1 _ _ Q j c d
noncomputable def gTup(K:Qqq)(n:Y1)(t:TGs):TG:=λv σ H Q=>∃a xs,v=.ref a/\SqT K H a xs/\xs.length=n/\t xs σ H Q
def pg_tup(hc:X.calm=Z)(h:PGs X es t)(m:(Q7 es X.env).length=n:=by rfl)(d:(Q7 es X.env).findIdx? (·.1)=none:=by rfl):PG X (.Tuple es k pos) (gTup X.K n t):=by
 intro pins s σ H v u Q I r c;obtain⟨a,xs,q,l,p,c⟩:=c;subst q;cases r;obtain⟨g,f,j,x⟩:=I.tuple l;refine assign_Tuple_tuple (I.ok.hd hc) j (by simp[m,<- p,f.length]) d λh' i=>?_;have w:=I.kept (t':=s.toks) λb o e=>i b o (Qqr (Qqb e)) e;exact h pins _ σ H xs _ Q w (by simpa using f) c
noncomputable def tAsg(te:TE)(g:TG):TS:=λD σ H=>te σ H λx H1=>g x σ H1 D.nx
def qh0(k:X.N.Nodup)(g:X.N[i]?=Y x)(f:Loc X.env.scope x)(j:PE X e b)(hs:swapsWith e (Y (.Name x a)) pos.line X.env=pure false:=by rfl)(hf:X.fn x=Z\/X.env.scope.names.lookup x=Y .local):
  PS X (.Assign [.Name x a] e pos) (tAsg b (qyq i)):=by
 intro pins s σ H D I h;refine wpAny_Assign_Name (thn (j pins s σ H _ I h) λv o ⟨y,H1,m,c,d⟩=>?_) hs;exact qyl m k g f c (λn l=>⟨_,H1,l,d⟩) hf
end
section
end
structure It where
 go:Y1->Hp->Prop
 yld:Y1->Hp->V->Hp->Prop
 stop:Y1->Hp->Prop
def FpOk(X:Cx)(pins:L (Y8×Obj))(H:Hp)(b:Y8):Prop:=
 H b=B/\b≠X.env.locals/\b ∉ X.fs/\(b∈X.ex\/X.s₀.heap.objs.size<=b)/\(∀x c,X.env.cells.lookup x=Y c->c≠b)/\∀p∈X.pn++pins,p.1≠b
def Inv.fpOk(I:Inv X a d H s)(hb:s.heap.objs.size<=b)(g:H' b=B):FpOk X a H' b:=by
 refine⟨g,Qxw (Qq3 I.lt hb),I.nofs hb,.inr (Qz0 I.sz hb),λx c e z=>?_,λp f z=>?_⟩
 ·obtain⟨v,q⟩:=I.cell x c e;exact absurd (Qq3 q.lt (by rw[z]; exact hb)) (Qzo _)
 ·exact absurd (Qq3 (Qqb (I.pin p f).1) (by rw[z]; exact hb)) (Qzo _)
structure Turn (P:Program) (w:Qk) (K:Qqq) (tg:Qj) (Jq:It) (fp:L Y8) (it:Y8) (tn:Y1->Heap->Prop):Prop where
 mem:it∈fp
 obj:∀i h,tn i h->∀b∈fp,∃o,h.get? b=Y o/\∀v,o.data≠.cell v
 keep:∀i h h',tn i h->(∀b∈fp,∀o,h.get? b=Y o->h'.get? b=Y o)->tn i h'
 item:∀(X:Cx),X.prog=P->X.w=w->X.K=K->X.calm=Z->∀(i:Y1) (pins:L (Y8×Obj)) (s:Qz) (σ:St) (H:Hp) (E:Y9->Qz->Prop),Inv X pins σ H s->(∀b∈fp,FpOk X pins H b)->tn i s.heap->Jq.go i H->
  wpAny (model P w) X.A (pyNext (.ref it)) (λr s1=>∃u,r=Y u/\
   wpAny (model P w) X.A (Zo tg (.ref it) u) (λ_ s2=>∃x H',Inv X pins σ H' s2/\RelV x u/\Jq.yld i H x H'/\tn (i+1) s2.heap/\∀b∈fp,H' b=B) E s1) E s
 done:∀(X:Cx),X.prog=P->X.w=w->X.K=K->X.calm=Z->∀(i:Y1) (pins:L (Y8×Obj)) (s:Qz) (σ:St) (H:Hp) (E:Y9->Qz->Prop),Inv X pins σ H s->(∀b∈fp,FpOk X pins H b)->tn i s.heap->Jq.stop i H->
  wpAny (model P w) X.A (pyNext (.ref it)) (λr s1=>r=B/\Inv X pins σ H s1) E s
 self:∀(A:Qv) (i:Y1) (s:Qz) (Q:Y9->Qz->Prop) (E:Y9->Qz->Prop),tn i s.heap->Q (.ref it) s->wpAny (model P w) A (pyIter (.ref it)) Q E s
abbrev TI:=St->Hp->(It->Hp->Prop)->Prop
def PIE(X:Cx)(pins:L (Y8×Obj))(σ:St)(tg:Qj)(R:It->Hp->Prop)(itv:Y9)(s2:Qz):Prop:=
 ∃(it:Y8) (fp:L Y8) (tn:Y1->Heap->Prop) (Jq:It) (H':Hp),itv=.ref it/\Inv X pins σ H' s2/\Turn X.prog X.w X.K tg Jq fp it tn/\tn 0 s2.heap/\(∀b∈fp,FpOk X pins H' b)/\R Jq H'
def PI(X:Cx)(tg iter:Qj)(wi:TI):Prop:=
 ∀(pins:L (Y8×Obj)) (s:Qz) (σ:St) (H:Hp) (R:It->Hp->Prop),Inv X pins σ H s->wi σ H R->
  wpAny (model X.prog X.w) X.A (Qb iter X.env) (λv s1=>wpAny (model X.prog X.w) X.A (pyIter v) (PIE X pins σ tg R) X.xe s1) X.xe s
def qd8(b:s.heap.get? it=Y o)(hc:o.cls=.type n)(hd:o.data=.fields vs)(c:["enumerate","zip","dict_itemiterator","dict_reverseitemiterator","odict_iterator","itertools.zip_longest","itertools.pairwise"].contains n=Y7)(a:Q () s):wpAny M A (Zo tg (.ref it) u) Q E s:=by
 unfold Zo
 cases tg<;>first
  |exact Qx a
  |(cases u<;>first
    |exact Qx a
    |(refine Qq (wpAny_load b ?_)
      rw[hc,hd];show wpAny M A (if (["enumerate","zip","dict_itemiterator","dict_reverseitemiterator","odict_iterator","itertools.zip_longest","itertools.pairwise"].contains n&&vs[0]?==Y (rawInt _))=Z then _ else _) Q E s;rw[Z7 (by intro h; rw[c,Bool.false_and]at h; cases h)]
      exact Qx a))
noncomputable def Itl(K:Qqq)(a:Y8):It:=
 ⟨λi H=>∃xs x,SqL K H a xs/\xs[i]?=Y x,λi H x H'=>H'=H/\∀xs,SqL K H a xs->xs[i]?=Y x,λi H=>∃xs,SqL K H a xs/\xs.length<=i⟩
noncomputable def Itt(K:Qqq)(a:Y8):It:=
 ⟨λi H=>∃xs x,SqT K H a xs/\xs[i]?=Y x,λi H x H'=>H'=H/\∀xs,SqT K H a xs->xs[i]?=Y x,λi H=>∃xs,SqT K H a xs/\xs.length<=i⟩
noncomputable def Itr(lo:J)(n:Y1):It:=⟨λi _=>i<n,λi H x H'=>H'=H/\x=.int (lo+i),λi _=>n<=i⟩
def qbu{K:Qqq}(a it):Turn P w K tg (Itl K a) [it] it (λi h=>h.IsListIter it a i) where
 mem:=by simp
 obj:=λi h st b hb=>by
  have e:b=it:=by simpa using hb
  subst e;obtain⟨o,e,c,d⟩:=st;exact⟨o,e,λv z=>by rw[d]at z; cases z⟩
 keep:=λi h h' st k=>st.at λo e=>k it (by simp) o e
 item:=by
  intro X q m r hc i pins s σ H E I hf st n;subst q m r;obtain⟨xs,x,f,l⟩:=n;obtain⟨j,g,p,N⟩:=I.list f;obtain⟨u,R,G⟩:=g.get l;obtain⟨D,C,S,A,y,t⟩:=hf it (by simp);refine wpAny_pyNext_list_item st p.isList (x:=u) (by simpa using R) λh' st' F=>?_;have U:=I.turned (t':=s.toks) (λb o hb e=>(F.2 b hb).trans e) D C A y t;obtain⟨o,e,c,d⟩:=id st';exact⟨u,rfl,qd8 e c d (by decide) ⟨x,H,U,G,⟨rfl,λys Q=>by rw[I.list_inj Q f]; exact l⟩,st',λb hb=>(hf b hb).1⟩⟩
 done:=by
  intro X q m r hc i pins s σ H E I hf st n;subst q m r;obtain⟨xs,f,l⟩:=n;obtain⟨j,g,p,N⟩:=I.list f;obtain⟨D,C,S,A,y,t⟩:=hf it (by simp);have V:=g.length;exact wpAny_pyNext_list_end (I.ok.hd hc) st p.isList (by simp; omega) λh' T=>⟨rfl,I.turned (λb o hb e=>T b o hb e) D C A y t⟩
 self:=λ_ _ _ _ _ st h=>wpAny_pyIter_listiter st h
def qao{K:Qqq}(a it):Turn P w K tg (Itt K a) [it] it (λi h=>h.IsTupleIter it a i) where
 mem:=by simp
 obj:=λi h st b hb=>by
  have e:b=it:=by simpa using hb
  subst e;obtain⟨o,e,c,d⟩:=st;exact⟨o,e,λv z=>by rw[d]at z; cases z⟩
 keep:=λi h h' st k=>st.at λo e=>k it (by simp) o e
 item:=by
  intro X q m r hc i pins s σ H E I hf st n;subst q m r;obtain⟨xs,x,g,l⟩:=n;obtain⟨f,j,p,N⟩:=I.tuple g;obtain⟨u,R,G⟩:=j.get l;obtain⟨D,C,S,A,y,t⟩:=hf it (by simp);refine wpAny_pyNext_tuple_item st (p) (x:=u) (by simpa using R) λh' st' F=>?_;have U:=I.turned (t':=s.toks) (λb o hb e=>(F.2 b hb).trans e) D C A y t;obtain⟨o,e,c,d⟩:=id st';exact⟨u,rfl,qd8 (s:={ s with heap:=h' }) e c d (by decide) ⟨x,H,U,G,⟨rfl,λys Q=>by rw[I.tuple_inj Q g]; exact l⟩,st',λb hb=>(hf b hb).1⟩⟩
 done:=by
  intro X q m r hc i pins s σ H E I hf st n;subst q m r;obtain⟨xs,g,l⟩:=n;obtain⟨f,j,p,N⟩:=I.tuple g;obtain⟨D,C,S,A,y,t⟩:=hf it (by simp);have V:=j.length;exact wpAny_pyNext_tuple_end (I.ok.hd hc) st (p) (by simp; omega) λh' T=>⟨rfl,I.turned (λb o hb e=>T b o hb e) D C A y t⟩
 self:=λ_ _ _ _ _ st h=>wpAny_pyIter_tupleiter st h
def qap{K:Qqq}(it)(lo)(n):Turn P w K tg (Itr lo n) [it] it (λi h=>IsRangeIter h it (lo+(i:Y1)*1) ((n:J) - (i:Y1)) 1) where
 mem:=by simp
 obj:=λi h st b hb=>by
  have e:b=it:=by simpa using hb
  subst e
  exact⟨_,st,λv z=>by
   have q:=z
   cases q⟩
 keep:=λi h h' st k=>k it (by simp) _ st
 item:=by
  intro X d a f hc i pins s σ H E I hf st c;subst d a f;obtain⟨p,m,u,l,j,g⟩:=hf it (by simp);have W:=Walks.range (prog:=X.prog) (w:=X.w) (I.ok.hd hc) it lo 1 n;refine W.item i s _ _ c st λv h' tk hv st' r=>?_;obtain⟨t,rfl⟩:=hv;have y:Inv X pins σ H { s with heap:=h',toks:=tk }:=I.turned (λb o hb e=>r b o (by simpa using hb) e) p m l j g;refine⟨_,rfl,qd8 st' rfl rfl (by decide) ⟨.int (lo+i),H,y,⟨t,?_⟩,⟨rfl,rfl⟩,st',λb hb=>(hf b hb).1⟩⟩;rw[Int.mul_one]
 done:=by
  intro X d a f hc i pins s σ H E I hf st c;subst d a f;obtain⟨p,m,u,l,j,g⟩:=hf it (by simp);exact wpAny_pyNext_range_end (I.ok.hd hc) st (by have:n<=i:=c; omega) λh' x=>⟨rfl,I.turned (λb o hb e=>x b o hb e) p m l j g⟩
 self:=λ_ _ _ _ _ st h=>wpAny_pyIter_rangeiter st h
section
def qyu{lo:J}(I:Inv X c d H s)(k:-(2 ^ 62)<=lo)(j:lo<2 ^ 62)(i:-(2 ^ 62)<=a)(h:a<2 ^ 62)(q:R (Itr lo (a - lo).toNat) H):wpAny (model X.prog X.w) X.A (pyIter (.ref s.heap.objs.size)) (PIE X c d tg R) E { s with heap:=s.heap.push { cls:=.type "range",data:=.fields #[.int lo t,.int a u,.int 1 v] },toks:=f }:=by
 refine wpAny_pyIter_range (IsRange.new ..) (small_one k j i h) ?_;have g:Inv X c d H { s with heap:=s.heap.push { cls:=.type "range",data:=.fields #[.int lo t,.int a u,.int 1 v] },toks:=f }:=I.kept λb o e=>Qqz _ e
 refine⟨(s.heap.push { cls:=.type "range",data:=.fields #[.int lo t,.int a u,.int 1 v] }).objs.size,[(s.heap.push { cls:=.type "range",data:=.fields #[.int lo t,.int a u,.int 1 v] }).objs.size],_,_,H,rfl,
  g.kept λb o e=>Qqz _ e,qap _ lo (a - lo).toNat,?_,λb hb=>?_,q⟩
 ·have m:lo+((0:Y1):J)*1=lo:=by simp
  have l:(((a - lo).toNat:Y1):J) - ((0:Y1):J)=Builtin.Range.rangeSize lo a 1:=by rw[rangeSize_one]; split<;>omega
  rw[m,l];exact Qqf _ rfl
 ·have e:b=(s.heap.push { cls:=.type "range",data:=.fields #[.int lo t,.int a u,.int 1 v] }).objs.size:=by simpa using hb
  subst e;exact g.fpOk (Qqj _) (g.hok.fresh (Qqj _))
noncomputable def iRng1(ta:TA):TI:=λσ H R=>ta σ H λvs H1=>∃j:J,vs=[.int j]/\-(2 ^ 62)<=j/\j<2 ^ 62/\R (Itr 0 j.toNat) H1
noncomputable def iRng2(ta:TA):TI:=λσ H R=>ta σ H λvs H1=>∃i j:J,vs=[.int i,.int j]/\(-(2 ^ 62)<=i/\i<2 ^ 62/\-(2 ^ 62)<=j/\j<2 ^ 62)/\R (Itr i (j - i).toNat) H1
def qcu(k:Gl X "range")(i:X.mg "range" = B)(l:PA X [a] c)(hs:starEach [a] X.env=[(Y7,Qb a X.env)]:=by rfl):PI X tg (.Call (.Name "range" p) [a] [] pos) (iRng1 c):=by
 intro pins s σ H R I h;refine Call_ (qx3 I k i boot_range (PyProof.Rows.callWith_type1 (thn (l pos pins s σ H _ I h) λn o ⟨vs,H1,m,f,b⟩=>?_) hs rfl));obtain⟨j,e,b,g,q⟩:=b;subst e
 cases f with
 |cons r d=>
  cases d;obtain⟨t,rfl⟩:=r;exact call_range_1 (qyu m (by omega) (by omega) b g (by simpa using q))
def qct(u:Gl X "range")(o:X.mg "range" = B)(v:PA X [a,b] g)(hs:starEach [a,b] X.env=[(Y7,Qb a X.env),(Y7,Qb b X.env)]:=by rfl)(c:starEach [b] X.env=[(Y7,Qb b X.env)]:=by rfl):
  PI X tg (.Call (.Name "range" p) [a,b] [] pos) (iRng2 g):=by
 intro pins s σ H R I h;refine Call_ (qx3 I u o boot_range (PyProof.Rows.callWith_type1 (thn (v pos pins s σ H _ I h) λx z ⟨vs,H1,w,k,f⟩=>?_) (by rw[hs,c]) (by rw[c]; rfl)));obtain⟨i,j,e,⟨f,n,m,l⟩,q⟩:=f;subst e
 cases k with
 |cons r d=>
  cases d with
  |cons r' d=>
   cases d;obtain⟨t,rfl⟩:=r;obtain⟨y,rfl⟩:=r';exact call_range_2 (qyu w f n m l q)
noncomputable def tFor(wi:TI)(g:TG)(tb:TS):TS:=λD σ H=>wi σ H λJq H1=>∃W:Y1->Y1->St->Hp->Prop,(∃m,W 0 m σ H1)/\∀i m σ H,W i m σ H->
 (Jq.stop i H/\D.nx σ H)\/(Jq.go i H/\∃N:St->Hp->Prop,(∀σ' H',N σ' H'->∃m',m'<m/\W (i+1) m' σ' H')/\∀x H',Jq.yld i H x H'->g x σ H' λσ2 H2=>tb { D with nx:=N,ct:=N,bk:=D.nx } σ2 H2)
noncomputable def qvt(fp:L Y8)(h:Heap):L (Y8×Obj):=fp.filterMap λb=>(h.get? b).map λo=>(b,o)
def qqt(hb:b∈fp)(e:h.get? b=Y o):(b,o)∈qvt fp h:=Qz8.mpr ⟨b,hb,by rw[e]; rfl⟩
def qdq(a:p∈qvt fp h):p.1∈fp/\h.get? p.1=Y p.2:=by
 obtain⟨b,hb,e⟩:=Qz8.mp a
 cases q:h.get? b with
 |none=>rw[q]at e; cases e
 |some o=>
  rw[q]at e;have c:=Option.some.inj e;subst c;exact⟨hb,q⟩
def Inv.pinned(I:Inv X a c H s)(hf:∀b∈fp,FpOk X a H b)(h:∀b∈fp,∃o,s.heap.get? b=Y o/\∀v,o.data≠.cell v):Inv X (a++qvt fp s.heap) c H s:=
 I.pins_of λp g=>(Qql.mp g).elim (λz=>I.pin p (Qqu _ z)) λz=>by
  obtain⟨hb,e⟩:=qdq z;obtain⟨k,j,i,_⟩:=hf p.1 hb;obtain⟨o,f,d⟩:=h p.1 hb;rw[e]at f; cases f;exact⟨e,k,j,i,d⟩
def Inv.unpinned(I:Inv X (a++pl) b H s):Inv X a b H s:=I.pins_of λp c=>I.pin p (Qqu _ (Qzf _ c))
def qh1(E:PassesOwn (model X.prog X.w) X.A X.env X.xe)(hc:X.calm=Z)(hi:PI X tg l U)(hg:PG X tg g)(hb:PSs X body tb)(hs:∀x,foldedSetIterable l X.env x=pure x):PS X (.For tg l body [] pos) (tFor U g tb):=by
 intro pins s σ H D I h;refine wpAny_For (thn (hi pins s σ H _ I h) λv s1 h1=>thn h1 λa0 s2 h2=>?_) hs;obtain⟨it,fp,V,Jq,H2,e,I2,T,P,f2,W,⟨m0,w0⟩,z⟩:=h2;subst e;have k:∀{H':Hp},(∀b∈fp,H' b=B)->∀b∈fp,FpOk X pins H' b:=λhn b hb=>⟨hn b hb,(f2 b hb).2⟩
 refine codeAny_forLoop_any (λn s'=>∃i j H',Inv X pins j H' s'/\V i s'.heap/\(∀b∈fp,H' b=B)/\W i n j H') ?_ m0 ⟨0,σ,H2,I2,P,λb hb=>(f2 b hb).1,w0⟩;rintro n s3 ⟨i,c,G,I3,A,F,w3⟩;rcases z i n c G w3 with⟨stop,qn⟩|⟨go,N,hN,step⟩
 ·refine Za E (thn (T.done X rfl rfl rfl hc i pins s3 c G X.xe I3 (k F) A stop) λr s4 ⟨hr,I4⟩=>?_);subst hr;exact wpAny_execs_nil ⟨c,G,I4,qn⟩
 ·refine Za E (thn (T.item X rfl rfl rfl hc i pins s3 c G X.xe I3 (k F) A go) λr s4 ⟨u,hr,h4⟩=>?_);subst hr;refine Za E (thn h4 λ_ s5 ⟨x,H5,I5,r5,y5,y,R⟩=>?_);have S:=I5.pinned (k R) (T.obj _ _ y);refine Za E (thn (hg _ s5 c H5 x u _ S r5 (step x H5 y5)) λ_ s6 ⟨K,H6,I6,q6⟩=>?_);refine Za E (thn (hb _ s6 K H6 _ I6 q6) λf Q w=>?_);have p:∀{a:St}{t:Hp},Inv X (pins++qvt fp s5.heap) a t Q->N a t->∃m,m<n/\∃i j H',Inv X pins j H' Q/\V i Q.heap/\(∀b∈fp,H' b=B)/\W i m j H':=λ{a t} q C=>by
   obtain⟨m',hm,w7⟩:=hN a t C;refine⟨m',hm,i+1,a,t,q.unpinned,T.keep _ _ _ y λb hb o e=>(q.pin (b,o) (Qqu _ (Qqu _ (qqt hb e)))).1,λb hb=>?_,w7⟩;obtain⟨o,e,d⟩:=T.obj _ _ y b hb;exact(q.pin (b,o) (Qqu _ (Qqu _ (qqt hb e)))).2.1
  cases f with
  |next=>obtain⟨a,t,q,C⟩:=w; exact p q C
  |cont=>obtain⟨a,t,q,C⟩:=w; exact p q C
  |brk=>obtain⟨a,t,q,w⟩:=w; exact⟨a,t,q.unpinned,w⟩
  |ret v=>obtain⟨x7,a,t,q,r7,w⟩:=w; exact⟨x7,a,t,q.unpinned,r7,w⟩
end
abbrev R2:=V->V->Hp->VK->Prop
def OpR(X:Cx)(f:Y9->Y9->Sem Y9)(r:R2):Prop:=
 ∀(pins:L (Y8×Obj)) (s:Qz) (σ:St) (H:Hp) (x y:V) (v u:Y9) (Q:VK),Inv X pins σ H s->RelV x v->RelV y u->r x y H Q->
  wpAny (model X.prog X.w) X.A (f v u) (EP X pins σ Q) X.xe s
def UnR(X:Cx)(f:Y9->Sem Y9)(r:V->Hp->VK->Prop):Prop:=
 ∀(pins:L (Y8×Obj)) (s:Qz) (σ:St) (H:Hp) (x:V) (v:Y9) (Q:VK),Inv X pins σ H s->RelV x v->r x H Q->
  wpAny (model X.prog X.w) X.A (f v) (EP X pins σ Q) X.xe s
def qqh(X:Cx)(f:Y9)(r:L V->Hp->VK->Prop):Prop:=
 ∀(pins:L (Y8×Obj)) (s:Qz) (σ:St) (H:Hp) (xs:L V) (us:L Y9) (Q:VK),Inv X pins σ H s->Vals xs us->r xs H Q->
  wpAny (model X.prog X.w) X.A (call f us) (EP X pins σ Q) X.xe s
def TruR(X:Cx)(r:V->Hp->(Yc->Hp->Prop)->Prop):Prop:=
 ∀(pins:L (Y8×Obj)) (s:Qz) (σ:St) (H:Hp) (x:V) (v:Y9) (Q:Yc->Hp->Prop),Inv X pins σ H s->RelV x v->r x H Q->
  wpAny (model X.prog X.w) X.A (truthy v) (TP X pins σ Q) X.xe s
noncomputable def tOp(r:R2)(ta tb:TE):TE:=λσ H Q=>ta σ H λx H1=>tb σ H1 λy H2=>r x y H2 Q
noncomputable def tUn(r:V->Hp->VK->Prop)(ta:TE):TE:=λσ H Q=>ta σ H λx H1=>r x H1 Q
noncomputable def rI(C:J->J->Prop)(g:J->J->V):R2:=λx y H Q=>∃i j,x=.int i/\y=.int j/\C i j/\Q (g i j) H
noncomputable def rI0(g:J->J->V):R2:=λx y H Q=>∃i j,x=.int i/\y=.int j/\Q (g i j) H
def rU(g:J->V):V->Hp->VK->Prop:=λx H Q=>∃i,x=.int i/\Q (g i) H
section
def binT(p:PE X a ta)(hb:PE X b tb){R:V->V->Hp->Prop}(I:Inv X d e H s)(h:ta e H λx H1=>tb e H1 λy H2=>R x y H2){f:Y9->Y9->Sem Y9}(hf:∀v u j x y H2,Inv X d e H2 j->RelV x v->RelV y u->R x y H2->wpAny (model X.prog X.w) X.A (f v u) Q X.xe j):
  wpAny (model X.prog X.w) X.A (Qb a X.env) (λv i=>wpAny (model X.prog X.w) X.A (Qb b X.env) (λu g=>wpAny (model X.prog X.w) X.A (f v u) Q X.xe g) X.xe i) X.xe s:=by
 refine thn (p d s e H _ I h) λv k ⟨x,H1,r,m,o⟩=>?_;refine thn (hb d k e H1 _ r o) λu j ⟨y,H2,q,l,n⟩=>?_;exact hf v u j x y H2 q m l n
def pe_op(i:OpR X (Q3 d) r)(j:PE X a ta)(hb:PE X b tb):PE X (.BinOp a d b pos) (tOp r ta tb):=by
 intro pins s σ H Q I h;exact wpAny_BinOp (binT j hb I h λv u e x y H2 k g f q=>i pins e σ H2 x y v u Q k g f q)
def pe_un(i:UnR X (unaryOp d) r)(j:PE X a ta):PE X (.UnaryOp d a pos) (tUn r ta):=by
 intro pins s σ H Q I h;exact UnaryOp_ (thn (j pins s σ H _ I h) λv e ⟨x,H1,k,f,g⟩=>i pins e σ H1 x v Q k f g)
def opI{g:J->J->J}(d:∀(i j:J) (t u:Tok) (s:Qz) (Q:Y9->Qz->Prop) (E:Y9->Qz->Prop),C i j->Q (.int (g i j) s.toks) { s with toks:=s.toks+1 }->wpAny (model X.prog X.w) X.A (f (.int i t) (.int j u)) Q E s):
  OpR X f (rI C λi j=>.int (g i j)):=by
 intro pins s σ H x y v u Q I l k h;obtain⟨i,j,rfl,rfl,hc,q⟩:=h;obtain⟨t,rfl⟩:=l;obtain⟨e,rfl⟩:=k;exact d i j t e s _ _ hc ⟨.int (g i j),H,I.tok _,⟨_,rfl⟩,q⟩
def opI0{g:J->J->J}(d:∀(i j:J) (t u:Tok) (s:Qz) (Q:Y9->Qz->Prop) (E:Y9->Qz->Prop),Q (.int (g i j) s.toks) { s with toks:=s.toks+1 }->wpAny (model X.prog X.w) X.A (f (.int i t) (.int j u)) Q E s):
  OpR X f (rI0 λi j=>.int (g i j)):=by
 intro pins s σ H x y v u Q I l k h;obtain⟨i,j,rfl,rfl,q⟩:=h;obtain⟨t,rfl⟩:=l;obtain⟨e,rfl⟩:=k;exact d i j t e s _ _ ⟨.int (g i j),H,I.tok _,⟨_,rfl⟩,q⟩
def opB0{g:J->J->Yc}(d:∀(i j:J) (t u:Tok) (s:Qz) (Q:Y9->Qz->Prop) (E:Y9->Qz->Prop),Q (.bool (g i j)) s->wpAny (model X.prog X.w) X.A (f (.int i t) (.int j u)) Q E s):
  OpR X f (rI0 λi j=>.bl (g i j)):=by
 intro pins s σ H x y v u Q I l k h;obtain⟨i,j,rfl,rfl,q⟩:=h;obtain⟨t,rfl⟩:=l;obtain⟨e,rfl⟩:=k;exact d i j t e s _ _ ⟨.bl (g i j),H,I,rfl,q⟩
def CPow(i j:J):Prop:=0<=j/\j<=1000000/\i.natAbs<2 ^ 64
def CMul(i j:J):Prop:=(-(2 ^ 64)<i/\i<2 ^ 64)\/(-(2 ^ 64)<j/\j<2 ^ 64)
def CMul.ok(h:CMul i j):IntMulOk i j:=by
 rcases h with⟨h1,h2⟩|⟨h1,h2⟩
 ·exact .of_left (intBits_le_64 h1 h2)
 ·exact .of_right (intBits_le_64 h1 h2)
def op_add:OpR X (Q3 .Add) (rI0 λi j=>.int (i+j)):=opI0 λ_ _ _ _ _ _ _ q=>add_int q
def op_sub:OpR X (Q3 .Sub) (rI0 λi j=>.int (i - j)):=opI0 λ_ _ _ _ _ _ _ q=>sub_int q
def op_mul:OpR X (Q3 .Mult) (rI CMul λi j=>.int (i*j)):=opI λ_ _ _ _ _ _ _ hc q=>mul_int q hc.ok
def op_mod:OpR X (Q3 .Mod) (rI (λ_ j=>0<j) λi j=>.int (i % j)):=opI λi j _ _ _ _ _ hc q=>by
 have h1:=hc;exact mod_int' (by omega) (by rw[Int.fmod_eq_emod_of_nonneg i (by omega)]; exact q)
def op_pow:OpR X (Q3 .Pow) (rI CPow λi j=>.int (i ^ j.toNat)):=opI λ_ _ _ _ _ _ _ hc q=>pow_int_small hc.1 hc.2.1 hc.2.2 q
def unI{g:J->J}(d:∀(i:J) (t:Tok) (s:Qz) (Q:Y9->Qz->Prop) (E:Y9->Qz->Prop),Q (.int (g i) s.toks) { s with toks:=s.toks+1 }->wpAny (model X.prog X.w) X.A (f (.int i t)) Q E s):
  UnR X f (rU λi=>.int (g i)):=by
 intro pins s σ H x v Q I e h;obtain⟨i,rfl,q⟩:=h;obtain⟨t,rfl⟩:=e;exact d i t s _ _ ⟨.int (g i),H,I.tok _,⟨_,rfl⟩,q⟩
def un_neg:UnR X (unaryOp .USub) (rU λi=>.int (-i)):=unI λ_ _ _ _ _ q=>neg_int q
end
section
def qid(I:Inv X d f H s)(q:Q (.bl k) H)(e:k=g):EP X d f Q (.bool g) s:=by
 subst e;exact⟨.bl k,H,I,rfl,q⟩
def op_lt:OpR X (Qi .Lt) (rI0 λi j=>.bl (decide (i<j))):=opB0 λ_ _ _ _ _ _ _ q=>lt_int q
def op_le:OpR X (Qi .LtE) (rI0 λi j=>.bl (decide (i<=j))):=opB0 λ_ _ _ _ _ _ _ q=>le_int q
def op_gt:OpR X (Qi .Gt) (rI0 λi j=>.bl (decide (j<i))):=opB0 λ_ _ _ _ _ _ _ q=>gt_int q
def op_ge:OpR X (Qi .GtE) (rI0 λi j=>.bl (decide (j<=i))):=opB0 λ_ _ _ _ _ _ _ q=>ge_int q
def op_isN:OpR X (Qi .Is) (λx y H Q=>y=.non/\Q (.bl (decide (x=.non))) H):=by
 intro pins s σ H x y v u Q I d e h;obtain⟨rfl,q⟩:=h;cases e;refine is_none_gen (qid I q ?_)
 cases x<;>first
  |(cases d; rfl)
  |(obtain⟨t,rfl⟩:=d; rfl)
def qmb:OpR X (Qi .IsNot) (λx y H Q=>y=.non/\Q (.bl (!decide (x=.non))) H):=by
 intro pins s σ H x y v u Q I d e h;obtain⟨rfl,q⟩:=h;cases e;refine isnot_none_gen (qid I q ?_)
 cases x<;>first
  |(cases d; rfl)
  |(obtain⟨t,rfl⟩:=d; rfl)
def qmj(i:OpR X (Qi d) r)(k:PE X a ta)(hb:PE X b tb)(j:Zi d b=Y7):PE X (.Compare a [d] [b] pos) (tOp r ta tb):=by
 intro pins s σ H Q I h;exact wpAny_Compare1 (binT k hb I h λv u e x y H2 l g f q=>i pins e σ H2 x y v u Q l g f q) j
noncomputable def tTest(t:TE):TT:=λσ H Q=>t σ H λx H'=>∃k,x=.bl k/\Q k H'
def qlp(p:OpR X (Qi d) r)(t:PE X a ta)(hb:PE X b tb)(q:Zi d b=Y7):PT X (.Compare a [d] [b] pos) (tTest (tOp r ta tb)):=by
 intro pins s σ H Q I h
 refine wpAny_isTrue_Compare1 (thn (t pins s σ H _ I h) λv g ⟨x,H1,C,l,o⟩=>thn (hb pins g σ H1 _ C o) λu f ⟨y,H2,A,j,n⟩=>
  thn (p pins f σ H2 x y v u _ A l j n) λc E ⟨z,D,w,i,k,e,m⟩=>?_) q
 subst e;cases i;exact Qf ⟨D,w,m⟩
noncomputable def qho(r r':R2)(ta tb tc:TE):TE:=λσ H Q=>ta σ H λx H1=>tb σ H1 λy H2=>r x y H2 λz H3=>∃k,z=.bl k/\
 (if k=Z then tc σ H3 λw' H4=>r' y w' H4 Q else Q (.bl Y7) H3)
def qge(P:OpR X (Qi g) r)(i:OpR X (Qi f) l)(S:PE X a ta)(hb:PE X b tb)(hc:PE X c tc)(R:lastMarks [g,f] [b,c]=Y7):PE X (.Compare a [g,f] [b,c] pos) (qho r l ta tb tc):=by
 intro pins s σ H Q I h
 refine Compare_chain (thn (S pins s σ H _ I h) λv C ⟨x,H1,V,F,N⟩=>chain_link (thn (hb pins C σ H1 _ V N) λu A ⟨y,H2,U,j,K⟩=>
  thn (P pins A σ H2 x y v u _ U F j K) λd w ⟨z,o,n,E,k,e,m⟩=>?_)) R
 subst e;cases E;refine Qf ?_
 cases k with
 |false=>exact ite_ff ⟨.bl Y7,o,n,rfl,m⟩
 |true=>exact ite_tt (chain_last (thn (hc pins w σ o _ n m) λq t ⟨p,W,T,D,G⟩=>i pins t σ W y p u q Q T j D G))
def qgz(T:OpR X (Qi g) r)(i:OpR X (Qi f) l)(V:PE X a ta)(hb:PE X b tb)(hc:PE X c tc)(U:lastMarks [g,f] [b,c]=Y7):PT X (.Compare a [g,f] [b,c] pos) (tTest (qho r l ta tb tc)):=by
 intro pins s σ H Q I h
 refine isTrue_chain (thn (V pins s σ H _ I h) λv C ⟨x,H1,I1,G,R⟩=>test_link (thn (hb pins C σ H1 _ I1 R) λu A ⟨y,H2,I2,j,P⟩=>
  thn (T pins A σ H2 x y v u _ I2 G j P) λd w ⟨z,o,n,F,k,e,m⟩=>?_)) U
 subst e;cases F;refine Qf ?_
 cases k with
 |false=>
  obtain⟨k',e',S⟩:=m;cases e';exact ite_ff ⟨o,n,S⟩
 |true=>
  refine ite_tt (test_last (thn (hc pins w σ o _ n m) λq t ⟨p,H4,I4,E,N⟩=>thn (i pins t σ H4 y p u q _ I4 j E N) λd' s5 ⟨z2,H5,I5,D,k2,W,K⟩=>?_));subst W;cases D;exact Qf ⟨H5,I5,K⟩
def TruV(K:Qqq)(x:V)(H:Hp)(k:Yc):Prop:=
 match x with
 |.non=>k=Y7
 |.bl b=>k=b
 |.int i=>k=(i != 0)
 |.str y=>y.length<=sizeLine/\k=((y.length:J) != 0)
 |.byt y=>y.size<=sizeLine/\k=((y.size:J) != 0)
 |.ref p=>(∃xs,SqL K H p xs/\k = !xs.isEmpty)\/(∃xs,SqT K H p xs/\k = !xs.isEmpty)\/∃kvs,H p=Y (.dK kvs)/\k = !kvs.isEmpty
 |_=>False
def qbv{kvs:L (d×V)}{vs:L (d×Y9)}(r:KV kvs vs):(!vs.isEmpty) = !kvs.isEmpty:=by
 cases r<;>rfl
def qke(r:Vals xs d):(!d.toArray.isEmpty) = !xs.isEmpty:=by
 cases r<;>simp
def qaq:(sizeLine:Y1)<2 ^ 63:=by rw[Q2]; decide
def tru_ok:TruR X (λx H Q=>∃k,TruV X.K x H k/\Q k H):=by
 intro pins s σ H x v Q I g h;obtain⟨k,e,q⟩:=h;have u:=qaq;have hs:=Q2
 cases x with
 |non=>
  cases g;have d:=e;subst d;exact truthy_none ⟨H,I,q⟩
 |bl b=>
  cases g;have d:=e;subst d;exact Qf ⟨H,I,q⟩
 |int i=>
  obtain⟨t,rfl⟩:=g;have d:=e;subst d;exact PySem.P.truthy_int ⟨H,I,q⟩
 |str y=>
  obtain⟨t,rfl⟩:=g;obtain⟨o,d⟩:y.length<=sizeLine/\k=((y.length:J) != 0):=e;subst d;exact PySem.P.truthy_str (by omega) ⟨H,I.tok _,q⟩
 |byt y=>
  obtain⟨t,rfl⟩:=g;obtain⟨o,d⟩:y.size<=sizeLine/\k=((y.size:J) != 0):=e;subst d;exact PySem.W.truthy_bytes (by omega) ⟨H,I.tok _,q⟩
 |ref p=>
  cases g;have d:=e;rcases d with⟨xs,j,d⟩|⟨xs,j,d⟩|⟨kvs,j,d⟩
  ·subst d;obtain⟨l,r,pl,n⟩:=I.list j;have f:=r.length;exact wpAny_truthy_list pl.isList (by simp only[Qqc]; omega) ⟨H,I.tok _,by rw[qke r]; exact q⟩
  ·subst d;obtain⟨l,r,pl,n⟩:=I.tuple j;have f:=r.length;exact truthy_tuple pl (by simp only[Qqc]; omega) ⟨H,I.tok _,by rw[qke r]; exact q⟩
  ·subst d;obtain⟨n,hS,vs,r,m⟩:kvs.length<=sizeLine/\(p==Qg)=Y7/\∃vs,KV kvs vs/\s.heap.DictOf (mixKind X.prog X.w) p vs:=I.hok p _ j;have f:=Paired.length r;exact wpAny_truthy_dict hS m (by omega) ⟨H,I.tok _,by rw[qbv r]; exact q⟩
 |_=>exact(e).elim
def qf9(j:PE X a ta)(i:∀d,isTrue a X.env d=(do let v <- d; standAt a.pos; holding [v] (truthy v))):
  PT X a (λσ H Q=>ta σ H λx H'=>∃k,TruV X.K x H' k/\Q k H'):=by
 intro pins s σ H Q I h;exact isTrue_plain (thn (j pins s σ H _ I h) λv e ⟨x,H1,l,f,g⟩=>tru_ok pins e σ H1 x v Q l f g) (i _)
def vals1(r:Vals [x] us):∃u,us=[u]/\RelV x u:=by
 cases r with
 |cons e d=>cases d; exact⟨_,rfl,e⟩
def vals2(r:Vals [x,y] us):∃u w',us=[u,w']/\RelV x u/\RelV y w':=by
 cases r with
 |cons g f=>
  cases f with
  |cons e d=>cases d; exact⟨_,_,rfl,g,e⟩
def qep(hc:X.calm=Z):qqh X (.builtin "min") (λxs H Q=>∃i j,xs=[.int i,.int j]/\Q (.int (if j<i then j else i)) H):=by
 intro pins s σ H xs e Q I r h;obtain⟨i,j,rfl,q⟩:=h;obtain⟨u,d,rfl,⟨t,rfl⟩,⟨f,rfl⟩⟩:=vals2 r;refine min_two_ints (I.ok.hd hc) λh' tk k=>⟨_,H,I.kept k,?_,q⟩
 by_cases hj:j<i
 ·rw[Z8 hj,Z8 hj]; exact⟨_,rfl⟩
 ·rw[Z7 hj,Z7 hj]; exact⟨_,rfl⟩
end
structure ObjM (h:Heap) (x dx C:Y8) (mA:Y6->Y4 Y9):Prop where
 obj:h.get? x=Y (PySem.W.instObj C dx)
 ns:h.Ns1 dx mA
 ne:dx≠x
def qdd{h:Heap}(n:h.Ns1 f d):∃c,h.get? f=Y c/\∀name,PySem.W.lookIn name c=Y (d name):=by
 obtain⟨o,es,m,i,hd,k,_,j⟩:=n;refine⟨o,i,λname=>?_⟩;have e:=j name;unfold nsFind findBy at e;rw[<- Array.find?_toList]at e;unfold PySem.W.lookIn;rw[hd];dsimp only
 split
 ·rename_i y q;rw[q]at e;exact congrArg Y e
 ·rename_i q;rw[q]at e;have a:es.toList.any (·.refKey)=false:=by
   rw[Qjo];intro y g;obtain⟨z,t,b⟩:=k y (Array.mem_toList_iff.mp g);simp[DictEntry.refKey,b]
  have l:¬ es.toList.any (·.refKey)=true:=by rw[a]; exact Qq0
  rw[Z7 l];exact congrArg Y e
def ObjM.look(I:ObjM h x c C b):∃a,PySem.W.InstAt h x (PySem.W.instObj C c) C (Y a)/\∀name,PySem.W.lookIn name a=Y (b name):=
 let ⟨a,d,e⟩:=qdd I.ns
 ⟨a,⟨I.obj,rfl,rfl,d⟩,e⟩
section
variable {prog:Program}{w:Qk}{A:Qv}{E:Y9->Qz->Prop}{s:Qz}{K:Qqq}{x dx C f:Y8}{mA:Y6->Y4 Y9}{name:Y6}{v:Y9}
def qnk(X:K.In s.heap)(I:ObjM s.heap x dx C mA)(d:PySem.W.plainGet K C name=Z)(c:PySem.W.hasDictIn K C=Z)(e:PySem.W.findIn K (.ref C) name=Y B)(hv:mA name=Y v)(a:PySem.W.handedIn v=Z)(h:Q v { s with toks:=s.toks+1 }):
  wpAny (model prog w) A (getAttr (.ref x) name expr) Q E s:=by
 obtain⟨g,Jq,b⟩:=I.look;exact PySem.W.get_value X Jq (Qjh d).1 (PySem.W.findObj_own c e rfl (by rw[b,hv])) a h
def qg1(X:K.In s.heap)(I:ObjM s.heap x dx C mA)(a:PySem.W.plainGet K C name=Z)(hf:PySem.W.findIn K (.ref C) name=Y (Y (.ref f)))(c:PySem.W.isFn K (.ref f)=Z)(hv:mA name=B)(h:Q (.ref f,[.ref x]) s):
  wpAny (model prog w) A (Z2 (.ref x) name pl) Q E s:=by
 obtain⟨b,Jq,d⟩:=I.look;exact PySem.W.method_fn X Jq (Qjh a).1 (Qjh a).2 hf (beq_iff_eq.mp c) (by show(PySem.W.lookIn name b).map (·.isSome)=Y Y7; rw[d,hv]; rfl) h
def qld(X:K.In s.heap)(I:ObjM s.heap x dx C mA)(hs:PySem.W.findIn K (.ref C) "__setattr__" = Y (Y (.builtin "object.__setattr__")))(n:PySem.W.plainOver K C=Z)(m:PySem.W.takerIn K C name=Y B)(o:PySem.W.hasDictIn K C=Z)(l:PySem.Within mA ns)(hsz:ns.length<=sizeLine)(h:∀h',ObjM h' x dx C (λy=>if y=name then Y v else mA y)->Heap.SameBut dx s.heap h'->Q () { s with heap:=h',toks:=s.toks+2 }):
  wpAny (model prog w) A (setAttr (.ref x) name v) Q E s:=by
 obtain⟨t,Jq,u⟩:=I.look;refine PySem.W.set_plain X Jq hs (PySem.W.osa_open X Jq n m λb=>?_);obtain⟨z,hc,i⟩:=PySem.W.any_some o;have k:=I.obj;refine Qq (Qx (Qq (Qq (wpAny_loadPart k (Qq (PySem.W.Looks.here (PySem.W.looks_clsIn X hc) ?_))))));rw[i];refine Qx (Qq (Qx (Qq ?_)));refine wpAny_nsSet1 I.ns λh' d c=>?_;obtain⟨oD,p,q,e,g,j⟩:=d.count (PySem.Within.cons name v l);refine Qq (wpAny_lookBehind e (by rw[g]; exact pastItsLine_dict (Qz0 j (by rw[Qqg]; omega))) ?_);exact Qx (h _ ⟨(c.2 _ (Ne.symm I.ne)).trans I.obj,d,I.ne⟩ c)
def qgp(X:K.In s.heap)(b:PySem.W.makesIn K C=Z)(c:PySem.W.findIn K (.ref C) "__init__" = Y (Y (.ref f)))(hf:PySem.W.typeIn K (.ref f)=Y (.type "function"))(h:Ze (model prog w) (A.under (.builtin "type.__call__" ⟨.ref C::vs,a⟩)) (.call (.ref f) ⟨.ref (s.heap.objs.size+1)::vs,a⟩) (PySem.W.InitBack (s.heap.objs.size+1) R)
   { s with heap:=(s.heap.push PySem.W.emptyDict).push (PySem.W.instObj C s.heap.objs.size) }):
  Ze (model prog w) A (.call (.ref C) ⟨vs,a⟩) R s:=by
 obtain⟨e,g,d,t,os⟩:=s;exact PySem.W.make_core (PySem.W.makes_of X b) (PySem.W.looks_findIn X c) (λself=>PySem.W.bind_fn X self hf) (.inl rfl) h
end
noncomputable def putF(f:Y6)(v:V):L (Y6×V)->L (Y6×V)
 |[]=>[(f,v)]
 |(g,x)::r=>if g=f then(g,v)::r else(g,x)::putF f v r
theorem qjh(f g)(v):∀fs:L (Y6×V),(putF f v fs).lookup g=if g=f then Y v else fs.lookup g
 |[]=>by
  show List.lookup g [(f,v)]=_
  by_cases h:g=f
  ·have hb:=beq_iff_eq.mpr h;simp only[List.lookup,hb,Z8 h]
  ·have hb:=beq_eq_false_iff_ne.mpr h;simp only[List.lookup,hb,Z7 h]
 |(k,x)::r=>by
  have b:=qjh f g v r;rw[show putF f v ((k,x)::r)=(if k=f then(k,v)::r else(k,x)::putF f v r) from rfl]
  by_cases a:k=f
  ·rw[Z8 a]
   by_cases h:g=k
   ·have hb:=beq_iff_eq.mpr h;simp only[List.lookup,hb,Z8 (h.trans a)]
   ·have hb:=beq_eq_false_iff_ne.mpr h;simp only[List.lookup,hb,Z7 (λe:g=f=>h (e.trans a.symm))]
  ·rw[Z7 a]
   by_cases h:g=k
   ·have hb:=beq_iff_eq.mpr h;simp only[List.lookup,hb,Z7 (λe:g=f=>a (h.symm.trans e))]
   ·have hb:=beq_eq_false_iff_ne.mpr h;simp only[List.lookup,hb];exact b
theorem qjm(f)(v):∀fs:L (Y6×V),f∈(putF f v fs).map (·.1)/\∀g,g∈fs.map (·.1)->g∈(putF f v fs).map (·.1)
 |[]=>⟨by simp[putF],λg h=>by simp at h⟩
 |(k,x)::r=>by
  obtain⟨c,b⟩:=qjm f v r;rw[show putF f v ((k,x)::r)=(if k=f then(k,v)::r else(k,x)::putF f v r) from rfl]
  by_cases a:k=f
  ·rw[Z8 a];subst a;exact⟨by simp,λg h=>by simpa using h⟩
  ·rw[Z7 a];refine⟨?_,λg h=>?_⟩
   ·rw[Qqh];exact Qqs _ c
   ·rw[Qqh]at h ⊢;rcases Qqa.mp h with e|e
    ·exact Qqa.mpr (.inl e)
    ·exact Qqs _ (b g e)
theorem qji(f)(v):∀fs:L (Y6×V),(putF f v fs).length<=fs.length+1
 |[]=>by simp[putF]
 |(k,x)::r=>by
  have b:=qji f v r;rw[show putF f v ((k,x)::r)=(if k=f then(k,v)::r else(k,x)::putF f v r) from rfl]
  by_cases a:k=f
  ·rw[Z8 a,Qqg,Qqg]; omega
  ·rw[Z7 a,Qqg,Qqg]; omega
def RelO.some_of(r:RelO (Y v) o):∃u,o=Y u/\RelV v u:=by
 cases o with
 |none=>exact(r).elim
 |some u=>exact⟨u,rfl,r⟩
def RelO.none_of(r:RelO B o):o=none:=by
 cases o with
 |none=>rfl
 |some u=>exact(r).elim
def qd4(r:RelV v u):PySem.W.handedIn u=true:=by
 cases v with
 |non=>cases (r); rfl
 |bl b=>cases (r); rfl
 |int i=>obtain⟨t,e⟩:=(r); cases e; rfl
 |str x=>obtain⟨t,e⟩:=(r); cases e; rfl
 |byt b=>obtain⟨t,e⟩:=(r); cases e; rfl
 |flt b=>obtain⟨t,e⟩:=(r); cases e; rfl
 |ref a=>cases (r); rfl
 |ty n=>cases (r); rfl
section
def qqv(hok:HOk P w H h)(e:H a=Y (.ins C dx fs)):∃mA,ObjM h a dx C mA/\(∀f,RelO (fs.lookup f) (mA f))/\PySem.Within mA (fs.map (·.1))/\fs.length<=1000/\H dx=Y (.own a):=by
 obtain⟨d,z,ne,ob,mA,n,r,q⟩:=(hok a _ e)
 exact⟨mA,⟨ob,n,ne⟩,r,q,z,d⟩
end
structure Cls (K:Qqq) (C:Y8):Prop where
 pg:PySem.W.plainGet K C Str.empty=Z
 hd:PySem.W.hasDictIn K C=Z
 po:PySem.W.plainOver K C=Z
 sa:PySem.W.findIn K (.ref C) "__setattr__" = Y (Y (.builtin "object.__setattr__"))
def Cls.get{K:Qqq}(c:Cls K C)(f):PySem.W.plainGet K C f=true:=c.pg
def NoAttr(K:Qqq)(C:Y8)(f:Y6):Prop:=PySem.W.findIn K (.ref C) f=Y B
def NoAttr.taker{K:Qqq}(n:NoAttr K C f):PySem.W.takerIn K C f=Y none:=by
 unfold PySem.W.takerIn;rw[show PySem.W.findIn K (.ref C) f=Y B from n]
 rfl
structure Meth (K:Qqq) (C:Y8) (m:Y6) (f:Y8):Prop where
 at_:PySem.W.findIn K (.ref C) m=Y (Y (.ref f))
 fn:PySem.W.isFn K (.ref f)=Z
 kp:Qzr K (.ref f)=Z
section
def qby(I:Inv X pins σ H s)(e:H a=Y (.ins C dx fs))(c:Cls X.K C)(n:NoAttr X.K C f)(l:fs.lookup f=Y v)(h:∀u s',Inv X pins σ H s'->RelV v u->Q u s'):wpAny (model X.prog X.w) A (getAttr (.ref a) f b) Q E s:=by
 obtain⟨mA,i,r,_,_,_⟩:=qqv I.hok e;obtain⟨u,g,d⟩:=RelO.some_of (by rw[<- l]; exact r f);exact qnk I.kIn i (c.get f) c.hd n g (qd4 d) (h u _ (I.tok _) d)
def qxo(I:Inv X pins σ H s)(e:H a=Y (.ins C dx fs))(c:Cls X.K C)(k:Meth X.K C m g)(l:fs.lookup m=B)(h:Q (.ref g,[.ref a]) s):wpAny (model X.prog X.w) A (Z2 (.ref a) m pl) Q E s:=by
 obtain⟨mA,b,r,_,_,_⟩:=qqv I.hok e;have hn:=RelO.none_of (by rw[<- l]; exact r m);exact qg1 I.kIn b (c.get m) k.at_ k.fn hn h
def qa1(I:Inv X pins σ H s)(e:H a=Y (.ins C dx fs))(c:Cls X.K C)(n:NoAttr X.K C f)(D:fs.length<1000)(m:RelV y u)(h:∀s',Inv X pins σ (upd H a (.ins C dx (putF f y fs))) s'->Q () s'):wpAny (model X.prog X.w) A (setAttr (.ref a) f u) Q E s:=by
 obtain⟨mA,d,r,j,_,k⟩:=qqv I.hok e;have p:(fs.map (·.1)).length<=sizeLine:=by rw[Qqx,Q2]; omega
 refine qld I.kIn d c.sa c.po n.taker c.hd j p λh' i l=>h _ ?_;have hd:∃o,h'.get? dx=Y o:=let ⟨o,_,_,w,_⟩:=i.ns; ⟨o,w⟩;refine I.write (by rw[e]; exact True.intro) (.inr k) (λb q hb z=>(l.2 b hb).trans z) hd ?_;refine⟨by rw[qzq d.ne]; exact k,?_,d.ne,i.obj,_,i.ns,λg=>?_,λg t=>?_⟩
 ·have:=qji f y fs; omega
 ·rw[qjh]
  by_cases q:g=f
  ·rw[Z8 q,Z8 q]; exact m
  ·rw[Z7 q,Z7 q]; exact r g
 ·by_cases q:g=f
  ·rw[q]; exact(qjm f y fs).1
  ·refine(qjm f y fs).2 g (j g λz=>t ?_);show(if g=f then Y u else mA g)=B;rw[Z7 q]; exact z
def Inv.made(I:Inv X pins σ H s):Inv X pins σ (upd (upd H s.heap.objs.size (.own (s.heap.objs.size+1))) (s.heap.objs.size+1) (.ins C s.heap.objs.size []))
  { s with heap:=(s.heap.push PySem.W.emptyDict).push (PySem.W.instObj C s.heap.objs.size) }:=by
 have c:(s.heap.push PySem.W.emptyDict).get? s.heap.objs.size=Y PySem.W.emptyDict:=Qqf s.heap rfl;have i:((s.heap.push PySem.W.emptyDict).push (PySem.W.instObj C s.heap.objs.size)).get? (s.heap.objs.size+1)=Y (PySem.W.instObj C s.heap.objs.size):=by
  have:=Qqf (s.heap.push PySem.W.emptyDict) (o:=PySem.W.instObj C s.heap.objs.size) rfl;rwa [Qz9]at this
 have h:(s.heap.push PySem.W.emptyDict).Ns s.heap.objs.size (λ_=>B):=⟨PySem.W.emptyDict,#[],_,c,rfl,(λe g=>absurd g (by simp)),λ_=>rfl⟩
 have j:=I.laid (o:=.own (s.heap.objs.size+1)) (t':=s.toks) (λb u q=>Qqz _ q) (Qqj _) ⟨_,c⟩;refine j.laid (λb u q=>Qqz _ q) (Nat.le_of_eq (Qz9 _ _)) ?_;have ne:s.heap.objs.size≠s.heap.objs.size+1:=Qqr (Qzb _);refine⟨by rw[qzq ne,qzk],Qq8 _,ne,i,λ_=>B,(Heap.Ns1.of_empty h).at λo q=>Qqz _ q,λ_=>True.intro,λy d=>absurd rfl d⟩
def qnt(hb:Zk e f env (Qb e env)=Qb e env)(h:wpAny (model prog w) A (Qb e env) (λo b=>wpAny (model prog w) A (getAttr o f Z) Q E b) E s):wpAny (model prog w) A (Qb (.Attribute e f pos) env) Q E s:=
 Attribute_any_ h (by rw[arm_eval_Attribute,hb])
end
noncomputable def tFld(K:Qqq)(ta:TE)(f:Y6):TE:=λσ H Q=>ta σ H λx H1=>∃a C dx fs v,x=.ref a/\H1 a=Y (.ins C dx fs)/\Cls K C/\NoAttr K C f/\fs.lookup f=Y v/\Q v H1
noncomputable def sFld(K:Qqq)(ta tv:TE)(f:Y6):TS:=λD σ H=>tv σ H λy H1=>ta σ H1 λx H2=>∃a C dx fs,x=.ref a/\H2 a=Y (.ins C dx fs)/\Cls K C/\NoAttr K C f/\fs.length<1000/\
 D.nx σ (upd H2 a (.ins C dx (putF f y fs)))
section
def pe_fld(g:PE X e ta)(hb:Zk e f X.env (Qb e X.env)=Qb e X.env):PE X (.Attribute e f pos) (tFld X.K ta f):=by
 intro pins s σ H Q I h;refine qnt hb (thn (g pins s σ H _ I h) λu r ⟨x,H1,k,b,a,C,dx,fs,v,ex,i,c,n,l,q⟩=>?_);subst ex;obtain rfl:u=Value.ref a:=b;exact qby k i c n l λm p j d=>⟨v,H1,j,d,q⟩
def ps_fld(k:PE X o ta)(hv:PE X value tv)(hs:swapsWith value (Y (.Attribute o f pos')) pos.line X.env=pure Y7):PS X (.Assign [.Attribute o f pos'] value pos) (sFld X.K ta tv f):=by
 intro pins s σ H D I h;refine plainObj_wpAny_Assign_Attribute (thn (hv pins s σ H _ I h) λu b ⟨y,H1,t,d,q⟩=>thn (k pins b σ H1 _ t q) λj w ⟨x,H2,r,g,a,C,dx,fs,ex,m,c,n,l,i⟩=>?_) hs;subst ex;obtain rfl:j=Value.ref a:=g;exact qa1 r m c n l d λv p=>⟨σ,_,p,i⟩
def qml(y:PE X e p)(I:Inv X d j H s)(h:p j H λx H1=>∃a C dx fs g,x=.ref a/\H1 a=Y (.ins C dx fs)/\Cls X.K C/\Meth X.K C m g/\fs.lookup m=B/\
   ∀n,Inv X d j H1 n->wpAny (model X.prog X.w) X.A (callWith pos (.ref g) [.ref a] (backTo pos (starEach b X.env)) (backToKw pos (keywordEach [] X.env))) Q X.xe n)(w:Qb (.Call (.Attribute e m i) b [] pos) X.env=(do
   let r <- Qb e X.env
   standAt i.atName
   let (f,first) <- holding [r] (Z2 r m pl)
   callWith pos f first (backTo pos (starEach b X.env)) (backToKw pos (keywordEach [] X.env)))):
  wpAny (model X.prog X.w) X.A (Qb (.Call (.Attribute e m i) b [] pos) X.env) Q X.xe s:=by
 refine Qjk (thn (y d s j H _ I h) λu n ⟨x,H1,t,v,a,C,dx,fs,g,ex,z,c,k,l,q⟩=>?_) w;subst ex;obtain rfl:u=Value.ref a:=v;exact qxo t z c k l (q n t)
end
section
end
structure Room (k:Y1) (A:Qv):Prop where
 hd:A.handled=B
 dp:A.depth+3*k+5<recursionLimit
 un:A.units+16*k+200<cLine
def Room.mono(r:Room k A)(h:j<=k):Room j A:=⟨r.hd,by have:=r.dp; omega,by have:=r.un; omega⟩
theorem Room.deeper(r:Room (k+1) A)(env):Room k (A.deeper env):=
 ⟨r.hd,by have:=r.dp; show A.depth+1+3*k+5<_; omega,by have:=r.un; show A.units+3+16*k+200<_; omega⟩
def qbj{A:Qv}:(A.under (.builtin "type.__call__" ⟨.ref C::us,a⟩)).depth=A.depth+1:=by
 first|rfl|simp[Around.under,Code.weight,Code.isCreation,Code.isGuard,Code.isCaller,Code.frames,Code.isFrame,guardIds]
def qbx{A:Qv}:(A.under (.builtin "type.__call__" ⟨.ref C::us,a⟩)).units=A.units+1:=by
 first|rfl|simp[Around.under,Code.cUnits,Code.frames,Code.isFrame]
def Room.make(r:Room (k+1) A)(C)(us)(a):Room k (A.under (.builtin "type.__call__" ⟨.ref C::us,a⟩)):=
 ⟨r.hd,by have:=r.dp; rw[qbj]; omega,by have:=r.un; rw[qbx]; omega⟩
theorem Room.depth(r:Room k A):A.depth<recursionLimit:=by have:=r.dp; omega
theorem Room.units(r:Room k A):A.units+64<cLine:=by have:=r.un; omega
noncomputable def tNil:TA:=λ_ H Q=>Q [] H
noncomputable def qlx(ta:TE)(tr:TA):TA:=λσ H Q=>ta σ H λx H1=>tr σ H1 λxs H2=>Q (x::xs) H2
section
def pa_nil:PA X [] tNil:=λ_ _ _ _ H Q I h=>Calls.spliced_nil ⟨[],H,I,.nil,h⟩
def qqn(g:PE X e te)(hr:PA X es t)(hs:starEach (e::es) X.env=(Y7,Qb e X.env)::starEach es X.env:=by rfl):PA X (e::es) (qlx te t):=by
 intro pos pins s σ H Q I h;rw[hs];refine Calls.spliced_cons (thn (g pins s σ H _ I h) λu a ⟨x,H1,j,c,f⟩=>?_);exact thn (hr pos pins a σ H1 _ j f) λk l ⟨xs,H2,i,b,d⟩=>⟨x::xs,H2,i,.cons c b,d⟩
noncomputable def tTup(t:TA):TE:=λσ H Q=>t σ H λxs H1=>xs.length<=sizeLine/\∀p,H1 p=B->Q (.ref p) (upd H1 p (.tup xs))
noncomputable def tLst(t:TA):TE:=λσ H Q=>t σ H λxs H1=>xs.length<=sizeLine/\∀p,H1 p=B->Q (.ref p) (upd H1 p (.lst xs))
def qh3{d}(h:PA X es t):PE X (.Tuple es d pos) (tTup t):=by
 intro pins s σ H Q I g;refine wpAny_Tuple_spliced (thn (h pos pins s σ H _ I g) λf a ⟨xs,H1,c,r,z,q⟩=>⟨by rw[<- r.length]; exact z,?_⟩);have hf:=c.hok.fresh (Qqj _);refine⟨.ref a.heap.objs.size,upd H1 a.heap.objs.size (.tup xs),c.laid (λb u e=>Qqz _ e) (Qqj _) ?_,rfl,q _ hf⟩;exact⟨z,f,r,⟨_,Qqf _ rfl,rfl,_,rfl⟩⟩
def pe_lst(h:PA X es t):PE X (.List es pos) (tLst t):=by
 intro pins s σ H Q I f;refine wpAny_List_spliced (thn (h pos pins s σ H _ I f) λd a ⟨xs,H1,c,r,z,q⟩=>⟨by rw[<- r.length]; exact z,?_⟩);have hf:=c.hok.fresh (Qqj _);refine⟨.ref a.heap.objs.size,upd H1 a.heap.objs.size (.lst xs),c.laid (λb u e=>Qqz _ e) (Qqj _) ?_,rfl,q _ hf⟩;exact⟨z,d,0,r,Qqf _ rfl⟩
end
abbrev Sp:=L V->Hp->VK->XK->Prop
abbrev CXT:=L Env->Hp->Qz->XK->Y9->Qz->Prop
structure Env0 (P:Program) (w:Qk) (K:Qqq) (mg:Y6->Y4 Y9) (base:Heap) (A:Qv) (outer:L Env) (s:Qz) (H:Hp):Prop where
 frames:A.frames=Y outer
 mod:Mod K mg base
 bs:∀b o,base.get? b=Y o->s.heap.get? b=Y o/\H b=B
 bsz:base.objs.size<=s.heap.objs.size
 funs:s.heap.FunFrames base outer
 frf:∀b∈frs outer,H b=B
 hok:HOk P w H s.heap
 bare:Zn s.gens
def CE(outer:L Env)(P:Program)(w:Qk)(H:Hp)(s:Qz)(Q:VK)(u:Y9)(s':Qz):Prop:=
 ∃v H',s'.os=s.os/\Zn s'.gens/\Un (frs outer) [] H H' s.heap s'.heap/\HOk P w H' s'.heap/\RelV v u/\Q v H'
def CR(CX:CXT)(outer:L Env)(P:Program)(w:Qk)(H:Hp)(s:Qz)(Q:VK)(E:XK)(r:Result)(s':Qz):Prop:=
 match r with
 |.ok (.ret u)=>CE outer P w H s Q u s'
 |.ok _=>False
 |.error e=>CX outer H s E e s'
structure FnOk (P:Program) (w:Qk) (K:Qqq) (mg:Y6->Y4 Y9) (base:Heap) (CX:CXT) (k:Y1) (f:Y8) (fd:Qr) (ps:L Y6) (sp:Sp):Prop where
 len:∀vs H Q E,sp vs H Q E->vs.length=ps.length
 run:∀(A:Qv) (outer:L Env) (s:Qz) (H:Hp) (args:Args) (us:L Y9) (vs:L V) (Q:VK) (E:XK),Room k A->Env0 P w K mg base A outer s H->BindsTo s fd args (ps.zip us)->Vals vs us->sp vs H Q E->
  Ze (model P w) A (.call (.ref f) args) (CR CX outer P w H s Q E) s
def FnOk.imp{K:Qqq}(F:FnOk P w K mg base c k f b ps sp)(h:∀vs H Q E,sp' vs H Q E->sp vs H Q E):FnOk P w K mg base c k f b ps sp':=
 ⟨λvs H Q E q=>F.len vs H Q E (h _ _ _ _ q),λA outer s H a d vs Q E hr e hb hv hs=>F.run A outer s H a d vs Q E hr e hb hv (h _ _ _ _ hs)⟩
def Env0.make{K:Qqq}(e:Env0 P w K mg base A outer s H)(C)(us)(a):
  Env0 P w K mg base (A.under (.builtin "type.__call__" ⟨.ref C::us,a⟩)) outer s H:=⟨by first|exact e.frames|(simpa[Around.under,Code.envs,Code.isFrame,pushEnvs] using e.frames),e.mod,e.bs,e.bsz,e.funs,e.frf,e.hok,e.bare⟩
section
def Inv.env0(I:Inv X pins σ H s):Env0 X.prog X.w X.K X.mg X.base X.A X.stack s H:=
 ⟨I.ok.frames,I.ok.mod,I.bs,Qz0 I.ok.bsz I.sz,I.stack,I.stkFree,I.hok,I.bare⟩
def Inv.after(I:Inv X pins σ H s)(h:CE X.stack X.prog X.w H s Q u s'):EP X pins σ Q u s':=by
 obtain⟨v,H',os,bare,un,hok,r,q⟩:=h;obtain⟨c,g,d,t,a⟩:=s';obtain rfl:a=s.os:=os;exact⟨v,H',I.call un hok bare (λb z=>absurd z (by simp)),r,q⟩
end
noncomputable def tCall(sp:Sp)(dvs:L V)(E:XK)(t:TA):TE:=λσ H Q=>t σ H λvs H1=>sp (vs++dvs) H1 Q E
noncomputable def qlz(C:Y8)(m:Y6)(sp:Sp)(dvs:L V)(E:XK)(ta:TE)(t:TA):TE:=λσ H Q=>ta σ H λx H1=>∃a dx fs,x=.ref a/\H1 a=Y (.ins C dx fs)/\fs.lookup m=B/\
 t σ H1 λvs H2=>sp (x::(vs++dvs)) H2 Q E
noncomputable def tMake(C:Y8)(sp:Sp)(dvs:L V)(E:XK)(t:TA):TE:=λσ H Q=>t σ H λvs H1=>∀x dx,H1 x=B->H1 dx=B->dx≠x->
 sp (.ref x::(vs++dvs)) (upd (upd H1 dx (.own x)) x (.ins C dx [])) (λv H2=>v=.non/\Q (.ref x) H2) E
def Binds(K:Qqq)(fd:Qr)(ps:L Y6)(ds:L Y9):Prop:=
 ∀(s:Qz) (us:L Y9),K.In s.heap->(us++ds).length=ps.length->BindsTo s fd ⟨us,[]⟩ (ps.zip (us++ds))
def Binds.all{K:Qqq}(h:∀a:L Y9,a.length=ps.length->bindArgs c ⟨a,[]⟩=pure (ps.zip a)):Binds K c ps []:=λs a _ b=>by
 rw[Qq5]at b ⊢;exact .of_eq (h a b)
def qj4(CX:CXT)(X:Cx)(E:XK):Prop:=∀(pins:L (Y8×Obj)) (σ:St) (H:Hp) (s:Qz) (e:Y9) (s':Qz),Inv X pins σ H s->CX X.stack H s E e s'->X.xe e s'
section
def qcl(F:FnOk X.prog X.w X.K X.mg X.base CX k f fd ps sp)(hr:Room k X.A)(hb:Binds X.K fd ps ds)(hd:Vals dvs ds)(g:qj4 CX X E)(I:Inv X a c H s)(r:Vals vs us)(h:sp (vs++dvs) H Q E):wpAny (model X.prog X.w) X.A (call (.ref f) us) (EP X a c Q) X.xe s:=by
 have d:=r.append hd;have i:(us++ds).length=ps.length:=by rw[<- d.length]; exact F.len _ _ _ _ h
 refine wpAny_call (Zq (F.run X.A X.stack s H ⟨us,[]⟩ (us++ds) (vs++dvs) Q E hr I.env0 (hb s us I.kIn i) d h) λr s' b=>?_)
 cases r with
 |error e=>exact g a c H s e s' I b
 |ok j=>
  cases j with
  |ret u=>exact I.after b
  |next=>exact False.elim b
  |brk=>exact False.elim b
  |cont=>exact False.elim b
def qmk(F:FnOk X.prog X.w X.K X.mg X.base CX k f fd ps sp)(hr:Room k X.A)(j:Gl X x)(g:X.mg x=Y (.ref f))(i:Qzr X.K (.ref f)=Z)(hb:Binds X.K fd ps ds)(hd:Vals dvs ds)(d:qj4 CX X E)
  (n:PA X (e::es) t) (b:(x==("__debug__" : Y6))=false:=by decide) (l:starEach (e::es) X.env=(Y7,Qb e X.env)::starEach es X.env:=by rfl) (a:(backTo pos (starEach es X.env)).any (·.1)=false:=by rfl) :
  PE X (.Call (.Name x p) (e::es) [] pos) (tCall sp dvs E t):=by
 intro pins s σ H Q I h;refine Zd (qw7 I j g ?_ b);refine Qjl I.ok.mod.kin i (thn (n pos pins s σ H _ I h) λu v ⟨vs,H1,c,r,q⟩=>⟨c.kIn,?_⟩) l a;exact qcl F hr hb hd d c r q
def ql6(G:PE X o ta)(c:Cls X.K C)(i:Meth X.K C m f)(F:FnOk X.prog X.w X.K X.mg X.base CX k f fd ps sp)(hr:Room k X.A)(hb:Binds X.K fd ps ds)(hd:Vals dvs ds)(A:qj4 CX X E)(K:PA X (e::es) t)(b:starEach (e::es) X.env=(Y7,Qb e X.env)::starEach es X.env:=by rfl)(d:(backTo pos (starEach es X.env)).any (·.1)=false:=by rfl)(D:Qb (.Call (.Attribute o m apos) (e::es) [] pos) X.env=(do
   let g <- Qb o X.env
   standAt apos.atName
   let (f,first) <- holding [g] (Z2 g m pl)
   callWith pos f first (backTo pos (starEach (e::es) X.env)) (backToKw pos (keywordEach [] X.env))):=by rfl):
  PE X (.Call (.Attribute o m apos) (e::es) [] pos) (qlz C m sp dvs E ta t):=by
 intro pins s σ H Q I h;refine Qjk (thn (G pins s σ H _ I h) λu w ⟨x,H1,n,y,a,dx,fs,ex,N,l,q⟩=>?_) D;subst ex;obtain rfl:u=Value.ref a:=y;refine qxo n N c i l ?_;refine Qjl I.ok.mod.kin i.kp (thn (K pos pins w σ H1 _ n q) λv P ⟨vs,H2,j,r,z⟩=>⟨j.kIn,?_⟩) b d;exact qcl (vs:=.ref a::vs) F hr hb hd A j (.cons rfl r) z
def qgy(r:PE X o ta)(c:Cls X.K C)(g:Meth X.K C m f)(F:FnOk X.prog X.w X.K X.mg X.base CX k f fd ps sp)(hr:Room k X.A)(hb:Binds X.K fd ps ds)(hd:Vals dvs ds)(j:qj4 CX X E)(n:Qb (.Call (.Attribute o m apos) [] [] pos) X.env=(do
   let d <- Qb o X.env
   standAt apos.atName
   let (f,first) <- holding [d] (Z2 d m pl)
   callWith pos f first (backTo pos (starEach [] X.env)) (backToKw pos (keywordEach [] X.env))):=by rfl):
  PE X (.Call (.Attribute o m apos) [] [] pos) (qlz C m sp dvs E ta tNil):=by
 intro pins s σ H Q I h;refine Qjk (thn (r pins s σ H _ I h) λu w ⟨x,H1,b,i,a,dx,fs,ex,v,l,q⟩=>?_) n;subst ex;obtain rfl:u=Value.ref a:=i;refine qxo b v c g l ?_;exact PySem.W.callWith_K0 b.kIn g.kp (qcl (vs:=[.ref a]) F hr hb hd j b (.cons rfl .nil) q)
structure Mk (K:Qqq) (C f:Y8):Prop where
 makes:PySem.W.makesIn K C=Z
 init:PySem.W.findIn K (.ref C) "__init__" = Y (Y (.ref f))
 fn:PySem.W.isFn K (.ref f)=Z
 kp:Qzr K (.ref C)=Z
def qf5(M:Mk X.K C f)(F:FnOk X.prog X.w X.K X.mg X.base CX k f fd ps sp)(hr:Room (k+1) X.A)(hb:Binds X.K fd ps ds)(hd:Vals dvs ds)(n:qj4 CX X E)(I:Inv X a d H s)(r:Vals vs us)(h:∀x dx,H x=B->H dx=B->dx≠x->sp (.ref x::(vs++dvs)) (upd (upd H dx (.own x)) x (.ins C dx [])) (λv H2=>v=.non/\Q (.ref x) H2) E):
  wpAny (model X.prog X.w) X.A (call (.ref C) us) (EP X a d Q) X.xe s:=by
 have i:=h (s.heap.objs.size+1) s.heap.objs.size (I.hok.fresh (Qxv _)) (I.hok.fresh (Qqj _)) (Qqr (Qzb _));have c:=Inv.made (C:=C) I;have g:Vals (V.ref (s.heap.objs.size+1)::(vs++dvs)) (Value.ref (s.heap.objs.size+1)::(us++ds)):=.cons rfl (r.append hd);have q:(Value.ref (s.heap.objs.size+1)::us++ds).length=ps.length:=by
  have e:=g.length;rw[F.len _ _ _ _ i]at e;exact e.symm
 refine wpAny_call (qgp I.kIn M.makes M.init (beq_iff_eq.mp M.fn) (Zq (F.run _ X.stack _ _ ⟨Value.ref (s.heap.objs.size+1)::us,[]⟩ (Value.ref (s.heap.objs.size+1)::(us++ds)) _ _ E (hr.make C us [])
  (c.env0.make C us []) (hb _ (Value.ref (s.heap.objs.size+1)::us) c.kIn q) g i) λr s' b=>?_))
 cases r with
 |error e=>exact n a d _ _ e s' c b
 |ok w=>
  cases w with
  |ret u=>
   obtain⟨v,H',y,j,ev,l⟩:=c.after b;subst ev;exact⟨j,⟨V.ref (s.heap.objs.size+1),H',y,rfl,l⟩⟩
  |next=>exact False.elim b
  |brk=>exact False.elim b
  |cont=>exact False.elim b
def ql7(M:Mk X.K C f)(F:FnOk X.prog X.w X.K X.mg X.base CX k f fd ps sp)(hr:Room (k+1) X.A)(i:Gl X x)(g:X.mg x=Y (.ref C))(hb:Binds X.K fd ps ds)(hd:Vals dvs ds)(d:qj4 CX X E)
  (l:PA X (e::es) t) (b:(x==("__debug__" : Y6))=false:=by decide) (j:starEach (e::es) X.env=(Y7,Qb e X.env)::starEach es X.env:=by rfl) (a:(backTo pos (starEach es X.env)).any (·.1)=false:=by rfl) :
  PE X (.Call (.Name x p) (e::es) [] pos) (tMake C sp dvs E t):=by
 intro pins s σ H Q I h;refine Zd (qw7 I i g ?_ b);refine Qjl I.ok.mod.kin M.kp (thn (l pos pins s σ H _ I h) λn u ⟨vs,H1,c,r,q⟩=>⟨c.kIn,?_⟩) j a;exact qf5 M F hr hb hd d c r q
end
section
end
structure FnScope (N P:L Y6) (sc:Scope):Prop where
 kind:sc.kind=.function
 co:sc.isCoroutine=Y7
 gen:sc.isGenerator=Y7
 nd:N.Nodup
 pre:N.take P.length=P
 par:∀x∈P,sc.names.lookup x=Y .local\/sc.names.lookup x=Y .cell
 nofree:∀y∈sc.names,y.2≠.free
theorem qwh:∀{binds}{m},(∀v,(x,v) ∉ binds)->bindL a binds m x=m x
 |[],_,_=>rfl
 |(n,v)::r,m,h=>by
  unfold bindL;rw[qwh λw b=>h w (Qqs _ b)]
  split
  ·have:x≠n:=by rintro rfl; exact h v Qq2
   simp[this]
  ·rfl
theorem qwl:∀{binds}{m},(∀v,(x,v) ∉ binds)->bindC a binds m x=m x
 |[],_,_=>rfl
 |(n,v)::r,m,h=>by
  unfold bindC;rw[qwl λw b=>h w (Qqs _ b)]
  split
  ·rfl
  ·have:x≠n:=by rintro rfl; exact h v Qq2
   simp[this]
theorem qwi:∀{P:L Y6}{vs:L Y9}{i:Y1}{m:Y6->Y4 Y9},P.Nodup->P[i]?=Y x->vs[i]?=Y v->a x=Y .local->
  bindL a (P.zip vs) m x=Y v
 |[],_,_,_,_,h,_,_=>by simp at h
 |_::_,[],_,_,_,_,h,_=>by simp at h
 |p::P,w::vs,0,m,nd,h1,h2,b=>by
  simp at h1 h2; subst h1; subst h2;show bindL a ((p,w)::P.zip vs) m p=_;unfold bindL;rw[qwh λv hv=>(Qzj.mp nd).1 (Qj8 hv).1,Z8 b];simp
 |p::P,w::vs,i+1,m,nd,h1,h2,b=>by
  unfold bindL;exact qwi (Qzj.mp nd).2 (by simpa using h1) (by simpa using h2) b
theorem qwm:∀{P:L Y6}{vs:L Y9}{i:Y1}{m:Y6->Y4 Y9},P.Nodup->P[i]?=Y x->vs[i]?=Y v->a x≠Y .local->
  bindC a (P.zip vs) m x=Y v
 |[],_,_,_,_,h,_,_=>by simp at h
 |_::_,[],_,_,_,_,h,_=>by simp at h
 |p::P,w::vs,0,m,nd,h1,h2,b=>by
  simp at h1 h2; subst h1; subst h2;show bindC a ((p,w)::P.zip vs) m p=_;unfold bindC;rw[qwl λv hv=>(Qzj.mp nd).1 (Qj8 hv).1,Z7 b];simp
 |p::P,w::vs,i+1,m,nd,h1,h2,b=>by
  unfold bindC;exact qwm (Qzj.mp nd).2 (by simpa using h1) (by simpa using h2) b
noncomputable def start(N:L Y6)(vs:L V):St:=vs.map Y++List.replicate (N.length - vs.length) B
noncomputable def cxOf(CX:CXT)(P:Program)(w:Qk)(K:Qqq)(mg:Y6->Y4 Y9)(base:Heap)(N:L Y6)(qual:Y6)(scope:Scope)(f:Y8)(cd:Y9)(A:Qv)(outer:L Env)(s:Qz)(H:Hp)(E:XK):Cx where
 prog:=P
 w:=w
 K:=K
 mg:=mg
 base:=base
 A:=A.deeper (envOfC qual scope s.heap.objs.size f cd)
 N:=N
 s₀:=s
 H₀:=H
 env:=envOfC qual scope s.heap.objs.size f cd
 outer:=outer
 stack:=envOfC qual scope s.heap.objs.size f cd::outer
 ex:=[]
 calm:=Z
 fn:=λ_=>Z
 pn:=[]
 xe:=λe s'=>wpAny (model P w) (A.deeper (envOfC qual scope s.heap.objs.size f cd)) (leaving (envOfC qual scope s.heap.objs.size f cd) e) (λ_ s''=>CX outer H s E e s'') (λe' s''=>CX outer H s E e' s'') s'
def qam{sc:Scope}(h:sc.names.lookup x=Y .cell):∃c,(cellsFrom n sc.names []).lookup x=Y c:=by
 have q:=Qkq sc.names n [] (.inl h);exact Qz1.mp q
def qdu{K:Qqq}(S:FnScope N ps d)(hd:A.handled=B)(j:Env0 P w K mg base A outer s H)(T:vs.length=ps.length)(r:Vals vs us)(x:InCallC s s.heap.objs.size (bindL (envOfC g d s.heap.objs.size f C).kindOf (ps.zip us) λ_=>B) (cellsFrom (s.heap.objs.size+1) d.names []) (bindC (envOfC g d s.heap.objs.size f C).kindOf (ps.zip us) λ_=>B) s1):
  Inv (cxOf G P w K mg base N g d f C A outer s H E) [] (start N vs) H s1:=by
 have Q:ps.length<=N.length:=by have:=congrArg List.length S.pre; rw[Qzk]at this; omega
 obtain⟨h1,tk,rfl,F⟩:=x.done;have l:∀b:Y8,b ∉ (cxOf G P w K mg base N g d f C A outer s H E).ex:=λb z=>absurd (show b∈([]:L Y8) from z) (by simp)
 refine⟨⟨j.mod,S.kind,rfl,rfl,Qqj _,λy z c h1 h2=>?_,λy m=>?_,λy c _ h=>?_,λ_=>hd,Around.frames_deeper j.frames,.inr ⟨rfl,rfl⟩,λb z=>absurd z (l b),j.bs,j.bsz,λb _ _=>l b,λb z=>absurd z (l b),j.funs,j.frf⟩,
  rfl,j.bare,Un.kept F,⟨_,x.toInCall.ns,λi y v h1 h2 U=>?_⟩,λy c h=>⟨_,x.cell y c h⟩,j.hok.fresh (Qqj _),λy c h=>?_,λp t=>absurd (show p∈([]:L (Y8×Obj)) from t) (by simp),j.hok.kept F,?_⟩
 ·exact name_of_addr x.apart (PySem.mem_of_lookup h1) (PySem.mem_of_lookup h2)
 ·have m:=m;rcases m with m|m
  ·exact qam m
  ·exact absurd rfl (S.nofree _ (PySem.mem_of_lookup m))
 ·exact Qja (x.above y c (PySem.mem_of_lookup h))
 ·have hi:i<vs.length:=by
   unfold start at h2
   by_cases hi:i<vs.length
   ·exact hi
   ·rw[Qzp (by simpa using hi)]at h2;rw[Qj6]at h2
    split at h2<;>cases h2
  have R:vs[i]?=Y v:=by
   unfold start at h2;rw[Qq6 (by simpa using hi),Qqw]at h2
   cases e:vs[i]? with
   |none=>rw[e]at h2; cases h2
   |some a=>rw[e]at h2; cases h2; rfl
  obtain⟨u,D,I⟩:=r.get R;have t:ps[i]?=Y y:=by
   rw[<- S.pre,Qj1 (by omega)]; exact h1
  have o:ps.Nodup:=by rw[<- S.pre]; exact S.nd.sublist (Qx7 _ _)
  refine⟨u,I,?_⟩;rcases S.par y (Qqo t) with k|k
  ·exact .inl ⟨k,qwi o t D k⟩
  ·obtain⟨c,e⟩:=qam k;refine .inr ⟨.inl k,c,e,?_⟩;have q:=x.cell y c e;rw[qwm o t D (by show d.names.lookup y≠_; rw[k]; decide)]at q;exact q
 ·exact j.hok.fresh (Qja (x.above y c (PySem.mem_of_lookup h)))
 ·unfold start;show _=N.length;rw[Qqe,Qqx,Qjv];omega
def fn_of{K:Qqq}{kV:Y9}(lk:K.lookup f=Y ⟨oc,X,.func (PySem.W.fnOf name c g body a R kV doc G an d ct),D⟩)(F:PySem.W.codeIn K d c=Z)(S:FnScope N ps a)(len:∀vs H Q E,sp vs H Q E->vs.length=ps.length)(j:∀(A:Qv) (outer:L Env) (s:Qz) (H:Hp) (vs:L V) (Q:VK) (E:XK),Room k (A.deeper (envOfC c a s.heap.objs.size f d))->sp vs H Q E->
   ∃t,PSs (cxOf z P w K mg base N c a f d A outer s H E) body t/\t { nx:=λ_ H'=>Q .non H',rt:=Q } (start N vs) H):
  FnOk P w K mg base z (k+1) f (PySem.W.fnOf name c g body a R kV doc G an d ct) ps sp:=by
 refine⟨len,λA outer s H T W vs Q E hr p hb r l=>?_⟩;have hl:=len _ _ _ _ l;have U:=p.mod.kin.keeps λb o e=>(p.bs b o e).1;have lim:=p.mod.nolimit.keeps λb o e=>(p.bs b o e).1;have i:∀y∈ps.zip W,a.names.lookup y.1=Y .local\/(a.names.lookup y.1=Y .cell/\((cellsFrom (s.heap.objs.size+1) a.names []).lookup y.1).isSome=Z):=λ⟨n,v⟩ hy=>by
  rcases S.par n (Qj8 hy).1 with q|q
  ·exact .inl q
  ·exact .inr ⟨q,Qkq _ _ _ (.inl q)⟩
 refine codeAny_call_function hr.depth (U _ _ lk) rfl S.co S.gen rfl (PySem.W.codeRec_of U F) (hb _ _ _ _ ?_);refine wpAny_newFunctionEnv_cells S.kind i λenv he s1 x=>?_;subst he;refine⟨lim.keeps x.toInCall.keep,codeAny_func ?_⟩;obtain⟨t,ht,hq⟩:=j A outer s H vs Q E (hr.deeper _) l;have I:Inv (cxOf z P w K mg base N c a f d A outer s H E) [] (start N vs) H s1:=qdu S hr.hd p hl r x;refine Ql (ht [] s1 (start N vs) H _ I hq) (λfl s' hs=>?_) λe s' hs=>hs;have m:∀{h:St}{H':Hp}{v:V}{u:Y9},Inv (cxOf z P w K mg base N c a f d A outer s H E) [] h H' s'->RelV v u->Q v H'->CE outer P w H s Q u s':=
  λ{h H' v u} Jq C q=>⟨v,H',Jq.os,Jq.bare,Jq.base,Jq.hok,C,q⟩
 cases fl with
 |ret u=>
  obtain⟨v,h,H',Jq,C,q⟩:=hs;exact m Jq C q
 |next=>
  obtain⟨h,H',Jq,q⟩:=hs;exact m (v:=V.non) Jq rfl q
 |brk=>
  obtain⟨_,_,_,q⟩:=hs;exact False.elim q
 |cont=>
  obtain⟨_,_,_,q⟩:=hs;exact False.elim q
section
variable {X:Cx}{x:Y6}{p pos:Pos}{e:Qj}{es:L Qj}{t:TA}{id:String}{r:L V->Hp->VK->Prop}
noncomputable def tCB(r:L V->Hp->VK->Prop)(t:TA):TE:=λσ H Q=>t σ H λvs H1=>r vs H1 Q
def qqx(hc:qqh X (.builtin id) r)(k:Gl X x)(j:X.mg x=B)(hv:Qd x=Y (.builtin id))(m:PA X (e::es) t)(i:x ≠ "__name__":=by decide)(b:(x==("__debug__" : Y6))=false:=by decide)
  (l:starEach (e::es) X.env=(Y7,Qb e X.env)::starEach es X.env:=by rfl) (a:(backTo pos (starEach es X.env)).any (·.1)=false:=by rfl):PE X (.Call (.Name x p) (e::es) [] pos) (tCB r t):=by
 intro pins s σ H Q I h;refine Zd (qx3 I k j hv ?_ i b);exact PyProof.Rows.callWith_builtin1 (thn (m pos pins s σ H _ I h) λc d ⟨vs,H1,n,f,g⟩=>hc pins d σ H1 vs c Q n f g) l a
def qxv(hc:qqh X (.type T) r)(k:Gl X x)(j:X.mg x=B)(hv:Qd x=Y (.type T))(m:PA X (e::es) t)(i:x ≠ "__name__":=by decide)(b:(x==("__debug__" : Y6))=false:=by decide)
  (l:starEach (e::es) X.env=(Y7,Qb e X.env)::starEach es X.env:=by rfl) (a:(backTo pos (starEach es X.env)).any (·.1)=false:=by rfl):PE X (.Call (.Name x p) (e::es) [] pos) (tCB r t):=by
 intro pins s σ H Q I h;refine Zd (qx3 I k j hv ?_ i b);exact PyProof.Rows.callWith_type1 (thn (m pos pins s σ H _ I h) λc d ⟨vs,H1,n,f,g⟩=>hc pins d σ H1 vs c Q n f g) l a
end
end L2
namespace HT
open PySem PyProof.Rows
section
open PySem.SeqAt
open PySem.AutoSeq1 (wpAny_loadPart')
open PySem.MeetsSeq PySem.MeetsSeq2 PySem.MeetsSeq3
end
section
def cat_tup(o:IsTup s.heap t vs.toArray)(hb:IsTup s.heap b ws.toArray)(hv:vs≠[])(q:ws=[]->Q (.ref t) s)(p:ws≠[]->Q (.ref s.heap.objs.size) { s with heap:=s.heap.push { cls:=.type "tuple",data:=.seq (vs++ws).toArray } })(hsz:vs.length+ws.length<=sizeLine):wpAny (model prog w) A (Q3 .Add (.ref t) (.ref b)) Q E s:=by
 obtain⟨⟨cls,l,data,sl⟩,i,hc,n,hd⟩:=id o;obtain⟨⟨m,g,j,c⟩,a,f,k,d⟩:=id hb;simp only at hc hd f d;subst hc hd f d;have e:vs.toArray++ws.toArray=(vs++ws).toArray:=by simp
 by_cases h:ws=[]
 ·exact concat_meets ⟨_,i,rfl⟩ ⟨_,a,rfl⟩ noFill_tuple_add seq_tuple_add PySem.F.slot_tuple_add PySem.F.entry_tuple_add (PySem.F.args_tuple_add_2 _ _)
   (tuple_addW1 t b vs.toArray ws.toArray n k l g sl c (by simpa using hv) (by simp[h])) ⟨i,a,q h⟩
 ·refine concat_meets ⟨_,i,rfl⟩ ⟨_,a,rfl⟩ noFill_tuple_add seq_tuple_add PySem.F.slot_tuple_add PySem.F.entry_tuple_add (PySem.F.args_tuple_add_2 _ _)
   (tuple_addW2 t b vs.toArray ws.toArray n k l g sl c (by simpa using hv) (by simpa using h) (by rw[Qqc,Qqc]; exact hsz)) ⟨i,a,?_⟩
  rw[e];exact p h
noncomputable def sIx(n d:Y1):Y4 J->Y1
 |none=>d
 |some v=>if v<0 then(v+(n:J)).toNat else min v.toNat n
def sIx_le(n d)(hd:d<=n)(o):sIx n d o<=n:=by
 cases o with
 |none=>exact hd
 |some v=>
  show(if v<0 then(v+(n:J)).toNat else min v.toNat n)<=n
  by_cases hv:v<0
  ·rw[Z8 hv]; omega
  ·rw[Z7 hv]; exact Nat.min_le_right _ _
def qeh(v)(n d:Y1):(if v<0 then max (v+(n:J)) 0 else min v (n:J))=((sIx n d (Y v):Y1):J):=by
 show(if v<0 then max (v+(n:J)) 0 else min v (n:J))=(((if v<0 then(v+(n:J)).toNat else min v.toNat n):Y1):J)
 by_cases hv:v<0
 ·simp only[Z8 hv]; omega
 ·simp only[Z7 hv]; omega
def qbo(lo a)(n:Y1):Builtin.Slice.sliceAdjust lo a 1 (n:J)=(((sIx n 0 lo:Y1):J),((sIx n n a:Y1):J)):=by
 have h1:¬ ((1:J)<0):=by omega
 unfold Builtin.Slice.sliceAdjust;simp only[h1,if_false];refine Prod.ext ?_ ?_
 ·cases lo with
  |none=>rfl
  |some v=>exact qeh v n 0
 ·cases a with
  |none=>rfl
  |some v=>exact qeh v n n
def qa6(i j:Y1):Builtin.Slice.slicePlaces (i:J) (j:J) 1=j - i:=by
 unfold Builtin.Slice.slicePlaces;have h1:(1:J) > 0:=by omega
 simp only[h1,if_true,Int.ediv_one]
 split<;>omega
def qky(p:IsPart v o)(h:Q o s):wpAny (model prog w) A (Builtin.Slice.slicePartIndex v) Q E s:=by
 cases p with
 |none=>exact slicePart_none h
 |int i t=>exact slicePart_int h
def sliceApplied_gen{lo:Y4 J}{Q:J×J×Y1->Qz->Prop}(hs:s.heap.IsSliceOf sl vl d .none)(pl:IsPart vl lo)(e:IsPart d b)(h:Q (((sIx n 0 lo:Y1):J),1,sIx n n b - sIx n 0 lo) s):wpAny (model prog w) A (Builtin.Slice.sliceApplied (.ref sl) (pure (n:J))) Q E s:=by
 obtain⟨os,a,f,c⟩:=id hs;unfold Builtin.Slice.sliceApplied Builtin.Slice.sliceFields;refine Qq (Qq (Qw a c rfl (Qq (Qw a c rfl (Qq (Qw a c rfl (Qx ?_)))))));refine Qq (slicePart_none ?_);rw[Z7 (by decide)];refine Qq (qky pl (Qq (qky e (Qq (Qx ?_)))));show wpAny _ _ (match Builtin.Slice.sliceAdjust lo b 1 (n:J) with|(lo,b)=>pure (lo,(1:J),Builtin.Slice.slicePlaces lo b 1)) _ _ s;rw[qbo lo b n];show wpAny _ _ (pure (((sIx n 0 lo:Y1):J),(1:J),Builtin.Slice.slicePlaces ((sIx n 0 lo:Y1):J) ((sIx n n b:Y1):J) 1)) _ _ s;rw[qa6];exact Qx h
def qgv(xs:Array Y9)(i k:Y1):((List.range k).filterMap λ(m:Y1)=>xs[((i:J)+(m:J)*1).toNat]?).toArray=((xs.toList.drop i).take k).toArray:=by
 have e:(λ(m:Y1)=>xs[((i:J)+(m:J)*1).toNat]?)=λm=>xs[i+m]?:=by
  funext m
  have:((i:J)+(m:J)*1).toNat=i+m:=by omega
  rw[this]
 rw[e];have:=pick_run xs i k;rw[Qxf]at this;have a:((λx=>xs[x]?)∘λx=>i+x)=λm=>xs[i+m]?:=rfl;rw[a]at this;rw[this]
def getItem_tuple_cut{lo:Y4 J}(d:IsTup s.heap t a)(hs:s.heap.IsSliceOf sl vl j .none)(pl:IsPart vl lo)(k:IsPart j c)(l:¬ (sIx a.size 0 lo=0/\sIx a.size a.size c=a.size))(h:Q (.ref s.heap.objs.size) { s with heap:=s.heap.push { cls:=.type "tuple",data:=.seq ((a.toList.drop (sIx a.size 0 lo)).take (sIx a.size a.size c - sIx a.size 0 lo)).toArray } })(hsz:a.size<=sizeLine):wpAny (model prog w) A (Zv (.ref t) (.ref sl)) Q E s:=by
 have b:sizeOk (.seq ((a.toList.drop (sIx a.size 0 lo)).take (sIx a.size a.size c - sIx a.size 0 lo)).toArray):=by
  show((a.toList.drop (sIx a.size 0 lo)).take (sIx a.size a.size c - sIx a.size 0 lo)).toArray.size<=sizeLine;rw[Qqc,Qzk,Qjx,Qzd];omega
 have hj:sIx a.size a.size c<=a.size:=sIx_le _ _ (Qqj _) c;obtain⟨os,e,g,n⟩:=id hs;have i:s.TypeIs (.ref sl) "slice":=⟨os,e,g⟩
 unfold Zv
 try with_reducible refine Q4 ?_
 first|refine Qq (Qx ?_)|skip
 refine Qq (wpAny_sequenceKey d.typeIs (by decide) ?_)
 refine Qq (Qc d.typeIs PyProof.Rows.slot_tuple_getitem
  (Qe PyProof.Rows.slot_tuple_getitem d.typeIs entry_tuple_getitem ?_ (args_tuple_getitem _ _)))
 show wpAny _ _ (Builtin.Tuple.tupleItemsOf (.ref t) >>= _) _ _ s;refine Qq (tupleItemsOf_ d ?_);refine Qq (Zp i ?_);rw[Z8 (by decide)];refine Qq (sliceApplied_gen hs pl k ?_);have f:¬ ((((sIx a.size 0 lo:Y1):J)==0&&(1:J)==1&&(sIx a.size a.size c - sIx a.size 0 lo)==a.size)=Z):=by
  intro q;rw[Qqn,Qqn]at q;have p:=eq_of_beq q.1.1;have o:=eq_of_beq q.2;exact l ⟨by omega,by omega⟩
 show wpAny _ _ (if (((sIx a.size 0 lo:Y1):J)==0&&(1:J)==1&&(sIx a.size a.size c - sIx a.size 0 lo)==a.size)=Z then _ else _) _ _ s;rw[Z7 f,qgv]
 first
  |exact Qq (Qm (Qx ⟨_,rfl,Qx h⟩) b)
  |exact Qq (Qm (Qq (Qx (Qx ⟨_,rfl,Qx h⟩))) b)
  |exact Qq (Qq (Qm (Qx (Qx ⟨_,rfl,Qx h⟩)) b))
  |exact Qq (Qq (Qm (Qx ⟨_,rfl,Qx h⟩) b))
end
end HT
namespace L2
open PySem PySem.Spec PyProof.Rows
abbrev TO:=St->Hp->(Y4 J->Hp->Prop)->Prop
def PO(X:Cx)(e:Y4 Qj)(t:TO):Prop:=
 ∀(pins:L (Y8×Obj)) (s:Qz) (σ:St) (H:Hp) (Q:Y4 J->Hp->Prop),Inv X pins σ H s->t σ H Q->
  wpAny (model X.prog X.w) X.A (evalPart e X.env) (λu s'=>∃o H',Inv X pins σ H' s'/\IsPart u o/\Q o H') X.xe s
noncomputable def qi9:TO:=λ_ H Q=>Q B H
noncomputable def tPart(t:TE):TO:=λσ H Q=>t σ H λx H1=>∃i,x=.int i/\Q (Y i) H1
def intsAre_of:∀{us},Vals (ns.map V.int) us->Z0 us ns:=by
 induction ns with
 |nil=>intro us r; rw[Qxy]at r; cases r; exact .nil
 |cons n ns c=>
  intro us r;rw[Qqh]at r
  cases r with
  |cons b a=>
   obtain⟨t,e⟩:=b;subst e;exact .cons n t (c a)
section
variable {X:Cx}{e:Qj}{te:TE}{lo hi:Y4 Qj}{tl th:TO}{pos p2:Pos}
def ql0:PO X B qi9:=by
 intro pins s σ H Q I h;rw[evalPart_none];exact Qx ⟨B,H,I,.none,h⟩
def qlu(h:PE X e te):PO X (Y e) (tPart te):=by
 intro pins s σ H Q I c;rw[evalPart_some];refine thn (h pins s σ H _ I c) λu f ⟨x,H1,d,a,b⟩=>?_;obtain⟨i,rfl,q⟩:=b;obtain⟨t,rfl⟩:=a;exact⟨Y i,H1,d,.int i t,q⟩
def SlR(X:Cx)(r:V->Y4 J->Y4 J->Hp->VK->Prop):Prop:=
 ∀(pins:L (Y8×Obj)) (s:Qz) (σ:St) (H:Hp) (x:V) (v vl vu:Y9) (lo hi:Y4 J) (sl:Y8) (Q:VK),Inv X pins σ H s->RelV x v->s.heap.IsSliceOf sl vl vu .none->IsPart vl lo->IsPart vu hi->r x lo hi H Q->
  ∃T id,typeLookup (.type T) "__getitem__" = pure (Y (.builtin id))/\s.TypeIs v T/\wpAny (model X.prog X.w) X.A (Zv v (.ref sl)) (EP X pins σ Q) X.xe s
noncomputable def tSl(r:V->Y4 J->Y4 J->Hp->VK->Prop)(te:TE)(tl th:TO):TE:=λσ H Q=>te σ H λx H1=>tl σ H1 λl H2=>th σ H2 λu H3=>r x l u H3 Q
def qy2(hr:SlR X r)(y:PE X e te)(t:PO X lo tl)(o:PO X hi th):PE X (.Subscript e (.Slice lo hi B p2) pos) (tSl r te tl th):=by
 intro pins s σ H Q I h;refine Subscript_ (thn (y pins s σ H _ I h) λv g ⟨x,H1,E,i,m⟩=>?_);refine wpAny_Slice (thn (t pins g σ H1 _ E m) λvl f ⟨l,H2,D,pl,k⟩=>thn (o pins f σ H2 _ D k) λc a ⟨u,d,C,n,j⟩=>?_);rw[evalPart_none];refine Qx ?_;have A:Inv X pins σ d { a with heap:=a.heap.push { cls:=.type "slice",data:=.fields #[vl,c,.none] } }:=C.kept λb ob q=>Qqz _ q;obtain⟨T,id,z,p,w⟩:=hr pins { a with heap:=a.heap.push { cls:=.type "slice",data:=.fields #[vl,c,.none] } } σ d x v vl c l u a.heap.objs.size Q A i (Heap.IsSliceOf.new ..) pl n j;exact tail_any p z w (by with_unfolding_all rfl)
noncomputable def cutV(xs:L V)(lo hi:Y4 J):L V:=(xs.drop (HT.sIx xs.length 0 lo)).take (HT.sIx xs.length xs.length hi - HT.sIx xs.length 0 lo)
def qj1(xs)(lo a):(cutV xs lo a).length<=xs.length:=by
 unfold cutV;rw[Qzk,Qjx];omega
def rSlT(K:Qqq):V->Y4 J->Y4 J->Hp->VK->Prop:=λx lo hi H Q=>∃a xs,x=.ref a/\SqT K H a xs/\
 ¬ (HT.sIx xs.length 0 lo=0/\HT.sIx xs.length xs.length hi=xs.length)/\∀p,H p=B->Q (.ref p) (upd H p (.tup (cutV xs lo hi)))
def qht:SlR X (rSlT X.K):=by
 intro pins s σ H x v vl m lo hi sl Q I i hs pl j h;obtain⟨a,xs,rfl,k,l,q⟩:=h;cases i;obtain⟨d,r,g,f⟩:=I.tuple k;have c:d.toArray.size=xs.length:=by rw[Qqc]; exact r.length.symm
 refine⟨"tuple",_,PyProof.Rows.slot_tuple_getitem.lookup,g.typeIs,?_⟩;refine HT.getItem_tuple_cut g hs pl j (by rw[c]; exact l) ?_ (by rw[c]; exact f);rw[c];refine⟨.ref s.heap.objs.size,_,I.laid (λb ob q=>Qqz _ q) (Qqj _) ?_,rfl,q _ (I.hok.fresh (Qqj _))⟩;exact⟨Qz0 (qj1 xs lo hi) f,_,(r.drop (HT.sIx xs.length 0 lo)).take (HT.sIx xs.length xs.length hi - HT.sIx xs.length 0 lo),IsTup.new _ _⟩
noncomputable def rCatT(K:Qqq):R2:=λx y H Q=>∃a b xs ys,x=.ref a/\y=.ref b/\SqT K H a xs/\SqT K H b ys/\xs≠[]/\xs.length+ys.length<=sizeLine/\
 (ys=[]->Q (.ref a) H)/\(ys≠[]->∀p,H p=B->Q (.ref p) (upd H p (.tup (xs++ys))))
def Vals.nil_iff(r:Vals xs us):us=[]↔xs=[]:=by
 cases r with
 |nil=>simp
 |cons _ _=>simp
def qmc:OpR X (Q3 .Add) (rCatT X.K):=by
 intro pins s σ H x y v u Q I j i h;obtain⟨a,b,xs,ys,rfl,rfl,p,hb,n,g,l,k⟩:=h;cases j;cases i;obtain⟨m,d,p1,_⟩:=I.tuple p;obtain⟨f,c,p2,_⟩:=I.tuple hb;refine HT.cat_tup p1 p2 (λz=>n (d.nil_iff.mp z)) (λz=>⟨.ref a,H,I,rfl,l (c.nil_iff.mp z)⟩) (λz=>?_) (by rw[<- d.length,<- c.length]; exact g);refine⟨.ref s.heap.objs.size,_,I.laid (λb ob q=>Qqz _ q) (Qqj _) ?_,rfl,k (λw=>z (c.nil_iff.mpr w)) _ (I.hok.fresh (Qqj _))⟩;exact⟨by rw[Qqe]; exact g,_,d.append c,IsTup.new _ _⟩
end
noncomputable def ixN(n:Y1)(i:J):Y4 Nat:=if 0<=i then(if i<n then Y i.toNat else B) else if -(n:J)<=i then Y (i+n).toNat else B
noncomputable def atI{α:Type}(xs:L α)(i:J):Y4 α:=(ixN xs.length i).bind λj=>xs[j]?
def qm4(h:ixN n i=Y j):seqIndex? i n=Y j/\j<n/\-(n:J)<=i/\i<n:=by
 unfold ixN at h
 by_cases a:0<=i
 ·rw[Z8 a]at h
  by_cases h1:i<n
  ·rw[Z8 h1]at h;have e:=Option.some.inj h;exact⟨by rw[seqIndex_of a h1,e],by omega,by omega,h1⟩
  ·rw[Z7 h1]at h; cases h
 ·rw[Z7 a]at h
  by_cases h1:-(n:J)<=i
  ·rw[Z8 h1]at h;have e:=Option.some.inj h;exact⟨by rw[seqIndex_neg (by omega) h1,e],by omega,h1,by omega⟩
  ·rw[Z7 h1]at h; cases h
def qe9(h:atI xs i=Y v):∃j,seqIndex? i xs.length=Y j/\xs[j]?=Y v/\j<xs.length/\-(xs.length:J)<=i/\i<xs.length:=by
 unfold atI at h
 cases e:ixN xs.length i with
 |none=>rw[e]at h; cases h
 |some j=>
  rw[e]at h;obtain⟨h1,h2,b,a⟩:=qm4 e;exact⟨j,h1,h,h2,b,a⟩
def qn1(b:Qj):Prop:=∀o i,subscripted b Y7 o i=operate [o,i] (Zv o i)
def IxR(X:Cx)(r:R2):Prop:=
 ∀(value slice:Qj) (pins:L (Y8×Obj)) (s:Qz) (σ:St) (H:Hp) (x y:V) (v u:Y9) (Q:VK),Inv X pins σ H s->RelV x v->RelV y u->r x y H Q->
  subscripted slice Y7 v u=operate [v,u] (Zv v u)->wpAny (model X.prog X.w) X.A (subscriptTail value slice v u) (EP X pins σ Q) X.xe s
def MtR(X:Cx)(id:String)(r:V->L V->Hp->VK->Prop):Prop:=
 ∀(pins:L (Y8×Obj)) (s:Qz) (σ:St) (H:Hp) (x:V) (xs:L V) (v:Y9) (us:L Y9) (Q:VK),Inv X pins σ H s->RelV x v->Vals xs us->r x xs H Q->
  wpAny (model X.prog X.w) X.A (call (.builtin id) (v::us)) (EP X pins σ Q) X.xe s
section
variable {X:Cx}
def pe_ix(hr:IxR X r)(f:PE X a ta)(hb:PE X b tb)(hs:qn1 b):PE X (.Subscript a b pos) (tOp r ta tb):=by
 intro pins s σ H Q I h;exact Subscript_ (binT f hb I h λv u c x y H2 g e d q=>hr a b pins c σ H2 x y v u Q g e d q (hs _ _))
noncomputable def rIxL(K:Qqq):R2:=λx y H Q=>∃p xs i v,x=.ref p/\y=.int i/\SqL K H p xs/\atI xs i=Y v/\Q v H
noncomputable def rIxT(K:Qqq):R2:=λx y H Q=>∃p xs i v,x=.ref p/\y=.int i/\SqT K H p xs/\atI xs i=Y v/\Q v H
def qm3:IxR X (rIxL X.K):=by
 intro value d pins s σ H x y v u Q I m l h hs;obtain⟨p,xs,i,z,rfl,rfl,n,A,q⟩:=h;cases m;obtain⟨t,rfl⟩:=l;obtain⟨f,r,pl,E⟩:=I.list n;obtain⟨j,h1,h2,F,D,C⟩:=qe9 A;obtain⟨w,k,e⟩:=r.get h2;have o:=r.length;have hn:=qaq;have c:EP X pins σ Q w s:=⟨z,H,I,e,q⟩
 by_cases g:0<=i
 ·have hj:i.toNat=j:=by
   rw[seqIndex_of g C]at h1;exact Option.some.inj h1
  exact item_listR pl.isList g (by omega) (by rw[hj]; simpa using k) c hs
 ·have hj:(i+(f.toArray.size:J)).toNat=j:=by
   rw[seqIndex_neg (by omega) D]at h1;rw[Qqc,<- o];exact Option.some.inj h1
  exact subscriptTail_builtinR pl.isList.typeIs slot_list_getitem.lookup
   (wpAny_getItem_list_neg pl.isList (by omega) (by rw[Qqc]<;>omega) (by omega) (by rw[hj]; simpa using k) ⟨rfl,c⟩) hs
def ix_tup:IxR X (rIxT X.K):=by
 intro value c pins s σ H x y v u Q I g f h hs;obtain⟨p,xs,i,z,rfl,rfl,l,n,q⟩:=h;cases g;obtain⟨t,rfl⟩:=f;obtain⟨k,r,pl,A⟩:=I.tuple l;obtain⟨j,h1,h2,E,D,C⟩:=qe9 n;obtain⟨w,o,d⟩:=r.get h2;have m:=r.length;have hn:=qaq;have e:EP X pins σ Q w s:=⟨z,H,I,d,q⟩
 exact subscriptTail_builtinR pl.typeIs slot_tuple_getitem.lookup
  (getItem_tuple pl (by omega) (by omega) (by rw[Qqc,<- m]; exact h1) (by simpa using o) ⟨rfl,e⟩) hs
def qvm(lo c)(n):(Zw lo c B n).1=((HT.sIx n 0 lo:Y1):J)/\(Zw lo c B n).2.1=((HT.sIx n n c:Y1):J)/\(Zw lo c B n).2.2=1:=by
 refine⟨?_,?_,rfl⟩
 ·cases lo with
  |none=>simp[Zw,HT.sIx]
  |some i=>
   simp only[Zw,HT.sIx,Option.getD_none,show(1:J) > 0 by decide,if_true]
   by_cases h:i<0
   ·simp only[h,if_true]<;>omega
   ·simp only[h,if_false]<;>omega
 ·cases c with
  |none=>simp[Zw,HT.sIx]
  |some i=>
   simp only[Zw,HT.sIx,Option.getD_none,show(1:J) > 0 by decide,if_true]
   by_cases h:i<0
   ·simp only[h,if_true]<;>omega
   ·simp only[h,if_false]<;>omega
def qku(c:L Y9)(lo d):slicePick c.toArray lo d B=((c.drop (HT.sIx c.length 0 lo)).take (HT.sIx c.length c.length d - HT.sIx c.length 0 lo)).toArray:=by
 obtain⟨h1,h2,e⟩:=qvm lo d c.toArray.size;unfold slicePick;rw[h1,h2,e];simp only[sliceRange_one,pick_run,Qqc]<;>rfl
def rSlL(K:Qqq):V->Y4 J->Y4 J->Hp->VK->Prop:=λx lo hi H Q=>∃a xs,x=.ref a/\SqL K H a xs/\∀p,H p=B->Q (.ref p) (upd H p (.lst (cutV xs lo hi)))
def qlw:SlR X (rSlL X.K):=by
 intro pins s σ H x v vl k lo hi sl Q I e hs pl f h;obtain⟨a,xs,rfl,j,q⟩:=h;cases e;obtain⟨g,r,d,i⟩:=I.list j;have c:=r.length;refine⟨"list",_,slot_list_getitem.lookup,d.isList.typeIs,?_⟩;refine wpAny_getItem_list_slice d.isList hs pl f .none (by simp) ?_ (by rw[Qqc]<;>omega);rw[qku,<- c];refine⟨.ref s.heap.objs.size,_,I.laid (λb ob q=>Qqz _ q) (Qqj _) ?_,rfl,q _ (I.hok.fresh (Qqj _))⟩;exact⟨Qz0 (qj1 xs lo hi) i,_,0,(r.drop (HT.sIx xs.length 0 lo)).take (HT.sIx xs.length xs.length hi - HT.sIx xs.length 0 lo),Qqf _ rfl⟩
def qx5:qqh X (.builtin "len") (λxs H Q=>∃p ys,xs=[.ref p]/\(SqL X.K H p ys\/SqT X.K H p ys)/\Q (.int ys.length) H):=by
 intro pins s σ H xs i Q I r h;obtain⟨p,ys,rfl,d,q⟩:=h;obtain⟨u,rfl,f⟩:=vals1 r;cases f;have hn:=qaq;rcases d with d|d
 ·obtain⟨e,r',pl,g⟩:=I.list d;have c:=r'.length;exact Calls.call_len_list pl.isList (by simp only[Qqc]<;>omega) ⟨.int ys.length,H,I.tok _,⟨s.toks+1,by rw[Qqc,c]⟩,q⟩
 ·obtain⟨e,r',pl,g⟩:=I.tuple d;have c:=r'.length;exact len_tuple pl (by simp only[Qqc]<;>omega) ⟨.int ys.length,H,I.tok _,⟨s.toks+1,by rw[Qqc,c]⟩,q⟩
def qx4:qqh X (.type "list") (λxs H Q=>∃p ys,xs=[.ref p]/\(SqL X.K H p ys\/SqT X.K H p ys)/\∀l,H l=B->Q (.ref l) (upd H l (.lst ys))):=by
 intro pins s σ H xs t Q I r h;obtain⟨p,ys,rfl,g,q⟩:=h;obtain⟨u,rfl,m⟩:=vals1 r;cases m;have j:∀(c:L Y9),Vals ys c->ys.length<=sizeLine->∀(h':Heap) (d:Y1),(∀b o',s.heap.get? b=Y o'->h'.get? b=Y o')->
   h'.get? s.heap.objs.size=Y { cls:=.type "list",dict:=B,data:=.seq c.toArray d,slots:=#[] }->EP X pins σ Q (.ref s.heap.objs.size) { s with heap:=h' }:=λc r' f h' d kp e=>
  ⟨.ref s.heap.objs.size,_,I.laid kp (Qqj _) (show ObjOk X.prog X.w _ h' _ (.lst ys) from⟨f,c,d,r',e⟩),rfl,q _ (I.hok.fresh (Qqj _))⟩
 rcases g with g|g
 ·obtain⟨c,r',pl,f⟩:=I.list g;have i:=r'.length;obtain⟨o,k,hc,n,hd⟩:=pl.isList;exact call_list_seq p (.inl rfl) k hc hd (λh' d kp e=>j c r' f h' d kp e) (by simp only[Qqc]<;>omega)
 ·obtain⟨c,r',pl,f⟩:=I.tuple g;have i:=r'.length;obtain⟨o,k,hc,n,hd⟩:=pl;exact call_list_seq p (.inr rfl) k hc hd (λh' d kp e=>j c r' f h' d kp e) (by simp only[Qqc]<;>omega)
def qxl:qqh X (.type "tuple") (λxs H Q=>∃p ys,xs=[.ref p]/\((SqL X.K H p ys/\∀l,H l=B->Q (.ref l) (upd H l (.tup ys)))\/(SqT X.K H p ys/\Q (.ref p) H))):=by
 intro pins s σ H xs m Q I r h;obtain⟨p,ys,rfl,h⟩:=h;obtain⟨u,rfl,j⟩:=vals1 r;cases j;rcases h with⟨d,q⟩|⟨d,q⟩
 ·obtain⟨c,r',pl,f⟩:=I.list d;have g:=r'.length;refine call_tuple_list pl.isList (λh' kp=>?_) (by simp only[Qqc]<;>omega);have i:=I.kept (t':=s.toks) kp;have k:=
   i.laid (t':=s.toks) (λb o e=>Qqz _ e) (Qqj _) (show ObjOk X.prog X.w _ _ _ (.tup ys) from⟨f,c,r',IsTup.new _ _⟩)
  exact⟨.ref h'.objs.size,_,k,rfl,q _ (i.hok.fresh (Qqj _))⟩
 ·obtain⟨c,r',pl,f⟩:=I.tuple d;exact call_tuple_same pl ⟨.ref p,H,I,rfl,q⟩
def tyV(K:Qqq)(T:String)(x:V)(H:Hp):Prop:=match x with
 |.str _=>T = "str"
 |.int _=>T = "int"
 |.ref p=>(T = "list"/\∃xs,SqL K H p xs)\/(T = "tuple"/\∃o,K.lookup p=Y o/\o.cls=.type "tuple"/\o.dict=B)\/
   (T = "dict"/\((∃kvs,H p=Y (.dK kvs))\/∃kvs,H p=Y (.dT kvs)))\/(T = "set"/\∃S n,H p=Y (.set S n))
 |_=>False
def tyV_is(I:Inv X f h H s)(r:RelV x v)(ty:tyV X.K T x H):
  s.TypeIs v T/\∀a,v=.ref a->∃ob,s.heap.get? a=Y ob/\ob.dict=none:=by
 cases x with
 |str z=>
  obtain⟨t,rfl⟩:=r;cases (ty);exact⟨typeIs_str s z t,λ_ e=>nomatch e⟩
 |int i=>
  obtain⟨t,rfl⟩:=r;cases (ty);exact⟨typeIs_int s i t,λ_ e=>nomatch e⟩
 |ref p=>
  cases r;rcases ty with⟨rfl,xs,k⟩|⟨rfl,o,d,hc,hd⟩|⟨rfl,d⟩|⟨rfl,S,n,d⟩
  ·obtain⟨j,_,pl,_⟩:=I.list k;refine⟨pl.isList.typeIs,λa e=>?_⟩;cases e;obtain⟨o,n,e,c,hd,_⟩:=pl;exact⟨o,e,hd⟩
  ·refine⟨⟨o,I.kIn p o d,hc⟩,λa e=>?_⟩;cases e;exact⟨o,I.kIn _ o d,hd⟩
  ·have z:∃o,s.heap.get? p=Y o/\o.ExactDict:=by
    rcases d with⟨kvs,d⟩|⟨kvs,d⟩
    ·obtain⟨_,_,_,_,o,_,_,e,ex,_⟩:=I.hok p _ d;exact⟨o,e,ex⟩
    ·obtain⟨_,_,_,_,o,_,_,e,ex,_⟩:=I.hok p _ d;exact⟨o,e,ex⟩
   obtain⟨o,e,ex⟩:=z;refine⟨⟨o,e,ex.1⟩,λa g=>?_⟩;cases g;exact⟨o,e,ex.2.1⟩
  ·obtain⟨o,_,_,_,e,ex,_⟩:=I.hok p _ d;refine⟨⟨o,e,ex.1⟩,λa g=>?_⟩;cases g;exact⟨o,e,ex.2.1⟩
 |_=>exact False.elim ty
noncomputable def tBM(K:Qqq)(T:String)(r:V->L V->Hp->VK->Prop)(to:TE)(t:TA):TE:=λσ H Q=>to σ H λx H1=>tyV K T x H1/\t σ H1 λxs H2=>r x xs H2 Q
variable {o e:Qj}{es:L Qj}{to:TE}{t:TA}{name:Y6}{apos cpos:Pos}{T id:String}{r:V->L V->Hp->VK->Prop}
def qgf(y:PlainAttrs T)(slot:Slot T name id)(i:typeOf (.builtin id)=pure (.type "method_descriptor"))(A:MtR X id r)(z:PE X o to)(C:PA X (e::es) t)
  (f:Zk o name X.env (Qb o X.env)=Qb o X.env:=by rfl)
  (g:((backTo cpos (starEach (e::es) X.env)).all (λx=>!x.1)&&(backToKw cpos (keywordEach [] X.env)).all (λx=>x.1.isSome)
   && decide ((e::es).length+([]:L Zu).length+(if ([]:L Zu).isEmpty then 0 else 1)<30))=true:=by rfl)
  (d:(apos.endLine==cpos.line)=true:=by rfl) (hs:starEach (e::es) X.env=(Y7,Qb e X.env)::starEach es X.env:=by rfl) (c:(backTo cpos (starEach es X.env)).any (·.1)=false:=by rfl) :
  PE X (.Call (.Attribute o name apos) (e::es) [] cpos) (tBM X.K T r to t):=by
 intro pins s σ H Q I h;refine wpAny_Call_method_late f g d rfl (thn (z pins s σ H _ I h) λv p ⟨x,H1,l,j,ty,w⟩=>?_);obtain⟨h1,h2⟩:=tyV_is l j ty;refine⟨T,id,y,slot,i,h1,h2,?_⟩;have k:=C cpos pins p σ H1 _ l w;rw[hs]at k ⊢;refine Calls.callWith_builtin (by show(Y7||(backTo cpos (starEach es X.env)).any (·.1))=Y7; rw[c]<;>rfl) (Calls.evalArgs_plain ?_);exact thn k λm n ⟨vs,H2,D,q,u⟩=>A pins n σ H2 x vs v m Q D j q u
end
def MtM(X:Cx)(id:String)(r:V->L V->Hp->VK->Prop):Prop:=
 ∀(pins:L (Y8×Obj)) (s:Qz) (σ:St) (H:Hp) (x:V) (xs:L V) (v:Y9) (us:L Y9) (Q:VK),Inv X pins σ H s->RelV x v->Vals xs us->r x xs H Q->
  wpAny (model X.prog X.w) X.A (call (.builtin id) (v::us)) (EP X pins σ Q) X.xe s
def Vals.one:∀{x}{us},Vals [x] us->∃u,us=[u]/\RelV x u
 |_,_,.cons r .nil=>⟨_,rfl,r⟩
def Vals.two:∀{x y}{us},Vals [x,y] us->∃u v,us=[u,v]/\RelV x u/\RelV y v
 |_,_,_,.cons r (.cons q .nil)=>⟨_,_,rfl,r,q⟩
theorem Vals.rep(h:Vals xs us):∀k:Y1,Vals (List.replicate k xs).flatten (List.replicate k us).flatten
 |0=>.nil
 |k+1=>by
  rw[Qzs,Qzs,Qxx,Qxx];exact Vals.append h (Vals.rep h k)
theorem foldl_rep(its):∀(k:Y1) (a:L Y9),
  List.foldl (λb x2=>b++x2) a.toArray (List.replicate k its.toArray)=(a++(List.replicate k its).flatten).toArray
 |0,a=>by simp
 |k+1,a=>by
  have e:a.toArray++its.toArray=(a++its).toArray:=by simp
  have c:(a++its)++(List.replicate k its).flatten=a++(List.replicate (k+1) its).flatten:=by
   rw[Qzs,Qxx,Qzq]
  rw[<- c,<- foldl_rep its k (a++its),<- e,Qzs,Qjb]
section
def Inv.lset{a:L Y9}(I:Inv X pins σ H s)(g:H l=Y (.lst xs))(e:s.heap.get? l=Y { cls:=.type "list",data:=.seq a.toArray n })(hf:f a.toArray=its'.toArray)(hv:Vals ys its')(c:ys.length<=sizeLine):
  Inv X pins σ (upd H l (.lst ys)) { s with heap:=s.heap.update l (Obj.mapSeq f),toks:=t' }:=by
 have q:=PySem.IsL.update e f;rw[hf]at q;refine I.write (by rw[g]; exact trivial) (.inl rfl) (λh u hb d=>(Qjq s.heap (Obj.mapSeq f) (Ne.symm hb)).trans d) ⟨_,q⟩ ?_;exact⟨c,its',_,hv,q⟩
def Inv.lnew(I:Inv X pins σ H s)(hv:Vals ys a)(c:ys.length<=sizeLine):
  Inv X pins σ (upd H s.heap.objs.size (.lst ys)) { s with heap:=s.heap.push { cls:=.type "list",data:=.seq a.toArray },toks:=t' }:=
 I.laid (λ_ _ q=>Qqz _ q) (Qqj _) ⟨c,a,0,hv,Qqf _ rfl⟩
theorem Inv.fresh(I:Inv X pins σ H s):H s.heap.objs.size=none:=I.hok.fresh (Qqj _)
def Inv.lstM(I:Inv X pins σ H s)(c:H l=Y (.lst xs)):xs.length<=sizeLine/\∃(a:L Y9) (n:Y1),Vals xs a/\xs.length=a.length/\s.heap.get? l=Y { cls:=.type "list",data:=.seq a.toArray n }:=by
 obtain⟨z,a,n,r,e⟩:=I.hok l _ c;exact⟨z,a,n,r,r.length,e⟩
def qy4(h:n<=sizeLine):Builtin.List.listTooLong n=false:=by
 unfold Builtin.List.listTooLong;exact Z6 (by omega)
end
section
def qln:V->L V->Hp->VK->Prop:=λx vs H Q=>∃l xs y,x=.ref l/\vs=[y]/\H l=Y (.lst xs)/\xs.length<sizeLine/\Q .non (upd H l (.lst (xs++[y])))
def qdv:MtM X "list.append" qln:=by
 intro pins s σ H x vs v g Q I c d h;obtain⟨l,xs,y,rfl,rfl,b,i,q⟩:=h;cases c;obtain⟨u,rfl,f⟩:=d.one;obtain⟨z,a,n,r,j,e⟩:=I.lstM b;refine Q0 F.slot_list_append ⟨_,e,rfl⟩ F.entry_list_append (F.args_list_append_2 _ _) (PySem.list_append l a.toArray n u (by rw[Qqc]; omega)) ⟨e,?_⟩;refine⟨.non,_,I.lset b e (by simp) (r.append (.cons f .nil)) ?_,rfl,q⟩;rw[Qqe,Qxq];omega
def len_rep{α:Type}(xs:L α)(k):(List.replicate k xs).flatten.length=k*xs.length:=by
 induction k with
 |zero=>simp
 |succ k a=>rw[Qzs,Qxx,Qqe,a,Nat.succ_mul,Nat.add_comm]
end
section
end
section
end
end L2
namespace Att
open PySem PySem.W PySem.Calls PyProof.Rows
def qjs:∀(ns:L J) (vs:L Y9),WellAll P h vs (ns.map WData.int)->Z0 vs ns:=by
 intro ns
 induction ns with
 |nil=>
  intro vs w;rw[Qxy]at w;cases w;exact .nil
 |cons n ns c=>
  intro vs w;rw[Qqh]at w
  cases w with
  |cons a b=>
   cases a;exact .cons _ _ (c _ b)
def qcf{l:OpenLaw}(p:l.most=Y n)(c:l.row.toRowW.claim.pre args=Z)(j:WellAll P h b args):
  ∃a vs ns,b=[Value.ref a]/\args=[WData.list (ns.map WData.int)]/\h.get? a=Y { cls:=.type "list",data:=.seq vs.toArray }/\Z0 vs ns/\ns.length<=n:=by
 have k:=(pre_splitW c).1;have hc:l.pre.holds [] { args:=args }=true:=(pre_splitW c).2;obtain⟨d,r,rfl,h1,h2⟩:=hasAllW_cons k;obtain rfl:=hasAllW_nil h2;obtain⟨xs,rfl,s⟩:=hasW_list h1;obtain⟨ns,rfl⟩:=items_int s;have e:ns.length<=n:=by
  unfold OpenLaw.pre at hc;have i:(WTm.not (.lt (.lit (.int (n:J))) (.len (.arg 0)))).holds [] { args:=[.list (ns.map .int)] }=true:=by
   have i:=(holds_andW hc).1;rw[p]at i;exact i
  have g:=condW_of i (w_not (w_lt w_lit (w_len_list (w_arg rfl))));rw[Qqx]at g;refine Nat.le_of_not_lt λq=>?_;have m:(n:J)<((ns.length:Y1):J):=by omega
  first
   |(rw[Z5 m]at g; exact absurd g (by decide))
   |(simp at g; omega)
 cases j with
 |cons w1 w2=>
  cases w2
  cases w1 with
  |list o f=>exact⟨_,_,ns,rfl,rfl,o,qjs ns _ f,e⟩
def qcs(l:OpenLaw)(args):l.row.toRowW.claim.post args (.bool Z) args=true:=
 postW_of
  (by first|rfl|decide|simp[WShape.has,WShape.arms,WShape.armsAll])
  (show(WTm.eq .res (.lit (.bool Z))).value [] { args:=args,res:=Y (.bool Z),after:=args }=Y (.bool (Z==Z)) from w_eq_bool (w_res rfl) w_lit) rfl
def attach_call{l:OpenLaw}(E:l.most=Y n)(t:d.params.defaults=[])(call:∀(w:Qk) (s₀ b:Qz) (mg m:Y6->Y4 Y9) (i:Y8) (o:Obj) (k j doc:Y9) (a:Y8) (vs:L Y9) (ns:L J),
   Ground q loose [] XP w s₀ mg m b.heap->YP w b.heap->
   b.heap.get? i=Y o->o.data=.func (docDef d.name d.params d.body d.scope k j doc)->b.heap.CodeRec j d.name->mg d.name=Y (.ref i)->
   b.heap.get? a=Y { cls:=.type "list",data:=.seq vs.toArray }->Z0 vs ns->ns.length<=n->b.gens=#[]->
   Ze (model l.prog w) Z1 (.call (.ref i) ⟨[.ref a],[]⟩) (λr s'=>r=.ok (.ret (.bool Z))/\OldK b.heap s'.heap/\s'.os=b.os/\Zn s'.gens) b):
  WalkO q loose XP YP l.row.toRowW d [] (λf vs=>PySem.call f vs):=by
 intro w s₀ b mg m G Q i o k j doc P kV D hd u y s I z v R e x A p H;obtain rfl:P=.none:=Dflts.none y t;obtain rfl:kV=.none:=Dflts.noKw y;obtain⟨a,vs,ns,rfl,rfl,g,c,h⟩:=qcf E e p;refine enter_call (Zq (call w s₀ b mg m i o k j doc a vs ns G Q D (fd_plain hd) u s g c h I) λr s' C=>?_);obtain⟨rfl,h2,N,K⟩:=C;exact⟨.inl ⟨.bool Z,.bool Z,[],rfl,λ_=>rfl,.bool Z,qcs l _,λ_=>⟨List.Pairwise.nil,λ_ F=>(nomatch F)⟩⟩,h2,N,K⟩
section
end
end Att
namespace L2
open PySem PySem.Spec PyProof.Rows
theorem qxz:∀{vs}{ns},Z0 vs ns->Vals (ns.map V.int) vs
 |_,_,.nil=>.nil
 |_,_,.cons n t h=>.cons ⟨t,rfl⟩ (qxz h)
def Only(H:Hp):Prop:=∀b,H b=B\/∃o xs,H b=Y (.frz o (.lst xs))
def qgr{K:Qqq}(KX:K.In s₁.heap)(t:s₁.heap.Ns mainGlobals mg)(hb:s₁.heap.Ns builtinsNs E)(N:∀x:Y6,x ≠ "__name__"->E x=Qd x)(y:s₁.heap.NoLimit)(hg:s₁.gens=#[])(C:s₁.heap.get? a=Y { cls:=.type "list",data:=.seq vs.toArray })(W:Z0 vs ns)(U:ns.length<=sizeLine)(hr:Room k Z1)(F:∀base:Heap,K.In base->base.Ns mainGlobals mg->FnOk P w K mg base CX k R fd [x] sp)(i:∀(s:Qz) (u:Y9),BindsTo s fd ⟨[u],[]⟩ [(x,u)])(G:∀H:Hp,Only H->SqL K H a (ns.map V.int)->sp [.ref a] H (λv _=>v=.bl Z) λ_ _ _=>False)(Q:∀H e s',CX [] H s₁ (λ_ _ _=>False) e s'->False):
  Ze (model P w) Z1 (.call (.ref R) ⟨[.ref a],[]⟩) (λr s'=>r=.ok (.ret (.bool Z))/\OldK s₁.heap s'.heap/\s'.os=s₁.os/\Zn s'.gens) s₁:=by
 have T:=qxz W;have l:=W.length;have g:∀H:Hp,Only H->SqL K H a (ns.map V.int)->HOk P w H s₁.heap->(∀b,H b≠B->b=a)->(H a≠B->K.lookup a=B)->
   Ze (model P w) Z1 (.call (.ref R) ⟨[.ref a],[]⟩) (λr s'=>r=.ok (.ret (.bool Z))/\OldK s₁.heap s'.heap/\s'.os=s₁.os/\Zn s'.gens) s₁:=by
  intro H X hS hok hA hK;have c:∀{b:Y8}{o:Obj},s₁.heap.get? b=Y o->H b=B->(hidT s₁.heap H).get? b=Y o:=λe n=>qg0 e n;have D:∀{b:Y8}{o:Obj}{es:Array Qo}{ep:Y1},s₁.heap.get? b=Y o->o.data=.dict es ep->H b=none:=λ{b o es ep} e d=>by
   cases q:H b with
   |none=>rfl
   |some u=>
    have S:=hA b (by rw[q]; simp);subst S;rw[C]at e; cases e;have d':=d;cases d'
  have f:∀{b:Y8}{m:Y6->Y4 Y9},s₁.heap.Ns b m->(hidT s₁.heap H).Ns b m:=λ{b m} ⟨o,es,ep,e,d,r⟩=>⟨o,es,ep,c e (D e d),d,r⟩
  have A:=λb o e=>c (KX b o e) (by
   cases q:H b with
   |none=>rfl
   |some u=>
    have S:=hA b (by rw[q]; simp);subst S
    rw[hK (by rw[q]; simp)]at e; cases e)
  have hM:Mod K mg (hidT s₁.heap H):=⟨A,f t,⟨E,f hb,N⟩,let ⟨mc,h1,h2⟩:=y; ⟨mc,f h1,h2⟩⟩
  have e0:Env0 P w K mg (hidT s₁.heap H) Z1 [] s₁ H:=⟨rfl,hM,λb o e=>qmg e,Nat.le_of_eq (qd3 _ _),trivial,λb hb=>absurd (show b∈([]:L Y8) from hb) (by simp),hok,.of_eq hg⟩
  refine Zq ((F _ A (f t)).run Z1 [] s₁ H ⟨[.ref a],[]⟩ [.ref a] [.ref a] _ _ hr e0 (i s₁ (.ref a)) (.cons rfl .nil) (G H X hS)) λr s' h=>?_
  cases r with
  |error e=>exact(Q H e s' h).elim
  |ok fl=>
   cases fl with
   |next=>exact False.elim h
   |brk=>exact False.elim h
   |cont=>exact False.elim h
   |ret u=>
    obtain⟨v,H',os,bare,un,p,r',q⟩:=h;have q':=q;subst q';obtain rfl:u=Value.bool true:=r';refine⟨rfl,OldK.of_keep λb o e=>?_,os,bare⟩
    cases q:H b with
    |none=>exact un.keep b o e q (by intro z; exact absurd (show b∈([]:L Y8) from z) (by simp)) (by simp)
    |some u=>
     rcases X b with z|⟨ob,xs,z⟩
     ·rw[q]at z; cases z
     ·have z2:=un.frzs b ob _ z;obtain⟨e1,_⟩:=hok b _ z;obtain⟨e2,_⟩:=p b _ z2;rw[e]at e1; cases e1;exact e2
 cases I:K.lookup a with
 |some o=>
  have e:=KX a o I;rw[C]at e;cases e;refine g (λ_=>B) (λ_=>.inl rfl) (.inr ⟨_,vs.toArray,_,I,rfl,rfl,rfl,by rw[Qqc,l]; exact U,by simpa using T⟩) (λb u z=>by have j:=z; cases j) (λb z=>absurd rfl z) λz=>absurd rfl z
 |none=>
  refine g (λb=>if b=a then Y (.frz { cls:=.type "list",data:=.seq vs.toArray } (.lst (ns.map V.int))) else B) (λb=>?_) (.inl (.inr ⟨{ cls:=.type "list",data:=.seq vs.toArray },Z8 rfl⟩)) (λb u z=>?_) (λb z=>?_) λ_=>I
  ·by_cases hb:b=a
   ·exact .inr ⟨_,_,Z8 hb⟩
   ·exact .inl (Z7 hb)
  ·by_cases hb:b=a
   ·have j:=(Z8 hb).symm.trans z;cases j;subst hb;exact⟨C,by rw[Qqx]; exact U,vs,_,T,C⟩
   ·have j:=(Z7 hb).symm.trans z;cases j
  ·by_cases hb:b=a
   ·exact hb
   ·exact absurd (Z7 hb) z
def walk_of{l:PySem.W.OpenLaw}{K:Qt->Qqq}{C:Qk->CXT}{sp:Qk->Sp}(D:l.most=Y n)(r:n<=sizeLine)(y:d.params.defaults=[])(hr:Room k Z1)(N:∀(w:Qk) (h:Heap),YP w h->(K w.params).In h)(F:∀(w:Qk) (mg:Y6->Y4 Y9) (j:Y8) (h:Heap),(K w.params).In h->h.Ns mainGlobals mg->mg d.name=Y (.ref j)->
   ∃fd:Qr,(∀(s:Qz) (u:Y9),BindsTo s fd ⟨[u],[]⟩ [(x,u)])/\
    ∀base:Heap,(K w.params).In base->base.Ns mainGlobals mg->FnOk l.prog w (K w.params) mg base (C w) k j fd [x] (sp w))(p:∀(w:Qk) (H:Hp) (a:Y8) (ns:L J),ns.length<=n->Only H->SqL (K w.params) H a (ns.map V.int)->sp w [.ref a] H (λv _=>v=.bl Z) λ_ _ _=>False)(z:∀(w:Qk) (H:Hp) (s:Qz) (e:Y9) (m:Qz),C w [] H s (λ_ _ _=>False) e m->False):
  PySem.W.WalkO q loose XP YP l.row.toRowW d [] (λf vs=>PySem.call f vs):=by
 refine Att.attach_call D y λw s₀ g mg T j o S W doc a vs ns G R U hd I t i c b E=>?_;have A:=N w _ R;obtain⟨fd,hb,Q⟩:=F w mg j _ A G.T.g t;exact qgr A G.T.g G.T.b G.T.builtins G.T.nolimit E i c (Qz0 b r) hr Q hb (λH P hS=>p w H a ns b P hS) λH e m=>z w H g e m
noncomputable abbrev CX0:CXT:=λ_ _ _ _ _ _=>False
noncomputable abbrev E0:XK:=λ_ _ _=>False
def qgg:qj4 CX0 X E0:=λ_ _ _ _ _ _ _ h=>h.elim
structure Fun (K:Qqq) (x qual:Y6) (st:Stmt) (f:Y8) (fd:Qr):Prop where
 ex:∃(oc:Y9) (od:Y4 Y8) (kV doc pm:Y9) (an:Y4 Y8) (cdv ct:Y9) (osl:Array (Y4 Y9)),
  fd=PySem.W.fnOf x qual (qqf st) (qz0 st) (qzy st) .none kV doc pm an cdv ct/\K.lookup f=Y ⟨oc,od,.func fd,osl⟩/\PySem.W.codeIn K cdv qual=Z
 kp:Qzr K (.ref f)=Z
section
variable {P:Program}{w:Qk}{K:Qqq}{mg:Y6->Y4 Y9}{base:Heap}
def Fun.ok{st:Stmt}(F:Fun K x a st f g)(S:FnScope N ps (qzy st))(len:∀vs H Q E,sp vs H Q E->vs.length=ps.length)(c:∀(b:Y9) (A:Qv) (outer:L Env) (s:Qz) (H:Hp) (vs:L V) (Q:VK) (E:XK),Room k (A.deeper (envOfC a (qzy st) s.heap.objs.size f b))->sp vs H Q E->
   ∃t,PSs (cxOf CX0 P w K mg base N a (qzy st) f b A outer s H E).nox (qz0 st) t/\t { nx:=λ_ H'=>Q .non H',rt:=Q } (start N vs) H):FnOk P w K mg base CX0 (k+1) f g ps sp:=by
 obtain⟨m,l,kV,doc,j,an,b,ct,i,rfl,lk,e⟩:=F.ex;refine fn_of lk e S len λA outer s H vs Q E hr d=>?_;obtain⟨t,h,q⟩:=c b A outer s H vs Q E hr d;exact⟨t,h.nox,q⟩
def Fun.binds{st:Stmt}(F:Fun K x a st f d)(h:∀(kV doc c:Y9) (an:Y4 Y8) (b ct:Y9) (us:L Y9),us.length=ps.length->bindArgs (PySem.W.fnOf x a (qqf st) (qz0 st) (qzy st) .none kV doc c an b ct) ⟨us,[]⟩=pure (ps.zip us)):Binds K d ps []:=by
 obtain⟨j,i,kV,doc,c,an,b,ct,e,rfl,lk,g⟩:=F.ex;exact .all (h kV doc c an b ct)
def qwk{st:Stmt}{kV:Y9}(l:K.lookup f=Y ⟨h,g,.func (PySem.W.fnOf x a (qqf st) (qz0 st) (qzy st) .none kV doc e an b ct),d⟩)(c:PySem.W.codeIn K b a=Z)(k:Qzr K (.ref f)=Z):Fun K x a st f (PySem.W.fnOf x a (qqf st) (qz0 st) (qzy st) .none kV doc e an b ct):=⟨⟨h,g,kV,doc,e,an,b,ct,d,rfl,l,c⟩,k⟩
end
def qcc(h:n<=1000):n<sizeLine:=Nat.lt_of_le_of_lt h (by decide)
section
end
def Same(H H':Hp):Prop:=∀b o,H b=Y o->H' b=Y o
end L2
end
section
namespace L2
open PySem PySem.Spec PyProof.Rows
section
variable [DecidableEq κ]
noncomputable def valV(kvs:L (κ×V))(k:κ):Y4 V:=(kvs.find? λkv=>decide (kv.1=k)).map (·.2)
noncomputable def putK(kvs:L (κ×V))(k:κ)(v:V):L (κ×V):=
 if (kvs.any λkv=>decide (kv.1=k))=Z then kvs.map (λkv=>if kv.1=k then(kv.1,v) else kv) else kvs++[(k,v)]
def qxq{p:κ×V}(e:p.1=k):valV (p::r) k=Y p.2:=by simp[valV,Qzy,e]
def qxx{p:κ×V}(e:¬ p.1=k):valV (p::r) k=valV r k:=by simp[valV,Qzy,e]
theorem qyd(k):∀kvs:L (κ×V),(kvs.any λa=>decide (a.1=k))=(valV kvs k).isSome
 |[]=>rfl
 |p::r=>by
  rw[Qz2]
  by_cases e:p.1=k
  ·simp only[qxq e,Z5 e,Bool.true_or,Option.isSome_some]
  ·rw[qxx e,Z6 e,Bool.false_or]; exact qyd k r
def qq6(kvs:L (κ×V))(k)(v):(putK kvs k v).length<=kvs.length+1:=by
 unfold putK
 split
 ·rw[Qqx]; omega
 ·rw[Qqe,Qqg,Qj9]; omega
def RelO.isSome_eq(r:RelO o u):o.isSome=u.isSome:=by
 cases o with
 |none=>cases u with
  |none=>rfl
  |some _=>exact(r).elim
 |some _=>cases u with
  |none=>exact(r).elim
  |some _=>rfl
theorem RelO.getD(r:RelO o u)(rd:RelV d d'):RelV (o.getD d) (u.getD d'):=by
 cases o with
 |none=>cases u with
  |none=>exact rd
  |some _=>exact(r).elim
 |some _=>cases u with
  |none=>exact(r).elim
  |some _=>exact r
def KV.val{kvs:L (κ×V)}(r:KV kvs vs)(k):RelO (valV kvs k) (valueAt vs k):=by
 unfold KV at r
 induction r with
 |nil=>exact True.intro
 |@cons p q ps a h t d=>
  obtain⟨h1,h2⟩:=h
  by_cases e:p.1=k
  ·have c:=h1.symm.trans e;have b:valueAt (q::a) k=Y q.2:=by simp[valueAt,Qzy,c]
   rw[qxq e,b]; exact h2
  ·have c:¬ q.1=k:=λz=>e (h1.trans z);have b:valueAt (q::a) k=valueAt a k:=by simp[valueAt,Qzy,c]
   rw[qxx e,b]; exact d
theorem KV.any{kvs:L (κ×V)}(r:KV kvs vs)(k):(kvs.any λa=>decide (a.1=k))=vs.any λa=>decide (a.1=k):=by
 unfold KV at r
 induction r with
 |nil=>rfl
 |cons h t b=>rw[Qz2,Qz2,b,h.1]
def KV.repl{kvs:L (κ×V)}(r:KV kvs vs)(k)(b:RelV y u):
  KV (kvs.map λa=>if a.1=k then(a.1,y) else a) (vs.map λa=>if a.1=k then(a.1,u) else a):=by
 unfold KV at r ⊢
 induction r with
 |nil=>exact .nil
 |@cons p q ps d h t c=>
  rw[Qqh,Qqh];refine .cons ?_ c;obtain⟨h1,h2⟩:=h
  by_cases e:p.1=k
  ·rw[Z8 e,Z8 (h1.symm.trans e)]; exact⟨h1,b⟩
  ·rw[Z7 e,Z7 (λz=>e (h1.trans z))]; exact⟨h1,h2⟩
def KV.put{kvs:L (κ×V)}(r:KV kvs vs)(k)(a:RelV y u):KV (putK kvs k y) (stored vs k u):=by
 unfold putK stored;rw[r.any k]
 by_cases e:(vs.any λb=>decide (b.1=k))=Z
 ·rw[Z8 e,Z8 e]; exact r.repl k a
 ·rw[Z7 e,Z7 e]; exact Paired.snoc r ⟨rfl,a⟩
def KV.keys{kvs:L (κ×V)}(r:KV kvs vs):kvs.map (·.1)=vs.map (·.1):=by
 unfold KV at r
 induction r with
 |nil=>rfl
 |cons h t a=>rw[Qqh,Qqh,a,h.1]
theorem KV.length{kvs:L (κ×V)}(r:KV kvs vs):kvs.length=vs.length:=Paired.length r
end
def qj9(r:RelV (kV k) u):(mixKind P w).is k u=true:=by
 cases k with
 |inl i=>obtain⟨t,e⟩:=(r); subst e; exact qw3 P w i t
 |inr x=>obtain⟨t,e⟩:=(r); subst e; exact qq5 P w x t
theorem qv9:∀{ks}{us},Vals (ks.map kV) us->ItemsAre (mixKind P w) ks us
 |[],_,r=>by rw[Qxy]at r; cases r; exact .nil
 |k::ks,_,r=>by
  rw[Qqh]at r
  cases r with
  |cons h t=>exact .cons (qj9 h) (qv9 t)
abbrev KT(H:Hp):L (L Key×V)->L (L Key×Y8×Y9)->Prop:=Paired λp q=>p.1=q.1/\H q.2.1=Y (.tup (p.1.map kV))/\RelV p.2 q.2.2
def KT.val(r:KT H kvs xs)(k):RelO (valV kvs k) ((atKey xs k).map (·.2)):=by
 induction r with
 |nil=>exact True.intro
 |@cons p q ps a h t d=>
  obtain⟨h1,_,h2⟩:=h
  by_cases e:p.1=k
  ·have c:=h1.symm.trans e;have b:atKey (q::a) k=Y q.2:=by simp[atKey,Qzy,c]
   rw[qxq e,b]; exact h2
  ·have c:¬ q.1=k:=λz=>e (h1.trans z);have b:atKey (q::a) k=atKey a k:=by simp[atKey,Qzy,c]
   rw[qxx e,b]; exact d
def KT.repl(r:KT H kvs xs)(k)(b:RelV y u):
  KT H (kvs.map λa=>if a.1=k then(a.1,y) else a) (xs.map (putAt k u)):=by
 induction r with
 |nil=>exact .nil
 |@cons p q ps f h t c=>
  rw[Qqh,Qqh];refine .cons ?_ c;obtain⟨h1,h2,d⟩:=h;unfold putAt
  by_cases e:p.1=k
  ·rw[Z8 e,Z8 (h1.symm.trans e)]; exact⟨h1,h2,b⟩
  ·rw[Z7 e,Z7 (λz=>e (h1.trans z))]; exact⟨h1,h2,d⟩
def KT.put(r:KT H kvs xs)(k)(hb:H b=Y (.tup (k.map kV)))(a:RelV y u):
  KT H (putK kvs k y) (storedH xs k b u):=by
 have e:(kvs.any λc=>decide (c.1=k))=(atKey xs k).isSome:=by
  rw[qyd,(r.val k).isSome_eq,Qx8]
 unfold putK storedH;rw[e]
 by_cases q:(atKey xs k).isSome=Z
 ·rw[Z8 q,Z8 q]; exact r.repl k a
 ·rw[Z7 q,Z7 q]; exact Paired.snoc r ⟨rfl,hb,a⟩
def KT.keeps(r:KT H kvs xs)(a:∀b ys,H b=Y (.tup ys)->H' b=Y (.tup ys)):KT H' kvs xs:=
 Paired.mapP r λ_ _ z=>⟨z.1,a _ _ z.2.1,z.2.2⟩
section
def rd_of(ok:HOk P w H h)(e:Rd H a u):ObjOk P w H h a u:=e.ok ok
def qvk(ok:HOk P w H h)(e:Rd H a (.dK kvs)):kvs.length<=sizeLine/\(a==Qg)=Y7/\∃vs,KV kvs vs/\h.DictOf (mixKind P w) a vs:=
 show ObjOk P w H h a (.dK kvs) from rd_of ok e
def dk_of(ok:HOk P w H h)(e:H a=Y (.dK kvs)):kvs.length<=sizeLine/\(a==Qg)=Y7/\∃vs,KV kvs vs/\h.DictOf (mixKind P w) a vs:=qvk ok (.inl e)
def qq1(ok:HOk P w H h)(e:H a=Y (.tup (ks.map kV))):(tupleKind (mixKind P w)).is h ks a:=by
 obtain⟨_,b,r,o,h1,h2,n,c⟩:=(ok a _ e)
 exact⟨o,b.toArray,n,h1,h2,c,by simpa using qv9 r⟩
def qkq(ok:HOk P w H h)(e:Rd H a (.dT kvs)):kvs.length<=sizeLine/\(a==Qg)=Y7/\
  ∃xs,KT H kvs xs/\h.DictOfH (tupleKind (mixKind P w)) a xs:=by
 obtain⟨z,y,xs,r,o,es,j,h1,h2,i,g,f⟩:=(rd_of ok e)
 refine⟨z,y,xs,r,o,es,j,h1,h2,i,g,λx b=>?_,f⟩;have all:∀{l:L (L Key×V)}{m:L (L Key×Y8×Y9)},KT H l m->∀x∈m,(tupleKind (mixKind P w)).is h x.1 x.2.1:=by
  intro l m q
  induction q with
  |nil=>intro x b; exact nomatch b
  |@cons p q ps k c t d=>
   intro x b;rcases Qqa.mp b with e|b
   ·subst e;exact qq1 ok (by rw[<- c.1]; exact c.2.1)
   ·exact d x b
 exact all r x b
def dt_of(ok:HOk P w H h)(e:H a=Y (.dT kvs)):kvs.length<=sizeLine/\(a==Qg)=Y7/\
  ∃xs,KT H kvs xs/\h.DictOfH (tupleKind (mixKind P w)) a xs:=qkq ok (.inl e)
end
def DGet(H:Hp)(a:Y8)(y:V)(r:Y4 V):Prop:=
 (∃kvs k,Rd H a (.dK kvs)/\y=kV k/\r=valV kvs k)\/∃kvs k b,Rd H a (.dT kvs)/\y=.ref b/\H b=Y (.tup (k.map kV))/\r=valV kvs k
def DPut(H:Hp)(a:Y8)(y v:V)(H':Hp):Prop:=
 (∃kvs k,H a=Y (.dK kvs)/\y=kV k/\kvs.length<sizeLine/\H'=upd H a (.dK (putK kvs k v)))\/
 ∃kvs k b,H a=Y (.dT kvs)/\y=.ref b/\H b=Y (.tup (k.map kV))/\kvs.length<sizeLine/\H'=upd H a (.dT (putK kvs k v))
theorem DPut.k{H:Hp}{a:Y8}{kvs:L (Key×V)}{k:Key}{v:V}(e:H a=Y (.dK kvs))(b:kvs.length<sizeLine):DPut H a (kV k) v (upd H a (.dK (putK kvs k v))):=.inl ⟨kvs,k,e,rfl,b,rfl⟩
def DPut.t{H:Hp}{a b:Y8}{kvs:L (L Key×V)}{k:L Key}{v:V}(e:H a=Y (.dT kvs))(d:H b=Y (.tup (k.map kV)))(c:kvs.length<sizeLine):
  DPut H a (.ref b) v (upd H a (.dT (putK kvs k v))):=.inr ⟨kvs,k,b,e,rfl,d,c,rfl⟩
section
def Inv.big(I:Inv X pins σ H s):Qg<s.heap.objs.size:=by
 have h:=(I.mod.glob.keeps I.bk).lt;exact Nat.lt_trans (by decide) h
def qee(t:A.units+1<cLine)(I:Inv X pins σ H s)(g:DGet H a y (Y v))(q:RelV y u)(h:∀f s',Inv X pins σ H s'->RelV v f->Q f s'):
  wpAny (model X.prog X.w) A (Zv (.ref a) u) Q E s:=by
 rcases g with⟨kvs,k,e,m,l⟩|⟨kvs,k,b,e,m,x,l⟩
 ·subst m;obtain⟨z,hd,vs,d,n⟩:=qvk I.hok e;obtain⟨f,i,c⟩:=RelO.some_of (by rw[l]; exact d.val k);exact wpAny_getItem_of (qj9 q) n.mapOf i (h f _ (I.tok _) c)
 ·subst m;cases (q);obtain⟨z,hd,xs,d,n⟩:=qkq I.hok e;obtain⟨f,i,c⟩:=RelO.some_of (by rw[l]; exact d.val k);obtain⟨p,w,j⟩:=Qqd.mp i;refine wpAny_getItem_heap (Q8 t) (qq1 I.hok x) n w ?_;rw[j];exact h f _ (I.tok _) c
def d_in(j:A.units+1<cLine)(I:Inv X pins σ H s)(g:DGet H a y o)(i:RelV y u)(h:∀s',Inv X pins σ H s'->Q (.bool o.isSome) s'):
  wpAny (model X.prog X.w) A (Qi .In u (.ref a)) Q E s:=by
 rcases g with⟨kvs,k,e,d,l⟩|⟨kvs,k,b,e,d,m,l⟩
 ·subst d;obtain⟨z,hd,vs,c,f⟩:=qvk I.hok e;refine wpAny_in_of (qj9 i) hd f.mapOf ?_;rw[<- (c.val k).isSome_eq,<- l];exact h _ (I.tok _)
 ·subst d;cases (i);obtain⟨z,hd,xs,c,f⟩:=qkq I.hok e;refine wpAny_in_heap (Q8 j) (qq1 I.hok m) hd f ?_;have q:=(c.val k).isSome_eq;rw[Qx8]at q;rw[<- q,<- l];exact h _ (I.tok _)
def qni(j:A.units+1<cLine)(I:Inv X pins σ H s)(g:DGet H a y o)(i:RelV y u)(h:∀s',Inv X pins σ H s'->Q (.bool (!o.isSome)) s'):
  wpAny (model X.prog X.w) A (Qi .NotIn u (.ref a)) Q E s:=by
 rcases g with⟨kvs,k,e,d,l⟩|⟨kvs,k,b,e,d,m,l⟩
 ·subst d;obtain⟨z,hd,vs,c,f⟩:=qvk I.hok e;refine wpAny_notIn_of (qj9 i) hd f.mapOf ?_;rw[<- (c.val k).isSome_eq,<- l];exact h _ (I.tok _)
 ·subst d;cases (i);obtain⟨z,hd,xs,c,f⟩:=qkq I.hok e;refine wpAny_notIn_heap (Q8 j) (qq1 I.hok m) hd f ?_;have q:=(c.val k).isSome_eq;rw[Qx8]at q;rw[<- q,<- l];exact h _ (I.tok _)
def qyk(I:Inv X pins σ H s)(c:Mut (H a))(hs:Heap.SameBut a s.heap h')(d:∃q,h'.get? a=Y q)(new:ObjOk X.prog X.w (upd H a ob) h' a ob):
  Inv X pins σ (upd H a ob) { s with heap:=h',toks:=t' }:=
 I.write c (.inl rfl) (λb q hb z=>(hs.2 b hb).trans z) d new
def dk_new(z:kvs.length<=sizeLine)(hd:(a==Qg)=Y7)(b:KV kvs vs)(c:h'.DictOf (mixKind P w) a vs):
  ObjOk P w H' h' a (.dK kvs):=⟨z,hd,vs,b,c⟩
def qed(F:A.units+1<cLine)(I:Inv X pins σ H s)(g:DPut H a y v H')(w:RelV y u)(x:RelV v r)(h:∀s',Inv X pins σ H' s'->Q () s'):
  wpAny (model X.prog X.w) A (setItem (.ref a) u r) Q E s:=by
 rcases g with⟨kvs,k,e,n,l,p⟩|⟨kvs,k,b,e,n,D,l,p⟩
 ·subst n p;obtain⟨z,hd,vs,d,t⟩:=dk_of I.hok e;have j:vs.length<=sizeLine:=by rw[<- d.length]; exact z
  have m:(putK kvs k v).length<=sizeLine:=by have:=qq6 kvs k v; omega
  refine wpAny_setItem_pairs (qj9 w) t λh' f hs=>h _ ?_;have G:∃q,h'.get? a=Y q:=let ⟨q,_,_,i,_⟩:=f; ⟨q,i⟩;exact qyk I (by rw[e]; exact True.intro) hs G (dk_new m hd (d.put k x) f)
 ·subst n p;cases (w);obtain⟨z,hd,xs,d,t⟩:=dt_of I.hok e;have j:xs.length<=sizeLine:=by rw[<- Paired.length d]; exact z
  have m:(putK kvs k v).length<=sizeLine:=by have:=qq6 kvs k v; omega
  refine wpAny_setItem_heap (Q8 F) (qq1 I.hok D) t λh' f hs=>h _ ?_;obtain⟨q,es,R,i,h2,P,N,_,K⟩:=f;refine qyk I (by rw[e]; exact True.intro) hs ⟨q,i⟩ ⟨m,hd,_,(d.put k D x).keeps λc ys C=>?_,q,es,R,i,h2,P,N,K⟩;rw[qzq (qzs C e (λz=>nomatch z))];exact C
end
section
end
def NoSl(i:Qj):Prop:=∀ov iv,subscripted i Y7 ov iv=operate [ov,iv] (Zv ov iv)
def qcx(m:typeLookup (.type T) "__getitem__" = pure (Y (.builtin l)))(hs:NoSl a)(h:wpAny (model prog w) A (Qb b env) (λo e=>wpAny (model prog w) A (Qb a env) (λi s₂=>s₂.TypeIs o T/\wpAny (model prog w) A (Zv o i) Q E s₂) E e) E s):
  wpAny (model prog w) A (Qb (.Subscript b a pos) env) Q E s:=by
 refine Subscript_ (Ql h (λo e j=>Ql j (λi s₂ c=>?_) λ_ _ x=>x) λ_ _ x=>x);obtain⟨k,c⟩:=c;unfold subscriptTail;refine Qq ?_;rw[getitemInPython_of_ne k.not_modules];refine Qq (Qu k m ?_);have f:wpAny (model prog w) A (subscripted a Y7 o i) (λr d=>wpAny (model prog w) A (letTemporaryGo b o r >>= λ_=>pure r) Q E d) E s₂:=by
  rw[hs o i];exact wpAny_operating (Ql c (λr d g=>Qq (wpAny_letTemporaryGo (Qx g))) λ_ _ x=>x)
 first
  |exact Qx (Qq f)
  |exact Qq (Qx (Qq f))
  |exact Qq f
def qyx(I:Inv X c f H s)(g:DGet H a y o):s.TypeIs (.ref a) "dict":=by
 rcases g with⟨kvs,k,e,_,_⟩|⟨kvs,k,b,e,_,_,_⟩
 ·obtain⟨_,_,vs,_,d⟩:=qvk I.hok e;exact d.typeIs
 ·obtain⟨_,_,xs,_,d⟩:=qkq I.hok e;exact d.typeIs
noncomputable def tDGet(td ty:TE):TE:=λσ H Q=>td σ H λx H1=>ty σ H1 λy H2=>∃a v,x=.ref a/\DGet H2 a y (Y v)/\Q v H2
noncomputable def tDIn(ty td:TE):TE:=λσ H Q=>ty σ H λy H1=>td σ H1 λx H2=>∃a o,x=.ref a/\DGet H2 a y o/\Q (.bl o.isSome) H2
noncomputable def qwp(ty td:TE):TE:=λσ H Q=>ty σ H λy H1=>td σ H1 λx H2=>∃a o,x=.ref a/\DGet H2 a y o/\Q (.bl (!o.isSome)) H2
noncomputable def sDPut(td ty tv:TE):TS:=λD σ H=>tv σ H λv H1=>td σ H1 λx H2=>ty σ H2 λy H3=>∃a H4,x=.ref a/\DPut H3 a y v H4/\D.nx σ H4
section
def qmq(m:X.A.units+1<cLine)(n:PE X o td)(p:PE X i ty)(hs:NoSl i):PE X (.Subscript o i pos) (tDGet td ty):=by
 intro pins s σ H Q I h;refine qcx PySem.F.slot_dict_getitem.lookup hs (thn (n pins s σ H _ I h) λu d ⟨x,H1,r,j,l⟩=>thn (p pins d σ H1 _ r l) λA z ⟨y,H2,c,f,a,v,ex,g,k⟩=>?_);subst ex;obtain rfl:u=Value.ref a:=j;exact⟨qyx c g,qee m c g f λt w q b=>⟨v,H2,q,b,k⟩⟩
def qh5(l:X.A.units+1<cLine)(n:PE X i ty)(m:PE X o td):PC X .In i o (tDIn ty td):=by
 intro pins s σ H Q I h;refine thn (n pins s σ H _ I h) λw b ⟨y,H1,r,c,j⟩=>thn (m pins b σ H1 _ r j) λu v ⟨x,H2,q,d,a,k,ex,g,f⟩=>?_;subst ex;obtain rfl:u=Value.ref a:=d;exact d_in l q g c λt p=>⟨.bl k.isSome,H2,p,rfl,f⟩
def qvu(l:X.A.units+1<cLine)(n:PE X i ty)(m:PE X o td):PC X .NotIn i o (qwp ty td):=by
 intro pins s σ H Q I h;refine thn (n pins s σ H _ I h) λw b ⟨y,H1,r,c,j⟩=>thn (m pins b σ H1 _ r j) λu v ⟨x,H2,q,d,a,k,ex,g,f⟩=>?_;subst ex;obtain rfl:u=Value.ref a:=d;exact qni l q g c λt p=>⟨.bl (!k.isSome),H2,p,rfl,f⟩
def qcp(n:X.A.units+1<cLine)(p:PE X o td)(q:PE X i ty)(hv:PE X value tv)(hs:swapsWith value (Y (.Subscript o i pos')) pos.line X.env=pure Y7):
  PS X (.Assign [.Subscript o i pos'] value pos) (sDPut td ty tv):=by
 intro pins s σ H D I h;refine wpAny_Assign_Subscript (thn (hv pins s σ H _ I h) λr c ⟨v,H1,A,j,m⟩=>thn (p pins c σ H1 _ A m) λu b ⟨x,H2,z,f,l⟩=>thn (q pins b σ H2 _ z l) λG F ⟨y,K,w,d,a,C,ex,g,k⟩=>?_) hs;subst ex;obtain rfl:u=Value.ref a:=f;exact qed n w g d j λE t=>⟨σ,C,t,k⟩
end
def qag(h:Heap)(hb:Qg<h.objs.size):ObjOk P w H (h.push { cls:=.type "dict",data:=.dict #[] }) h.objs.size (.dK []):=
 ⟨Qq8 _,beq_eq_false_iff_ne.mpr (Ne.symm (Qqr hb)),[],.nil,Heap.DictOf.new h⟩
def qhz(h:Heap)(hb:Qg<h.objs.size):ObjOk P w H (h.push { cls:=.type "dict",data:=.dict #[] }) h.objs.size (.dT []):=
 ⟨Qq8 _,beq_eq_false_iff_ne.mpr (Ne.symm (Qqr hb)),[],.nil,_,#[],0,Qqf _ rfl,⟨rfl,rfl,rfl⟩,rfl,rfl,List.nodup_nil⟩
noncomputable def tDNewK:TE:=λ_ H Q=>∀p,H p=B->Q (.ref p) (upd H p (.dK []))
noncomputable def tDNewT:TE:=λ_ H Q=>∀p,H p=B->Q (.ref p) (upd H p (.dT []))
section
def pe_dnewK:PE X (.Dict [] [] pos) tDNewK:=λpins s σ H Q I h=>
 wpAny_Dict_empty ⟨.ref s.heap.objs.size,_,I.laid (λ_ _ q=>Qqz _ q) (Qqj _) (qag s.heap I.big),rfl,h _ (I.hok.fresh (Qqj _))⟩
def pe_dnewT:PE X (.Dict [] [] pos) tDNewT:=λpins s σ H Q I h=>
 wpAny_Dict_empty ⟨.ref s.heap.objs.size,_,I.laid (λ_ _ q=>Qqz _ q) (Qqj _) (qhz s.heap I.big),rfl,h _ (I.hok.fresh (Qqj _))⟩
end
noncomputable def qyi:L (TE×TE)->St->Hp->(L (V×V)->Hp->Prop)->Prop
 |[],_,H,Q=>Q [] H
 |(tk,tv)::r,σ,H,Q=>tk σ H λx H1=>tv σ H1 λy H2=>qyi r σ H2 λps H3=>Q ((x,y)::ps) H3
abbrev VV:L (V×V)->L (Y9×Y9)->Prop:=Paired λp q=>RelV p.1 q.1/\RelV p.2 q.2
def PPs(X:Cx)(pos:Pos)(keys:L (Y4 Qj))(values:L Qj)(trs:L (TE×TE)):Prop:=
 ∀(pins:L (Y8×Obj)) (s:Qz) (σ:St) (H:Hp) (Q:L (V×V)->Hp->Prop),Inv X pins σ H s->qyi trs σ H Q->
  wpAny (model X.prog X.w) X.A (evalPairs (pairTrees keys values X.env pos)) (λvs s'=>∃ps H',Inv X pins σ H' s'/\VV ps vs/\Q ps H') X.xe s
def qlt:PPs X pos [] [] []:=λpins s σ H Q I h=>pairTrees_nil_walk ⟨[],H,I,.nil,h⟩
def qgx(n:PE X k d)(hv:PE X v c)(hr:PPs X pos ks vs a):
  PPs X pos (Y k::ks) (v::vs) ((d,c)::a):=λpins s σ H Q I h=>
 pairTrees_cons_walk (thn (n pins s σ H _ I h) λu f ⟨x,H1,q,i,m⟩=>thn (hv pins f σ H1 _ q m) λw2 e ⟨y,H2,p,g,l⟩=>
  thn (hr pins e σ H2 _ p l) λt w ⟨ps,r,o,b,j⟩=>⟨(x,y)::ps,r,o,.cons ⟨i,g⟩ b,j⟩)
noncomputable def qkc(kvs more:L (Key×V)):L (Key×V):=more.foldl (λacc kv=>putK acc kv.1 kv.2) kvs
def KV.merge:∀{more}{a}{kvs}{vs},KV more a->KV kvs vs->KV (qkc kvs more) (merged vs a):=by
 intro more a kvs vs r;unfold KV at r
 induction r generalizing kvs vs with
 |nil=>intro q; exact q
 |@cons p q ps d h t c=>
  intro b;have e:KV (putK kvs p.1 p.2) (stored vs q.1 q.2):=by
   have:=b.put p.1 h.2;rw[<- h.1]; exact this
  exact c e
theorem qxb:∀(more kvs:L (Key×V)),(qkc kvs more).length<=kvs.length+more.length
 |[],kvs=>by show kvs.length<=kvs.length+0; omega
 |p::r,kvs=>by
  have h1:=qxb r (putK kvs p.1 p.2);have h2:=qq6 kvs p.1 p.2;show(qkc (putK kvs p.1 p.2) r).length<=_;rw[Qqg]; omega
theorem qkm:∀{kvs}{e},VV (kvs.map λf=>(kV f.1,f.2)) e->∃d,Carries (mixKind P w) e d/\KV kvs d
 |[],_,r=>by rw[Qxy]at r; cases r; exact⟨[],True.intro,.nil⟩
 |p::kvs,_,r=>by
  rw[Qqh]at r
  cases r with
  |@cons a b g bs h t=>
   obtain⟨d,c,q⟩:=qkm t;obtain⟨b1,b2⟩:=b;exact⟨(p.1,b2)::d,⟨qj9 h.1,rfl,c⟩,.cons ⟨rfl,h.2⟩ q⟩
noncomputable def tDisp(trs:L (TE×TE)):TE:=λσ H Q=>∀p,H p=B->qyi trs σ (upd H p (.dK [])) λps H2=>H2 p=Y (.dK [])/\∃kvs:L (Key×V),ps=kvs.map (λkv=>(kV kv.1,kv.2))/\kvs.length<=15/\Q (.ref p) (upd H2 p (.dK (qkc [] kvs)))
def ql9(h:PPs X pos keys b d)(f:keys.all (·.isSome)=Z)(v:keys.length=b.length)(y:keys≠[])(j:keys.length<=15):PE X (.Dict keys b pos) (tDisp d):=by
 intro pins s σ H Q I q;have hn:=I.hok.fresh (Qqj s.heap.objs.size);have D:=I.laid (t':=s.toks) (λ_ _ q=>Qqz _ q) (Qqj _) (qag s.heap I.big);refine wpAny_Dict_walk (knd:=mixKind X.prog X.w) f v y j (thn (h pins _ σ _ _ D (q _ hn)) λE F ⟨ps,H2,k,i,e,kvs,A,lk,r⟩=>?_);subst A;obtain⟨m,c,n⟩:=qkm i;obtain⟨z,hd,l,p,C⟩:=dk_of k.hok e;cases p;refine⟨m,c,C,λh' g hs=>⟨.ref s.heap.objs.size,_,?_,rfl,r⟩⟩;have t:(qkc [] kvs).length<=sizeLine:=by
  have h1:=qxb kvs [];rw[Qj9]at h1;rw[Q2]; omega
 have x:∃q,h'.get? s.heap.objs.size=Y q:=let ⟨q,_,_,u,_⟩:=g; ⟨q,u⟩;exact qyk k (by rw[e]; exact True.intro) hs x (dk_new t hd (n.merge .nil) g)
structure M1 (X:Cx) (o:Qj) (m:Y6) (apos:Pos) (e:Qj) (cpos:Pos):Prop where
 base:Zk o m X.env (Qb o X.env)=Qb o X.env
 few:((backTo cpos (starEach [e] X.env)).all (λx=>!x.1)&&(backToKw cpos (keywordEach [] X.env)).all (λx=>x.1.isSome)
  && decide (([e]:L Qj).length+([]:L Zu).length+(if ([]:L Zu).isEmpty then 0 else 1)<30))=Z
 line:(apos.endLine==cpos.line)=Z
 trees:backTo cpos (starEach [e] X.env)=[(Y7,Qb e X.env)]
def IsD(H:Hp)(a:Y8):Prop:=(∃kvs,Rd H a (.dK kvs))\/∃kvs,Rd H a (.dT kvs)
def isD_at(I:Inv X c g H s)(d:IsD H a):
  s.TypeIs (.ref a) "dict"/\(∀b,Value.ref a=.ref b->∃ob,s.heap.get? b=Y ob/\ob.dict=B)/\(a==Qg)=false:=by
 rcases d with⟨kvs,e⟩|⟨kvs,e⟩
 ·obtain⟨_,hd,vs,_,f⟩:=qvk I.hok e;refine⟨f.typeIs,λb q=>?_,hd⟩;cases q;obtain⟨ob,_,_,h1,h2,_⟩:=f;exact⟨ob,h1,h2.2.1⟩
 ·obtain⟨_,hd,xs,_,f⟩:=qkq I.hok e;refine⟨f.typeIs,λb q=>?_,hd⟩;cases q;obtain⟨ob,_,_,h1,h2,_⟩:=f;exact⟨ob,h1,h2.2.1⟩
section
def d_get1(n:A.units+1<cLine)(I:Inv X pins σ H s)(g:DGet H a y o)(m:RelV y u)(h:∀j s',Inv X pins σ H s'->RelV (o.getD .non) j->Q j s'):
  wpAny (model X.prog X.w) A (call (.builtin "dict.get") [.ref a,u]) Q E s:=by
 rcases g with⟨kvs,k,e,i,l⟩|⟨kvs,k,b,e,i,p,l⟩
 ·subst i;obtain⟨z,hd,vs,c,f⟩:=qvk I.hok e;refine call_meetsIn PySem.F.slot_dict_get f.typeIs PySem.F.entry_dict_get (PySem.F.args_dict_get_2 _ _) (meets_dict_get (mixKind X.prog X.w) a (qj9 m) hd) ⟨_,f.mapOf,h _ _ (I.tok _) ?_⟩;rw[l];exact(c.val k).getD rfl
 ·subst i;cases (m);obtain⟨z,hd,xs,c,f⟩:=qkq I.hok e;refine call_meetsIn PySem.F.slot_dict_get f.typeIs PySem.F.entry_dict_get (PySem.F.args_dict_get_2 _ _) (meetsH_dict_get (tupleKind (mixKind X.prog X.w)) a b hd) ⟨Q8 n,k,xs,qq1 I.hok p,f,h _ _ (I.tok _) ?_⟩;rw[l];exact(c.val k).getD rfl
end
noncomputable def tDGet1(td ty:TE):TE:=λσ H Q=>td σ H λx H1=>∃a,x=.ref a/\IsD H1 a/\ty σ H1 λy H2=>∃o,DGet H2 a y o/\Q (o.getD .non) H2
section
def qgd(p:X.A.units+1<cLine)(q:PE X o td)(r:PE X e ty)(m:M1 X o "get" apos e cpos):PE X (.Call (.Attribute o "get" apos) [e] [] cpos) (tDGet1 td ty):=by
 intro pins s σ H Q I h;refine wpAny_Call_method m.base m.few m.line PySem.F.plainAttrs_dict PySem.F.slot_dict_get PySem.F.type_dict_get (thn (q pins s σ H _ I h) λu i ⟨x,H1,c,k,a,ex,d,n⟩=>?_);subst ex;obtain rfl:u=Value.ref a:=k;obtain⟨t1,t2,_⟩:=isD_at c d;refine⟨t1,t2,?_⟩;rw[m.trees];refine Calls.callWith_builtin rfl (Calls.evalArgs_plain (Calls.spliced_cons (thn (r pins i σ H1 _ c n) λD A ⟨y,H2,v,j,C,g,l⟩=>Calls.spliced_nil ?_)));exact d_get1 p v g j λw z t b=>⟨_,H2,t,b,l⟩
end
section
def qhv(I:Inv X pins σ H s)(e:Rd H a (.dK kvs))(h:∀p s',H p=B->Inv X pins σ (upd H p (.dK kvs)) s'->Q (.ref p) s'):wpAny (model X.prog X.w) A (call (.type "dict") [.ref a]) Q E s:=by
 obtain⟨z,hd,vs,c,g⟩:=qvk I.hok e;refine kt_call_dict hd g (by rw[<- c.length]; exact z) λh' d hs=>?_;refine h _ _ (I.hok.fresh (Qqj _)) (I.laid (λb q f=>?_) (Qqj _) (dk_new z (beq_eq_false_iff_ne.mpr (Ne.symm (Qqr I.big))) c d));exact(hs.2 b (Qqr (Qqb f))).trans (Qqz _ f)
end
section
end
end L2
end
section
namespace M
open PySem (Str Operator CmpOp)
inductive D where
 |non|bl (b:Yc)|int (i:J)|str (s:Y6)|tup (ds:L D)|lst (ds:L D)|loc (l:Y1)|fup (ks:L J)
 deriving Inhabited
inductive Yb where
 |lst (w:Yc) (ds:L D)
 |dic (w:Yc) (kvs:L (D×D))
 |obj (C:Y1) (fs:L (Y6×D))
 |tdc (w:Yc) (kvs:L (L J×D))
 deriving Inhabited
abbrev Y2:=L Yb
abbrev Sl:=L (Y4 D)
noncomputable def lim:Nat:=16777216
inductive Ty where
 |non|bl|int|str|tup|lst
 deriving DecidableEq
noncomputable def Ty.name:Ty->String
 |.non=>"NoneType"
 |.bl=>"bool"
 |.int=>"int"
 |.str=>"str"
 |.tup=>"tuple"
 |.lst=>"list"
inductive Bq where
 |len|min|tuple|list|all|sorted|any|dict
inductive Mt where
 |append|extend|index|insert
inductive T where
 |var (i:Y1)
 |tup (is:L Y1)
noncomputable def T.slots:T->L Y1
 |.var i=>[i]
 |.tup is=>is
inductive E where
 |var (i:Y1)
 |lit (d:D)
 |glo (x:Y6) (d:D)
 |bin (op:Zm) (a b:E)
 |neg (a:E)
 |not (a:E)
 |cmp (op:CmpOp) (a b:E)
 |cmp2 (op op':CmpOp) (a b c:E)
 |and (a b:E)
 |or (a b:E)
 |ite (c a b:E)
 |tup (es:L E)
 |lst (es:L E)
 |idx (a b:E)
 |sli (a:E) (lo hi:Y4 E)
 |call (f:Y1) (es:L E)
 |bcall (f:Bq) (es:L E)
 |isi (a:E) (ts:L Ty) (many:Yc)
 |meth (a:E) (m:Mt) (es:L E)
 |gc (a:E)
 |rng1 (a:E)
 |rng2 (a b:E)
 |zip (a b:E)
 |enu (a:E)
 |rev (a:E)
 |dic (es:L E)
 |didx (a b:E)
 |din (neg:Yc) (a b:E)
 |dgt (a b:E)
 |gidx (x:Y6) (ks:L Y6) (ds:L D) (b:E)
 |gin (neg:Yc) (x:Y6) (ks:L Y6) (b:E)
 |lenset (a:E)
 |comp (t:T) (it:E) (test:Y4 E) (elt:E) (src:L (Y4 Y1))
 |tsli (a:E) (lo hi:Y4 E)
 |unt (a:E)
 |tdn
 |tdi (neg:Yc) (a b:E)
 |attr (C:Y1) (a:E) (f:Y6)
 |mcall (C f:Y1) (m:Y6) (a:E) (es:L E)
 |new (C f:Y1) (es:L E)
inductive S where
 |set (t:T) (e:E)
 |dset (a i e:E)
 |tds (a i e:E)
 |setA (C:Y1) (a:E) (f:Y6) (e:E)
 |ford (t:T) (a:E) (body:L S)
 |bad
 |expr (e:E)
 |ret (e:E)
 |ite (c:E) (a b:L S)
 |forr (t:T) (it:E) (body:L S)
structure Fn where
 np:Y1
 nl:Y1
 body:L S
mutual
noncomputable def eqT:D->D->Yc
 |.non,.non=>Z
 |.bl a,.bl b=>a==b
 |.bl a,.int j=>(if a then 1 else 0)==j
 |.int i,.bl b=>i==(if b then 1 else 0)
 |.int i,.int j=>i==j
 |.str a,.str b=>a==b
 |.tup a,.tup b=>eqTs a b
 |_,_=>Y7
noncomputable def eqTs:L D->L D->Yc
 |[],[]=>Z
 |a::as,b::bs=>eqT a b&&eqTs as bs
 |_,_=>Y7
end
noncomputable def isI:D->Yc
 |.int _=>Z
 |_=>Y7
noncomputable def flat(_:Y1):D->Yc
 |.int _=>Z
 |.str _=>Z
 |.tup ds=>ds.all isI
 |_=>Y7
noncomputable abbrev flats(n:Y1)(ds:L D):Bool:=ds.all (flat n)
noncomputable def mulOk(i j:J):Bool:=(decide (-(2 ^ 64)<i)&&decide (i<2 ^ 64))||(decide (-(2 ^ 64)<j)&&decide (j<2 ^ 64))
noncomputable def listAt(st:Y2)(l:Y1):Y4 (L D):=match st[l]? with|some (.lst _ ds)=>Y ds|_=>B
noncomputable def wlistAt(st:Y2)(l:Y1):Y4 (L D):=match st[l]? with|some (.lst Z ds)=>Y ds|_=>B
noncomputable def seqAt(st:Y2):D->Y4 (L D)
 |.loc l=>listAt st l
 |.lst ds=>Y ds
 |_=>B
mutual
/-- no place of the store within -/
noncomputable def noLoc:D->Yc
 |.loc _=>Y7
 |.tup ds=>noLocs ds
 |.lst ds=>noLocs ds
 |_=>Z
noncomputable def noLocs:L D->Yc
 |[]=>Z
 |d::ds=>noLoc d&&noLocs ds
end
mutual
/-- every place of the store within is one of the first n -/
noncomputable def lt(n:Y1):D->Yc
 |.loc l=>Nat.blt l n
 |.tup ds=>lts n ds
 |.lst ds=>lts n ds
 |_=>Z
noncomputable def lts(n:Y1):L D->Yc
 |[]=>Z
 |d::ds=>lt n d&&lts n ds
end
noncomputable def ltC(n:Y1):Yb->Yc
 |.lst _ ds=>lts n ds
 |.dic _ kvs=>kvs.all λp=>lt n p.2
 |.obj _ fs=>fs.all λp=>lt n p.2
 |.tdc _ kvs=>kvs.all λp=>lt n p.2
noncomputable def gcX(n:Y1)(p:D×Y2):D×Y2:=
 if noLoc p.1 then(p.1,p.2.take n) else match p.1 with
  |.loc l=>if n<=l then(match p.2[l]? with
   |some (.lst Z ds)=>if noLocs ds then(.lst ds,p.2.take n) else p
   |_=>p) else p
  |_=>p
open Classical in
noncomputable def gcD(st:Y2)(p:D×Y2):D×Y2:=
 if (p.2.take st.length).all (ltC st.length)=Z then gcX st.length p else if p.2.take st.length=st then gcX st.length p else p
noncomputable def dicAt(st:Y2)(l:Y1):Y4 (L (D×D)):=match st[l]? with|some (.dic _ kvs)=>Y kvs|_=>B
noncomputable def wdicAt(st:Y2)(l:Y1):Y4 (L (D×D)):=match st[l]? with|some (.dic Z kvs)=>Y kvs|_=>B
noncomputable def tdcAt(st:Y2)(l:Y1):Y4 (L (L J×D)):=match st[l]? with|some (.tdc _ kvs)=>Y kvs|_=>B
noncomputable def wtdcAt(st:Y2)(l:Y1):Y4 (L (L J×D)):=match st[l]? with|some (.tdc Z kvs)=>Y kvs|_=>B
noncomputable def tget(kvs:L (L J×D))(k:L J):Y4 D:=(kvs.find? λp=>decide (p.1=k)).map (·.2)
noncomputable def tput(kvs:L (L J×D))(k:L J)(v:D):L (L J×D):=if kvs.any λp=>decide (p.1=k) then kvs.map λp=>if p.1=k then(p.1,v) else p else kvs++[(k,v)]
noncomputable def objAt(st:Y2)(C:Y1):D->Y4 (L (Y6×D))
 |.loc l=>match st[l]? with|some (.obj C' fs)=>if C'=C then Y fs else B|_=>B
 |_=>B
noncomputable def putA(f:Y6)(v:D):L (Y6×D)->L (Y6×D)
 |[]=>[(f,v)]
 |(g,x)::r=>if g=f then(g,v)::r else(g,x)::putA f v r
noncomputable def keysOf(kvs:L (D×D)):L D:=kvs.map (·.1)
noncomputable def dkeys(st:Y2):D->Y4 (L D)
 |.loc l=>(dicAt st l).map keysOf
 |_=>B
noncomputable def isKey:D->Yc
 |.int _=>Z
 |.str _=>Z
 |_=>Y7
noncomputable def dget(kvs:L (D×D))(k:D):Y4 D:=(kvs.find? λp=>eqT p.1 k).map (·.2)
noncomputable def dput(kvs:L (D×D))(k v:D):L (D×D):=if kvs.any λp=>eqT p.1 k then kvs.map (λp=>if eqT p.1 k then(p.1,v) else p) else kvs++[(k,v)]
noncomputable def pairUp:L D->Y4 (L (D×D))
 |[]=>Y []
 |k::v::r=>if isKey k then(pairUp r).map ((k,v)::·) else B
 |_=>B
noncomputable def dall(kvs:L (D×D)):L (D×D):=kvs.foldl (λacc p=>dput acc p.1 p.2) []
noncomputable def alloc(st:Y2)(c:Yb):D×Y2:=(.loc st.length,st++[c])
noncomputable def binop(st:Y2):Zm->D->D->Y4 (D×Y2)
 |.Add,.int i,.int j=>Y (.int (i+j),st)
 |.Add,.tup a,.tup b=>if a.isEmpty||decide (lim<a.length+b.length) then B else Y (.tup (a++b),st)
 |.Add,a,b=>(seqAt st a).bind λx=>(seqAt st b).bind λy=>if lim<x.length+y.length then B else Y (alloc st (.lst Z (x++y)))
 |.Sub,.int i,.int j=>Y (.int (i - j),st)
 |.Mult,.int i,.int j=>if mulOk i j then Y (.int (i*j),st) else B
 |.Mult,.tup a,.int k=>if decide (k < -(2 ^ 62))||decide (2 ^ 62<=k)||decide (lim<a.length*k.toNat) then B else Y (.tup (List.replicate k.toNat a).flatten,st)
 |.FloorDiv,.int i,.int j=>if 0<j/\j<2 ^ 64 then Y (.int (i / j),st) else B
 |.Mod,.int i,.int j=>if 0<j then Y (.int (i % j),st) else B
 |.Pow,.int i,.int j=>if 0<=j/\j<=1000/\i.natAbs<2 ^ 64 then Y (.int (i ^ j.toNat),st) else B
 |_,_,_=>B
noncomputable def addK(S:L (L J))(k:L J):L (L J):=if k∈S then S else S++[k]
noncomputable def distinct(ks:L (L J)):L (L J):=ks.foldl addK []
noncomputable def keyD:D->Y4 (L J)
 |.tup ds=>ds.mapM λd=>match d with|.int i=>Y i|_=>B
 |_=>B
noncomputable def qk8:D->Y4 D
 |.tup ds=>(ds.mapM keyD).bind λks=>if ds.length<=16 then Y (.int (distinct ks).length) else B
 |_=>B
noncomputable def ixN(n:Y1)(i:J):Y4 Nat:=if 0<=i then(if i<n then Y i.toNat else B) else if -(n:J)<=i then Y (i+n).toNat else B
noncomputable def atI{α:Type}(xs:L α)(i:J):Y4 α:=(ixN xs.length i).bind λj=>xs[j]?
noncomputable def idxD(st:Y2):D->D->Y4 D
 |.tup ds,.int i=>atI ds i
 |d,.int i=>(seqAt st d).bind λds=>atI ds i
 |_,_=>B
noncomputable def cutIx(n d:Y1):Y4 J->Y1
 |none=>d
 |some v=>if v<0 then(v+(n:J)).toNat else min v.toNat n
noncomputable def cut{α:Type}(xs:L α)(lo hi:Y4 J):L α:=(xs.drop (cutIx xs.length 0 lo)).take (cutIx xs.length xs.length hi - cutIx xs.length 0 lo)
noncomputable def sliD(st:Y2):D->Y4 J->Y4 J->Y4 (D×Y2)
 |.tup ds,lo,hi=>Y (.tup (cut ds lo hi),st)
 |d,lo,hi=>(seqAt st d).map λds=>alloc st (.lst Z (cut ds lo hi))
noncomputable def inD(st:Y2)(x:D):D->Y4 Yc
 |.tup ds=>if flat 9 x&&flats 9 ds then Y (ds.any λy=>eqT y x) else B
 |d=>(seqAt st d).bind λds=>if flat 9 x&&flats 9 ds then Y (ds.any λy=>eqT y x) else B
noncomputable def isNon:D->Yc
 |.non=>Z
 |_=>Y7
noncomputable def eqD(_:Y2)(x y:D):Y4 Bool:=match x,y with
 |.bl a,.bl b=>Y (a==b)
 |.non,.non=>Y Z
 |x,y=>if flat 9 x&&(flat 9 y||isNon y) then Y (eqT x y) else B
noncomputable def neD(_:Y2):D->D->Y4 Yc
 |.int i,.int j=>Y (!(i==j))
 |.str i,.str j=>Y (!(i==j))
 |_,_=>B
noncomputable def cmpD(st:Y2):CmpOp->D->D->Y4 Yc
 |.Lt,.int i,.int j=>Y (decide (i<j))
 |.LtE,.int i,.int j=>Y (decide (i<=j))
 |.Gt,.int i,.int j=>Y (decide (j<i))
 |.GtE,.int i,.int j=>Y (decide (j<=i))
 |.Eq,x,y=>eqD st x y
 |.NotEq,x,y=>neD st x y
 |.Is,x,.non=>Y (isNon x)
 |.IsNot,x,.non=>Y (!isNon x)
 |.In,x,y=>inD st x y
 |.NotIn,x,y=>(inD st x y).map (!·)
 |_,_,_=>B
noncomputable def tyName(st:Y2):D->Y4 Ty
 |.non=>Y .non
 |.bl _=>Y .bl
 |.int _=>Y .int
 |.str _=>Y .str
 |.tup _=>Y .tup
 |d=>(seqAt st d).map λ_=>.lst
noncomputable def tyIs(t n:Ty):Bool:=t==n||(t==.int&&n==.bl)
noncomputable def truth(st:Y2):D->Y4 Yc
 |.non=>Y Y7
 |.bl b=>Y b
 |.int i=>Y (i != 0)
 |.tup ds=>Y (!ds.isEmpty)
 |d=>(seqAt st d).map λds=>!ds.isEmpty
noncomputable def insInt(x:J):L J->L J
 |[]=>[x]
 |y::r=>if x<=y then x::y::r else y::insInt x r
noncomputable def sortInt:L J->L J
 |[]=>[]
 |x::r=>insInt x (sortInt r)
noncomputable def asInts:L D->Y4 (L J)
 |[]=>Y []
 |.int i::r=>(asInts r).map (i::·)
 |_=>B
noncomputable def asBools:L D->Y4 (L Yc)
 |[]=>Y []
 |.bl i::r=>(asBools r).map (i::·)
 |_=>B
noncomputable def bLen(st:Y2):L D->Y4 (D×Y2)
 |[.tup ds]=>Y (.int ds.length,st)
 |[d]=>(seqAt st d).map λds=>(.int ds.length,st)
 |_=>B
noncomputable def bMin(st:Y2):L D->Y4 (D×Y2)
 |[.int i,.int j]=>Y (.int (if j<i then j else i),st)
 |_=>B
noncomputable def bTuple(st:Y2):L D->Y4 (D×Y2)
 |[.tup ds]=>Y (.tup ds,st)
 |[d]=>(seqAt st d).map λds=>(.tup ds,st)
 |_=>B
noncomputable def bList(st:Y2):L D->Y4 (D×Y2)
 |[.tup ds]=>Y (alloc st (.lst Z ds))
 |[d]=>((seqAt st d).or (dkeys st d)).map λds=>alloc st (.lst Z ds)
 |_=>B
noncomputable def bAll(st:Y2):L D->Y4 (D×Y2)
 |[d]=>(seqAt st d).bind λds=>(asBools ds).map λbs=>(.bl (bs.all id),st)
 |_=>B
noncomputable def bAny(st:Y2):L D->Y4 (D×Y2)
 |[d]=>(seqAt st d).bind λds=>(asBools ds).map λbs=>(.bl (bs.any id),st)
 |_=>B
noncomputable def bSorted(st:Y2):L D->Y4 (D×Y2)
 |[d]=>((seqAt st d).or (dkeys st d)).bind λds=>(if 64<=ds.length then B else asInts ds).map λns=>alloc st (.lst Z ((sortInt ns).map .int))
 |_=>B
noncomputable def spotK:L J->Yc
 |[x,y,z]=>decide (0<=x)&&decide (0<=y)&&decide (0<=z)&&((decide (x<24)&&decide (y<3)&&decide (z<3))||(decide (x<3)&&decide (y<24)&&decide (z<3))||(decide (x<3)&&decide (y<3)&&decide (z<13))||(decide (x<6)&&decide (y<6)&&decide (z<6)))
 |_=>Y7
noncomputable def bDict(st:Y2):L D->Y4 (D×Y2)
 |[.loc l]=>match st[l]? with
  |some (.dic _ kvs)=>Y (alloc st (.dic Z kvs))
  |some (.tdc _ kvs)=>if kvs.all λp=>spotK p.1 then Y (alloc st (.tdc Z kvs)) else B
  |_=>B
 |_=>B
noncomputable def bfun(st:Y2):Bq->L D->Y4 (D×Y2)
 |.len=>bLen st
 |.min=>bMin st
 |.tuple=>bTuple st
 |.list=>bList st
 |.all=>bAll st
 |.sorted=>bSorted st
 |.any=>bAny st
 |.dict=>bDict st
noncomputable def mAppend(st:Y2):D->L D->Y4 (D×Y2)
 |.loc l,[d]=>(wlistAt st l).bind λds=>if ds.length<lim then Y (.non,st.set l (.lst Z (ds++[d]))) else B
 |_,_=>B
noncomputable def mExtend(st:Y2):D->L D->Y4 (D×Y2)
 |.loc l,[d]=>(wlistAt st l).bind λds=>(match d with|.tup es=>Y es|d=>seqAt st d).bind λes=>if ds.length+es.length<=lim then Y (.non,st.set l (.lst Z (ds++es))) else B
 |_,_=>B
noncomputable def mIndex(st:Y2):D->L D->Y4 (D×Y2)
 |d,[x]=>(seqAt st d).bind λds=>if flat 9 x&&flats 9 ds then(ds.findIdx? λy=>eqT y x).map λ(j:Y1)=>(.int (j:J),st) else B
 |_,_=>B
noncomputable def mInsert(st:Y2):D->L D->Y4 (D×Y2)
 |.loc l,[.int i,d]=>(wlistAt st l).bind λds=>if 0<=i/\i<=ds.length/\ds.length<lim then Y (.non,st.set l (.lst Z (ds.take i.toNat++d::ds.drop i.toNat))) else B
 |_,_=>B
noncomputable def mfun(st:Y2):Mt->D->L D->Y4 (D×Y2)
 |.append=>mAppend st
 |.extend=>mExtend st
 |.index=>mIndex st
 |.insert=>mInsert st
noncomputable def Mt.ofList(_:Mt):Bool:=Z
noncomputable def mty(st:Y2)(m:Mt):D->Yc
 |.str _=>!m.ofList
 |d=>m.ofList&&(seqAt st d).isSome
inductive Out where
 |nx (τ:Sl)
 |rt (d:D)
 |bk (τ:Sl)
 |ct (τ:Sl)
structure R where
 ev:Sl->Y2->E->Y4 (D×Y2)
 tst:Sl->Y2->E->Y4 (Yc×Y2)
 ex:Sl->Y2->L S->Y4 (Out×Y2)
 call:Y1->L D->Y2->Y4 (D×Y2)
noncomputable def evs(f:Y2->E->Y4 (D×Y2)):L E->Y2->Y4 (L D×Y2)
 |[],st=>Y ([],st)
 |e::es,st=>(f st e).bind λp=>(evs f es p.2).bind λq=>Y (p.1::q.1,q.2)
noncomputable def setIs:L Y1->L D->Sl->Y4 Sl
 |[],[],τ=>Y τ
 |i::is,d::ds,τ=>if i<τ.length then setIs is ds (τ.set i (Y d)) else B
 |_,_,_=>B
noncomputable def setT:T->D->Sl->Y4 Sl
 |.var i,d,τ=>if i<τ.length then Y (τ.set i (Y d)) else B
 |.tup is,.tup ds,τ=>setIs is ds τ
 |_,_,_=>B
inductive Src where
 |tup (ds:L D)
 |lst (d:D)
 |rng (lo:J) (n:Y1)
 |zip (a b:D)
 |enu (a:D)
 |rev (ds:L D)
noncomputable def rowAt(st:Y2):D->Y4 (L D)
 |.tup ds=>Y ds
 |d=>seqAt st d
noncomputable def pairAt(xs ys:L D)(i:Y1):Y4 D:=match xs[i]?,ys[i]? with
 |some x,Y y=>Y (.tup [x,y])
 |_,_=>B
noncomputable def Src.at(st:Y2)(i:Y1):Src->Y4 (Y4 D)
 |.tup ds=>Y ds[i]?
 |.lst d=>(seqAt st d).map λds=>ds[i]?
 |.rng lo n=>Y (if i<n then Y (.int (lo+i)) else B)
 |.zip a b=>(rowAt st a).bind λxs=>(rowAt st b).map λys=>pairAt xs ys i
 |.enu a=>(rowAt st a).map λxs=>xs[i]?.map λx=>.tup [.int i,x]
 |.rev ds=>Y (if i<ds.length then ds[ds.length - 1 - i]? else B)
noncomputable def Src.size(st:Y2):Src->Y1
 |.tup ds=>ds.length
 |.lst d=>((seqAt st d).getD []).length
 |.rng _ n=>n
 |.zip a b=>min ((rowAt st a).getD []).length ((rowAt st b).getD []).length
 |.enu a=>((rowAt st a).getD []).length
 |.rev ds=>ds.length
noncomputable def big(i:J):Bool:=decide (i < -(2 ^ 62))||decide (2 ^ 62<=i)
noncomputable def src(r:R)(τ:Sl)(st:Y2):E->Y4 (Src×Y2)
 |.rng1 a=>(r.ev τ st a).bind λp=>match p.1 with
  |.int n=>if big n then B else Y (.rng 0 n.toNat,p.2)
  |_=>B
 |.rng2 a b=>(r.ev τ st a).bind λp=>(r.ev τ p.2 b).bind λq=>match p.1,q.1 with
  |.int i,.int j=>if big i||big j then B else Y (.rng i (j - i).toNat,q.2)
  |_,_=>B
 |.zip a b=>(r.ev τ st a).bind λp=>(r.ev τ p.2 b).bind λq=>(rowAt q.2 p.1).bind λ_=>(rowAt q.2 q.1).map λ_=>(.zip p.1 q.1,q.2)
 |.enu a=>(r.ev τ st a).bind λp=>(rowAt p.2 p.1).map λ_=>(.enu p.1,p.2)
 |.rev a=>(r.ev τ st a).bind λp=>match p.1 with
  |.tup ds=>Y (.rev ds,p.2)
  |_=>B
 |e=>(r.ev τ st e).bind λp=>match p.1 with
  |.tup ds=>Y (.tup ds,p.2)
  |d=>(seqAt p.2 d).map λ_=>(.lst d,p.2)
noncomputable def loop(it:Src)(f:Sl->Y2->D->Y4 (Out×Y2)):Y1->Y1->Sl->Y2->Y4 (Out×Y2)
 |0,_,_,_=>B
 |k+1,i,τ,st=>(it.at st i).bind λo=>match o with
  |none=>Y (.nx τ,st)
  |some d=>(f τ st d).bind λp=>match p.1 with
   |.nx τ'=>loop it f k (i+1) τ' p.2
   |.ct τ'=>loop it f k (i+1) τ' p.2
   |.bk τ'=>Y (.nx τ',p.2)
   |.rt v=>Y (.rt v,p.2)
noncomputable def turnC(r:R)(t:T)(test:Y4 E)(elt:E)(τ:Sl)(st:Y2)(d:D):Y4 (Y4 D×Sl×Y2):=
 (setT t d τ).bind λτ'=>match test with
  |none=>(r.ev τ' st elt).map λp=>(Y p.1,τ',p.2)
  |some c=>(r.tst τ' st c).bind λb=>if b.1 then(r.ev τ' b.2 elt).map λp=>(Y p.1,τ',p.2) else Y (B,τ',b.2)
noncomputable def loopC(it:Src)(f:Sl->Y2->D->Y4 (Y4 D×Sl×Y2)):Y1->Y1->L D->Sl->Y2->Y4 (L D×Y2)
 |0,_,_,_,_=>B
 |k+1,i,acc,τ,st=>(it.at st i).bind λo=>match o with
  |none=>if lim<acc.length then B else Y (acc,st)
  |some d=>if lim<=acc.length then B else(f τ st d).bind λp=>loopC it f k (i+1) (match p.1 with|some x=>acc++[x]|none=>acc) p.2.1 p.2.2
noncomputable def inner(src:L (Y4 Y1))(τ:Sl):Sl:=src.map λo=>o.bind λi=>(τ[i]?).bind id
noncomputable def part(r:R)(τ:Sl)(st:Y2):Y4 E->Y4 (Y4 J×Y2)
 |none=>Y (B,st)
 |some e=>(r.ev τ st e).bind λp=>match p.1 with
  |.int i=>Y (Y i,p.2)
  |_=>B
noncomputable def dinR(r:R)(τ:Sl)(st:Y2)(neg:Yc)(a b:E):Y4 (D×Y2):=
 (r.ev τ st a).bind λp=>(r.ev τ p.2 b).bind λq=>match q.1 with
  |.loc l=>(dicAt q.2 l).bind λkvs=>if isKey p.1 then Y (.bl ((dget kvs p.1).isSome != neg),q.2) else B
  |_=>B
noncomputable def tdiR(r:R)(τ:Sl)(st:Y2)(neg:Yc)(a b:E):Y4 (D×Y2):=
 (r.ev τ st a).bind λp=>(r.ev τ p.2 b).bind λq=>match p.1,q.1 with
  |.fup k,.loc l=>(tdcAt q.2 l).map λkvs=>(.bl ((tget kvs k).isSome != neg),q.2)
  |_,_=>B
noncomputable def ginR(r:R)(τ:Sl)(st:Y2)(neg:Yc)(ks:L Y6)(b:E):Y4 (D×Y2):=
 (r.ev τ st b).bind λp=>match p.1 with
  |.str z=>Y (.bl (ks.contains z != neg),p.2)
  |_=>B
noncomputable def stepEv(r:R)(τ:Sl)(st:Y2):E->Y4 (D×Y2)
 |.var i=>match τ[i]? with
  |some (Y d)=>Y (d,st)
  |_=>B
 |.lit d=>Y (d,st)
 |.glo _ d=>Y (d,st)
 |.bin op a b=>(r.ev τ st a).bind λp=>(r.ev τ p.2 b).bind λq=>binop q.2 op p.1 q.1
 |.neg a=>(r.ev τ st a).bind λp=>match p.1 with
  |.int i=>Y (.int (-i),p.2)
  |_=>B
 |.not a=>(r.ev τ st a).bind λp=>match p.1 with
  |.bl b=>Y (.bl (!b),p.2)
  |_=>B
 |.cmp op a b=>(r.ev τ st a).bind λp=>(r.ev τ p.2 b).bind λq=>(cmpD q.2 op p.1 q.1).map λk=>(.bl k,q.2)
 |.cmp2 op op' a b c=>(r.ev τ st a).bind λp=>(r.ev τ p.2 b).bind λq=>(cmpD q.2 op p.1 q.1).bind λk=>
   if k then(r.ev τ q.2 c).bind λu=>(cmpD u.2 op' q.1 u.1).map λk'=>(.bl k',u.2) else Y (.bl Y7,q.2)
 |.and a b=>(r.ev τ st a).bind λp=>match p.1 with
  |.bl Z=>r.ev τ p.2 b
  |.bl Y7=>Y (.bl Y7,p.2)
  |_=>B
 |.or a b=>(r.ev τ st a).bind λp=>match p.1 with
  |.bl Y7=>r.ev τ p.2 b
  |.bl Z=>Y (.bl Z,p.2)
  |_=>B
 |.ite c a b=>(r.tst τ st c).bind λp=>if p.1 then r.ev τ p.2 a else r.ev τ p.2 b
 |.tup es=>(evs (r.ev τ) es st).bind λp=>if lim<p.1.length then B else Y (.tup p.1,p.2)
 |.lst es=>(evs (r.ev τ) es st).bind λp=>if lim<p.1.length then B else Y (alloc p.2 (.lst Z p.1))
 |.idx a b=>(r.ev τ st a).bind λp=>(r.ev τ p.2 b).bind λq=>(idxD q.2 p.1 q.1).map λd=>(d,q.2)
 |.sli a lo hi=>(r.ev τ st a).bind λp=>(part r τ p.2 lo).bind λl=>(part r τ l.2 hi).bind λh=>sliD h.2 p.1 l.1 h.1
 |.call f es=>(evs (r.ev τ) es st).bind λp=>r.call f p.1 p.2
 |.bcall f es=>(evs (r.ev τ) es st).bind λp=>bfun p.2 f p.1
 |.isi a ts _=>(r.ev τ st a).bind λp=>(tyName p.2 p.1).map λn=>(.bl (ts.any λt=>tyIs t n),p.2)
 |.meth a m es=>(r.ev τ st a).bind λp=>if mty p.2 m p.1 then(evs (r.ev τ) es p.2).bind λq=>mfun q.2 m p.1 q.1 else B
 |.gc a=>(r.ev τ st a).map λp=>gcD st p
 |.rng1 _=>B
 |.rng2 _ _=>B
 |.zip _ _=>B
 |.enu _=>B
 |.rev _=>B
 |.dic es=>(evs (r.ev τ) es (st++[.dic Z []])).bind λp=>match wdicAt p.2 st.length with
  |some []=>(pairUp p.1).bind λkvs=>if kvs.length<=15 then Y (.loc st.length,p.2.set st.length (.dic Z (dall kvs))) else B
  |_=>B
 |.didx a b=>(r.ev τ st a).bind λp=>(r.ev τ p.2 b).bind λq=>match p.1 with
  |.loc l=>(dicAt q.2 l).bind λkvs=>if isKey q.1 then(dget kvs q.1).map λd=>(d,q.2) else B
  |_=>B
 |.din neg a b=>dinR r τ st neg a b
 |.dgt a b=>(r.ev τ st a).bind λp=>match p.1 with
  |.loc l=>(dicAt p.2 l).bind λ_=>(r.ev τ p.2 b).bind λq=>(dicAt q.2 l).bind λkvs=>if isKey q.1 then Y ((dget kvs q.1).getD .non,q.2) else B
  |_=>B
 |.gidx _ ks ds b=>(r.ev τ st b).bind λp=>match p.1 with
  |.str z=>((ks.zip ds).find? λq=>q.1==z).map λq=>(q.2,p.2)
  |_=>B
 |.gin neg _ ks b=>ginR r τ st neg ks b
 |.lenset a=>(r.ev τ st a).bind λp=>(qk8 p.1).map λd=>(d,p.2)
 |.comp t it test elt sr=>(src r τ st it).bind λp=>
   (loopC p.1 (turnC r t test elt) (p.1.size p.2+1) 0 [] (inner sr τ) p.2).map λq=>alloc q.2 (.lst Z q.1)
 |.tsli a lo hi=>(r.ev τ st a).bind λp=>(part r τ p.2 lo).bind λl=>(part r τ l.2 hi).bind λh=>match p.1 with
  |.tup ds=>(asInts (cut ds l.1 h.1)).bind λks=>if ks.length<ds.length then Y (.fup ks,h.2) else B
  |_=>B
 |.unt a=>(r.ev τ st a).bind λp=>match p.1 with
  |.fup ks=>Y (.tup (ks.map .int),p.2)
  |_=>B
 |.tdn=>Y (alloc st (.tdc Z []))
 |.tdi neg a b=>tdiR r τ st neg a b
 |.attr C a f=>(r.ev τ st a).bind λp=>(objAt p.2 C p.1).bind λfs=>(fs.lookup f).map λd=>(d,p.2)
 |.mcall C f m a es=>(r.ev τ st a).bind λp=>(objAt p.2 C p.1).bind λfs=>if (fs.lookup m).isSome then B else(evs (r.ev τ) es p.2).bind λq=>r.call f (p.1::q.1) q.2
 |.new C f es=>(evs (r.ev τ) es st).bind λp=>(r.call f (.loc p.2.length::p.1) (p.2++[.obj C []])).bind λq=>if isNon q.1 then Y (.loc p.2.length,q.2) else B
noncomputable def stepTst(r:R)(τ:Sl)(st:Y2):E->Y4 (Yc×Y2)
 |.not a=>(r.tst τ st a).map λp=>(!p.1,p.2)
 |.and a b=>(r.tst τ st a).bind λp=>if p.1 then r.tst τ p.2 b else Y (Y7,p.2)
 |.or a b=>(r.tst τ st a).bind λp=>if p.1 then Y (Z,p.2) else r.tst τ p.2 b
 |.ite _ _ _=>B
 |.din neg a b=>(dinR r τ st neg a b).bind λp=>(truth p.2 p.1).map λk=>(k,p.2)
 |.tdi neg a b=>(tdiR r τ st neg a b).bind λp=>(truth p.2 p.1).map λk=>(k,p.2)
 |.gin neg _ ks b=>(ginR r τ st neg ks b).bind λp=>(truth p.2 p.1).map λk=>(k,p.2)
 |.cmp op a b=>(r.ev τ st a).bind λp=>(r.ev τ p.2 b).bind λq=>(cmpD q.2 op p.1 q.1).map λk=>(k,q.2)
 |.cmp2 op op' a b c=>(r.ev τ st a).bind λp=>(r.ev τ p.2 b).bind λq=>(cmpD q.2 op p.1 q.1).bind λk=>
   if k then(r.ev τ q.2 c).bind λu=>(cmpD u.2 op' q.1 u.1).map λk'=>(k',u.2) else Y (Y7,q.2)
 |e=>(r.ev τ st e).bind λp=>(truth p.2 p.1).map λk=>(k,p.2)
noncomputable def stepEx(r:R)(τ:Sl)(st:Y2):S->Y4 (Out×Y2)
 |.set t e=>(r.ev τ st e).bind λp=>(setT t p.1 τ).map λτ'=>(.nx τ',p.2)
 |.dset a i e=>(r.ev τ st e).bind λp=>(r.ev τ p.2 a).bind λq=>(r.ev τ q.2 i).bind λu=>match q.1 with
  |.loc l=>(wdicAt u.2 l).bind λkvs=>if isKey u.1&&decide (kvs.length<lim) then Y (.nx τ,u.2.set l (.dic Z (dput kvs u.1 p.1))) else B
  |_=>B
 |.tds a i e=>(r.ev τ st e).bind λp=>(r.ev τ p.2 a).bind λq=>(r.ev τ q.2 i).bind λu=>match q.1,u.1 with
  |.loc l,.fup k=>(wtdcAt u.2 l).bind λkvs=>if kvs.length<lim then Y (.nx τ,u.2.set l (.tdc Z (tput kvs k p.1))) else B
  |_,_=>B
 |.setA C a f e=>(r.ev τ st e).bind λp=>(r.ev τ p.2 a).bind λq=>(objAt q.2 C q.1).bind λfs=>match q.1 with
  |.loc l=>if fs.length<900 then Y (.nx τ,q.2.set l (.obj C (putA f p.1 fs))) else B
  |_=>B
 |.ford t a body=>(r.ev τ st a).bind λp=>match p.1 with
  |.loc l=>(wdicAt p.2 l).bind λkvs=>(loop (.tup (keysOf kvs)) (λτ st d=>(setT t d τ).bind λτ'=>r.ex τ' st body) (kvs.length+1) 0 τ (p.2.set l (.dic Y7 kvs))).bind λq=>
   match q.2[l]? with
   |some (.dic Y7 kvs')=>Y (q.1,q.2.set l (.dic Z kvs'))
   |_=>B
  |_=>B
 |.bad=>B
 |.expr e=>(r.ev τ st e).map λp=>(.nx τ,p.2)
 |.ret e=>(r.ev τ st e).map λp=>(.rt p.1,p.2)
 |.ite c a b=>(r.tst τ st c).bind λp=>if p.1 then r.ex τ p.2 a else r.ex τ p.2 b
 |.forr t it body=>(src r τ st it).bind λp=>
   loop p.1 (λτ st d=>(setT t d τ).bind λτ'=>r.ex τ' st body) (p.1.size p.2+1) 0 τ p.2
noncomputable def exs(f:Sl->Y2->S->Y4 (Out×Y2)):L S->Sl->Y2->Y4 (Out×Y2)
 |[],τ,st=>Y (.nx τ,st)
 |s::ss,τ,st=>(f τ st s).bind λp=>match p.1 with
  |.nx τ'=>exs f ss τ' p.2
  |o=>Y (o,p.2)
noncomputable def stepCall(fns:L Fn)(r:R)(f:Y1)(ds:L D)(st:Y2):Y4 (D×Y2):=
 match fns[f]? with
 |some F=>if ds.length=F.np then(r.ex (ds.map Y++List.replicate (F.nl - ds.length) B) st F.body).bind λp=>match p.1 with
   |.rt d=>Y (d,p.2)
   |.nx _=>Y (.non,p.2)
   |_=>B
  else B
 |none=>B
noncomputable def step(c:Y1->L D->Y2->Y4 (D×Y2))(r:R):R:=⟨stepEv r,stepTst r,λτ st ss=>exs (stepEx r) ss τ st,c⟩
noncomputable def runK(c:Y1->L D->Y2->Y4 (D×Y2)):Y1->R
 |0=>⟨λ_ _ _=>B,λ_ _ _=>B,λ_ _ _=>B,c⟩
 |k+1=>step c (runK c k)
open Classical in
noncomputable def lim1{α:Type}(f:Y1->Y4 α):Y4 α:=if h:∃x,∃n,f n=Y x then Y h.choose else B
noncomputable def RL(c:Y1->L D->Y2->Y4 (D×Y2)):R:=⟨λτ st e=>lim1 λn=>(runK c n).ev τ st e,λτ st e=>lim1 λn=>(runK c n).tst τ st e,λτ st e=>lim1 λn=>(runK c n).ex τ st e,c⟩
noncomputable def callD(fns:L Fn):Y1->Y1->L D->Y2->Y4 (D×Y2)
 |0=>λ_ _ _=>B
 |d+1=>stepCall fns (RL (callD fns d))
noncomputable abbrev rn(fns:L Fn)(d n:Y1):R:=runK (callD fns d) n
noncomputable abbrev Lv(fns:L Fn)(d:Y1):R:=RL (callD fns d)
def lim1_is(h:lim1 f=Y x):∃n,f n=Y x:=by
 unfold lim1 at h
 split at h
 ·rename_i a;obtain⟨n,hn⟩:=a.choose_spec;exact⟨n,by rw[hn]; exact h⟩
 ·cases h
def runK_call(c:Y1->L D->Y2->Y4 (D×Y2)):∀n,(runK c n).call=c
 |0=>rfl
 |_+1=>rfl
end M
end
section
namespace M
open PySem (Str)
def Co{α:Type}(a:Y4 α)(b:Y1->Y4 α):Prop:=∀x,a=Y x->∃n,∀m,n<=m->b m=Y x
def Co.refl(a:Y4 α):Co a λ_=>a:=λ_ h=>⟨0,λ_ _=>h⟩
theorem Co.none(b:Y1->Y4 α):Co Option.none b:=λ_ h=>by cases h
theorem Co.bind{f:Y4 α}{c:Y1->Y4 α}{g:α->Y4 b}{g':Y1->α->Y4 b}(hf:Co f c)(i:∀a,Co (g a) λm=>g' m a):Co (f.bind g) λm=>(c m).bind (g' m):=λx h=>by
 cases e:f with
 |none=>rw[e]at h; cases h
 |some a=>
  rw[e]at h;obtain⟨n,hn⟩:=hf a e;obtain⟨k,d⟩:=i a x h;refine⟨max n k,λm j=>?_⟩;simp only;rw[hn m (by lia)];exact d m (by lia)
theorem Co.map{f:Y4 α}{b:Y1->Y4 α}(g:α->c)(hf:Co f b):Co (f.map g) λm=>(b m).map g:=λx h=>by
 cases e:f with
 |none=>rw[e]at h; cases h
 |some a=>
  rw[e]at h;obtain⟨n,hn⟩:=hf a e;refine⟨n,λm d=>?_⟩;simp only;rw[hn m d];exact h
def Co.ite[Decidable c]{a b:Y4 α}{d b':Y1->Y4 α}(e:Co a d)(hb:Co b b'):Co (if c then a else b) λm=>if c then d m else b' m:=by
 by_cases h:c
 ·simp only[Z8 h]; exact e
 ·simp only[Z7 h]; exact hb
structure Le (r:R) (r':Y1->R):Prop where
 ev:∀τ st e,Co (r.ev τ st e) λm=>(r' m).ev τ st e
 tst:∀τ st e,Co (r.tst τ st e) λm=>(r' m).tst τ st e
 ex:∀τ st e,Co (r.ex τ st e) λm=>(r' m).ex τ st e
 call:∀f ds st,Co (r.call f ds st) λm=>(r' m).call f ds st
theorem qz4{a:Y1->Y2->E->Y4 (D×Y2)}(h:∀st e,Co (f st e) λm=>a m st e):∀(es:L E) (st:Y2),Co (evs f es st) λm=>evs (a m) es st
 |[],st=>.refl _
 |e::es,st=>(h st e).bind λp=>(qz4 h es p.2).bind λq=>.refl _
theorem qxa{b:Y1->Sl->Y2->D->Y4 (Out×Y2)}(h:∀τ st d,Co (f τ st d) λm=>b m τ st d):∀(k i:Y1) (τ:Sl) (st:Y2),Co (loop it f k i τ st) λm=>loop it (b m) k i τ st
 |0,_,_,_=>.refl _
 |k+1,i,τ,st=>by
  unfold loop;refine(Co.refl _).bind λo=>?_
  cases o with
  |none=>exact .refl _
  |some d=>
   refine(h τ st d).bind λp=>?_
   cases c:p.1 with
   |nx a=>exact qxa h k _ _ _
   |ct a=>exact qxa h k _ _ _
   |bk a=>exact .refl _
   |rt v=>exact .refl _
theorem qkd{b:Y1->Sl->Y2->D->Y4 (Y4 D×Sl×Y2)}(h:∀τ st d,Co (f τ st d) λm=>b m τ st d):∀(k i:Y1) (a:L D) (τ:Sl) (st:Y2),Co (loopC it f k i a τ st) λm=>loopC it (b m) k i a τ st
 |0,_,_,_,_=>.refl _
 |k+1,i,a,τ,st=>by
  unfold loopC;refine(Co.refl _).bind λo=>?_
  cases o with
  |none=>exact .refl _
  |some d=>exact Co.ite (.refl _) ((h τ st d).bind λp=>qkd h k _ _ _ _)
theorem qvj{b:Y1->Sl->Y2->S->Y4 (Out×Y2)}(h:∀τ st s,Co (f τ st s) λm=>b m τ st s):∀(a:L S) (τ:Sl) (st:Y2),Co (exs f a τ st) λm=>exs (b m) a τ st
 |[],_,_=>.refl _
 |s::a,τ,st=>by
  unfold exs;refine(h τ st s).bind λp=>?_
  cases d:p.1 with
  |nx c=>exact qvj h a _ _
  |_=>exact .refl _
section
variable (h:Le r r')
include h
theorem qyn(τ)(st)(e):Co (src r τ st e) λm=>src (r' m) τ st e:=by
 cases e with
 |rng1 a=>exact(h.ev τ st a).bind λp=>.refl _
 |rng2 a b=>exact(h.ev τ st a).bind λp=>(h.ev τ _ b).bind λq=>.refl _
 |zip a b=>exact(h.ev τ st a).bind λp=>(h.ev τ _ b).bind λq=>.refl _
 |enu a=>exact(h.ev τ st a).bind λp=>.refl _
 |rev a=>exact(h.ev τ st a).bind λp=>.refl _
 |_=>exact(h.ev τ st _).bind λp=>.refl _
theorem qxw(τ)(st)(e):Co (part r τ st e) λm=>part (r' m) τ st e:=by
 cases e with
 |none=>exact .refl _
 |some e=>exact(h.ev τ st e).bind λp=>.refl _
theorem qar(t)(test)(elt)(τ)(st)(d):Co (turnC r t test elt τ st d) λm=>turnC (r' m) t test elt τ st d:=by
 unfold turnC;refine(Co.refl _).bind λa=>?_
 cases test with
 |none=>exact(h.ev _ _ _).map _
 |some c=>exact(h.tst _ _ _).bind λb=>Co.ite ((h.ev _ _ _).map _) (.refl _)
theorem qwy(τ)(st)(neg)(a b):Co (dinR r τ st neg a b) λm=>dinR (r' m) τ st neg a b:=(h.ev τ st a).bind λp=>(h.ev τ _ b).bind λq=>.refl _
theorem qvh(τ)(st)(neg)(a b):Co (tdiR r τ st neg a b) λm=>tdiR (r' m) τ st neg a b:=(h.ev τ st a).bind λp=>(h.ev τ _ b).bind λq=>.refl _
theorem qwj(τ)(st)(neg)(ks)(b):Co (ginR r τ st neg ks b) λm=>ginR (r' m) τ st neg ks b:=(h.ev τ st b).bind λp=>.refl _
theorem qjb(τ)(st)(e):Co (stepEv r τ st e) λm=>stepEv (r' m) τ st e:=by
 cases e with
 |var i=>exact .refl _
 |lit d=>exact .refl _
 |glo x d=>exact .refl _
 |bin j a b=>exact(h.ev τ st a).bind λp=>(h.ev τ _ b).bind λq=>.refl _
 |neg a=>exact(h.ev τ st a).bind λp=>.refl _
 |not a=>exact(h.ev τ st a).bind λp=>.refl _
 |cmp j a b=>exact(h.ev τ st a).bind λp=>(h.ev τ _ b).bind λq=>.refl _
 |cmp2 j n a b c=>exact(h.ev τ st a).bind λp=>(h.ev τ _ b).bind λq=>(Co.refl _).bind λk=>Co.ite ((h.ev τ _ c).bind λu=>.refl _) (.refl _)
 |and a b=>
  refine(h.ev τ st a).bind λp=>?_;obtain⟨d,s⟩:=p
  cases d with
  |bl k=>cases k with
   |true=>exact h.ev τ _ b
   |false=>exact .refl _
  |_=>exact .refl _
 |or a b=>
  refine(h.ev τ st a).bind λp=>?_;obtain⟨d,s⟩:=p
  cases d with
  |bl k=>cases k with
   |false=>exact h.ev τ _ b
   |true=>exact .refl _
  |_=>exact .refl _
 |ite c a b=>exact(h.tst τ st c).bind λp=>Co.ite (h.ev τ _ a) (h.ev τ _ b)
 |tup es=>exact(qz4 (h.ev τ) es st).bind λp=>.refl _
 |lst es=>exact(qz4 (h.ev τ) es st).bind λp=>.refl _
 |idx a b=>exact(h.ev τ st a).bind λp=>(h.ev τ _ b).bind λq=>.refl _
 |sli a lo hi=>exact(h.ev τ st a).bind λp=>(qxw h τ _ lo).bind λl=>(qxw h τ _ hi).bind λu=>.refl _
 |call f es=>exact(qz4 (h.ev τ) es st).bind λp=>h.call f _ _
 |bcall f es=>exact(qz4 (h.ev τ) es st).bind λp=>.refl _
 |isi a o m=>exact(h.ev τ st a).bind λp=>.refl _
 |lenset a=>exact(h.ev τ st a).bind λp=>.refl _
 |gc a=>exact(h.ev τ st a).map _
 |meth a m es=>exact(h.ev τ st a).bind λp=>Co.ite ((qz4 (h.ev τ) es _).bind λq=>.refl _) (.refl _)
 |rng1 a=>exact .refl _
 |rng2 a b=>exact .refl _
 |zip a b=>exact .refl _
 |enu a=>exact .refl _
 |rev a=>exact .refl _
 |dic es=>exact(qz4 (h.ev τ) es _).bind λp=>.refl _
 |didx a b=>exact(h.ev τ st a).bind λp=>(h.ev τ _ b).bind λq=>.refl _
 |din neg a b=>exact qwy h τ st neg a b
 |dgt a b=>
  refine(h.ev τ st a).bind λp=>?_;obtain⟨d,s⟩:=p
  cases d with
  |loc l=>exact(Co.refl _).bind λ_=>(h.ev τ _ b).bind λq=>.refl _
  |_=>exact .refl _
 |gidx x ks ds b=>exact(h.ev τ st b).bind λp=>.refl _
 |gin neg x ks b=>exact qwj h τ st neg ks b
 |comp t it g elt sr=>exact(qyn h τ st it).bind λp=>(qkd (qar h t g elt) _ _ _ _ _).map _
 |attr C a f=>exact(h.ev τ st a).bind λp=>.refl _
 |tsli a lo hi=>exact(h.ev τ st a).bind λp=>(qxw h τ _ lo).bind λl=>(qxw h τ _ hi).bind λu=>.refl _
 |unt a=>exact(h.ev τ st a).bind λp=>.refl _
 |tdn=>exact .refl _
 |tdi neg a b=>exact qvh h τ st neg a b
 |mcall C f m a es=>exact(h.ev τ st a).bind λp=>(Co.refl _).bind λfs=>Co.ite (.refl _) ((qz4 (h.ev τ) es _).bind λq=>h.call f _ _)
 |new C f es=>exact(qz4 (h.ev τ) es st).bind λp=>(h.call f _ _).bind λq=>.refl _
theorem qxu(τ)(st)(e):Co (stepTst r τ st e) λm=>stepTst (r' m) τ st e:=by
 cases e with
 |not a=>exact(h.tst τ st a).map _
 |and a b=>exact(h.tst τ st a).bind λp=>Co.ite (h.tst τ _ b) (.refl _)
 |or a b=>exact(h.tst τ st a).bind λp=>Co.ite (.refl _) (h.tst τ _ b)
 |ite _ _ _=>exact .refl _
 |din neg a b=>exact(qwy h τ st neg a b).bind λp=>.refl _
 |gin neg x ks b=>exact(qwj h τ st neg ks b).bind λp=>.refl _
 |tdi neg a b=>exact(qvh h τ st neg a b).bind λp=>.refl _
 |cmp f a b=>exact(h.ev τ st a).bind λp=>(h.ev τ _ b).bind λq=>.refl _
 |cmp2 f d a b c=>exact(h.ev τ st a).bind λp=>(h.ev τ _ b).bind λq=>(Co.refl _).bind λk=>Co.ite ((h.ev τ _ c).bind λu=>.refl _) (.refl _)
 |_=>exact(h.ev τ st _).bind λp=>.refl _
theorem qjy(τ)(st)(s):Co (stepEx r τ st s) λm=>stepEx (r' m) τ st s:=by
 cases s with
 |set t e=>exact(h.ev τ st e).bind λp=>.refl _
 |dset a i e=>exact(h.ev τ st e).bind λp=>(h.ev τ _ a).bind λq=>(h.ev τ _ i).bind λu=>.refl _
 |tds a i e=>exact(h.ev τ st e).bind λp=>(h.ev τ _ a).bind λq=>(h.ev τ _ i).bind λu=>.refl _
 |bad=>exact .refl _
 |setA C a f e=>exact(h.ev τ st e).bind λp=>(h.ev τ _ a).bind λq=>.refl _
 |ford t a body=>
  refine(h.ev τ st a).bind λp=>?_;obtain⟨d,s⟩:=p
  cases d with
  |loc l=>exact(Co.refl _).bind λkvs=>(qxa (λτ st d=>(Co.refl _).bind λg=>h.ex g st body) _ _ _ _).bind λq=>.refl _
  |_=>exact .refl _
 |expr e=>exact(h.ev τ st e).map _
 |ret e=>exact(h.ev τ st e).map _
 |ite c a b=>exact(h.tst τ st c).bind λp=>Co.ite (h.ex τ _ a) (h.ex τ _ b)
 |forr t it body=>exact(qyn h τ st it).bind λp=>qxa (λτ st d=>(Co.refl _).bind λg=>h.ex g st body) _ _ _ _
theorem qcj(c:Y1->L D->Y2->Y4 (D×Y2)):Le (step c r) λm=>step c (r' m):=
 ⟨qjb h,qxu h,λτ st a=>qvj (qjy h) a τ st,λf ds st=>.refl _⟩
end
theorem qx8(c:Y1->L D->Y2->Y4 (D×Y2)):∀n,Le (runK c n) λ_=>runK c (n+1)
 |0=>⟨λ_ _ _=>.none _,λ_ _ _=>.none _,λ_ _ _=>.none _,λ_ _ _=>.refl _⟩
 |n+1=>qcj (qx8 c n) c
section
def ev_up(h:(runK c n).ev τ st e=Y x)(d:n<=N):(runK c N).ev τ st e=Y x:=by
 induction d with
 |refl=>exact h
 |step _ a=>obtain⟨k,b⟩:=(qx8 c _).ev τ st e x a; exact b k (Qqj _)
def qhh(h:(runK c n).tst τ st e=Y x)(d:n<=N):(runK c N).tst τ st e=Y x:=by
 induction d with
 |refl=>exact h
 |step _ a=>obtain⟨k,b⟩:=(qx8 c _).tst τ st e x a; exact b k (Qqj _)
def ex_up(h:(runK c n).ex τ st e=Y x)(d:n<=N):(runK c N).ex τ st e=Y x:=by
 induction d with
 |refl=>exact h
 |step _ a=>obtain⟨k,b⟩:=(qx8 c _).ex τ st e x a; exact b k (Qqj _)
end
def qw6(up:∀n N x,f n=Y x->n<=N->f N=Y x)(h:f n=Y x):lim1 f=Y x:=by
 have a:∃x,∃n,f n=Y x:=⟨x,n,h⟩
 unfold lim1;rw[dif_pos a];obtain⟨k,c⟩:=a.choose_spec;have d:=up _ (max n k) _ h (by lia);have b:=up _ (max n k) _ c (by lia);rw[d]at b;exact b.symm
section
end
section
variable {r:R}{s:Src}{S:Y2}{rest:Sl}{elt:E}{ds:L D}
theorem qv4(a:∀i,s.at S i=Y ds[i]?)(c:es.length=ds.length)(b:ds.length<lim)(f:∀(i:Y1) (d e:D),ds[i]?=Y d->es[i]?=Y e->r.ev (Y d::rest) S elt=Y (e,S)):
  ∀(k i:Y1) (o:Y4 D),i+k=ds.length->loopC s (turnC r (.var 0) B elt) (k+1) i (es.take i) (o::rest) S=Y (es,S)
 |0,i,o,h=>by
  have e:i=ds.length:=by lia
  subst e;have h1:es.take ds.length=es:=Qxi (by lia);rw[loopC,a,h1];simp only[oBs,Qzm (Qqj _)];rw[Z7 (by lia)]
 |k+1,i,o,h=>by
  have hi:i<ds.length:=by lia
  have h1:ds[i]?=Y ds[i]:=by simp
  have h2:es[i]?=Y (es[i]'(by lia)):=by simp
  have g:=f i _ _ h1 h2;rw[loopC,a,h1];simp only[oBs];rw[Z7 (by rw[Qzk]; lia)];have j:turnC r (.var 0) B elt (o::rest) S ds[i]=Y (Y (es[i]'(by lia)),Y ds[i]::rest,S):=by
   unfold turnC;simp only[setT,Qqg,Qj2,if_true,Qjm,oBs,g,oMs]
  rw[j];simp only[oBs];rw[show es.take i++[es[i]'(by lia)]=es.take (i+1) by rw[Qzn (by lia)]];exact qv4 a c b f k (i+1) _ (by lia)
theorem qx2(a:∀i,s.at S i=Y ds[i]?)(g:ds.length<lim)(hc:∀(i:Y1) (d:D),ds[i]?=Y d->r.tst (Y d::rest) S c=Y (p d,S))(f:D->D)(m:∀(i:Y1) (d:D),ds[i]?=Y d->p d=Z->r.ev (Y d::rest) S elt=Y (f d,S)):
  ∀(k i:Y1) (o:Y4 D),i+k=ds.length->loopC s (turnC r (.var 0) (Y c) elt) (k+1) i (((ds.take i).filter p).map f) (o::rest) S=Y ((ds.filter p).map f,S)
 |0,i,o,h=>by
  have e:i=ds.length:=by lia
  subst e;rw[loopC,a,Qxi (Qqj _)];simp only[oBs,Qzm (Qqj _)];have:=Qxm p ds;rw[Z7 (by rw[Qqx]; lia)]
 |k+1,i,o,h=>by
  have hi:i<ds.length:=by lia
  have h1:ds[i]?=Y ds[i]:=by simp
  rw[loopC,a,h1];simp only[oBs];have t:=Qxm p (ds.take i);have q:(ds.take i).length<=ds.length:=by rw[Qzk]; lia
  rw[Z7 (by rw[Qqx]; lia)];have n:=Qzn (by omega);have j:=qx2 a g hc f m k (i+1) (Y ds[i]) (by lia)
  cases b:p ds[i] with
  |true=>
   have l:turnC r (.var 0) (Y c) elt (o::rest) S ds[i]=Y (Y (f ds[i]),Y ds[i]::rest,S):=by
    unfold turnC;simp only[setT,Qqg,Qj2,if_true,Qjm,oBs,hc i _ h1,b,m i _ h1 b,oMs]
   rw[l];simp only[oBs];rw[n,Qx2,Qqm]at j;simpa[b] using j
  |false=>
   have l:turnC r (.var 0) (Y c) elt (o::rest) S ds[i]=Y (B,Y ds[i]::rest,S):=by
    unfold turnC;simp only[setT,Qqg,Qj2,if_true,Qjm,oBs,hc i _ h1,b,Qzw,if_false]
   rw[l];simp only[oBs];rw[n,Qx2,Qqm]at j;simpa[b] using j
end
def qai{S:Y2}{ds:L D}(b:src r τ S it=Y (s,a))(j:∀i,s.at a i=Y ds[i]?)(hsz:s.size a=ds.length)(g:inner sr τ=B::rest)(f:es.length=ds.length)(c:ds.length<lim)(k:∀(i:Y1) (d e:D),ds[i]?=Y d->es[i]?=Y e->r.ev (Y d::rest) a elt=Y (e,a)):stepEv r τ S (.comp (.var 0) it B elt sr)=Y (.loc a.length,a++[.lst Z es]):=by
 have h:=qv4 j f c k ds.length 0 B (by lia);show((src r τ S it).bind λp=>(loopC p.1 (turnC r (.var 0) B elt) (p.1.size p.2+1) 0 [] (inner sr τ) p.2).map λq=>alloc q.2 (.lst Z q.1))=_;rw[b];simp only[oBs,hsz,g];rw[show([]:L D)=es.take 0 by simp,h]
 rfl
def qyw{S:Y2}{ds:L D}(f:D->D)(b:src r τ S it=Y (s,a))(j:∀i,s.at a i=Y ds[i]?)(hsz:s.size a=ds.length)(g:inner sr τ=B::rest)(e:ds.length<lim)(hc:∀(i:Y1) (d:D),ds[i]?=Y d->r.tst (Y d::rest) a c=Y (p d,a))(k:∀(i:Y1) (d:D),ds[i]?=Y d->p d=Z->r.ev (Y d::rest) a elt=Y (f d,a)):stepEv r τ S (.comp (.var 0) it (Y c) elt sr)=Y (.loc a.length,a++[.lst Z ((ds.filter p).map f)]):=by
 have h:=qx2 j e hc f k ds.length 0 B (by lia);show((src r τ S it).bind λp=>(loopC p.1 (turnC r (.var 0) (Y c) elt) (p.1.size p.2+1) 0 [] (inner sr τ) p.2).map λq=>alloc q.2 (.lst Z q.1))=_;rw[b];simp only[oBs,hsz,g];simp only[Qkk,List.filter_nil,Qxy]at h;rw[h]
 rfl
def qqp{S:Y2}(h:seqAt S q=Y ds)(i):(Src.lst q).at S i=Y ds[i]?:=by simp[Src.at,h]
def qzt{S:Y2}(h:seqAt S q=Y ds):(Src.lst q).size S=ds.length:=by simp[Src.size,h]
def qwn{S:Y2}(lo)(n)(i):(Src.rng lo n).at S i=Y ((List.range n).map λ(j:Y1)=>D.int (lo+j))[i]?:=by
 simp only[Src.at,Qqw]
 by_cases h:i<n
 ·rw[Z8 h,Qxs h]; rfl
 ·rw[Z7 h,Qzm (by simpa using h)]; rfl
theorem qjg{ds:L D}(P:Y1->Sl->Y2->Prop)(Q:Sl->Y2->Prop)(b:∀i τ st,P i τ st->s.at st i=Y ds[i]?)(hs:∀i τ st d,ds[i]?=Y d->P i τ st->(∃a st',(f τ st d=Y (.nx a,st')\/f τ st d=Y (.ct a,st'))/\P (i+1) a st')\/∃a st',f τ st d=Y (.bk a,st')/\Q a st'):
  ∀(k i:Y1) (τ:Sl) (st:Y2),i+k=ds.length->P i τ st->∃a st',loop s f (k+1) i τ st=Y (.nx a,st')/\(P ds.length a st'\/Q a st')
 |0,i,τ,st,h,p=>by
  have e:i=ds.length:=by lia
  subst e;refine⟨τ,st,?_,.inl p⟩;rw[loop,b _ _ _ p];simp[Qzm (Qqj _)]
 |k+1,i,τ,st,h,p=>by
  have hi:i<ds.length:=by lia
  have h1:ds[i]?=Y ds[i]:=by simp
  rw[loop,b _ _ _ p,h1];simp only[oBs];rcases hs i τ st _ h1 p with⟨a,st',e|e,q⟩|⟨a,st',e,q⟩
  ·rw[e];exact qjg P Q b hs k (i+1) a st' (by lia) q
  ·rw[e];exact qjg P Q b hs k (i+1) a st' (by lia) q
  ·rw[e];exact⟨a,st',rfl,.inr q⟩
def qjz{ds:L D}(P:Y1->Sl->Y2->Prop)(Q:Sl->Y2->Prop)(c:P 0 τ st)(hsz:s.size st=ds.length)(b:∀i τ st,P i τ st->s.at st i=Y ds[i]?)(hs:∀i τ st d,ds[i]?=Y d->P i τ st->(∃a st',(f τ st d=Y (.nx a,st')\/f τ st d=Y (.ct a,st'))/\P (i+1) a st')\/∃a st',f τ st d=Y (.bk a,st')/\Q a st'):
  ∃a st',loop s f (s.size st+1) 0 τ st=Y (.nx a,st')/\(P ds.length a st'\/Q a st'):=by
 rw[hsz];exact qjg P Q b hs ds.length 0 τ st (by lia) c
section
def gc_x(h:p.2.take st.length=st):gcD st p=gcX st.length p:=by
 unfold gcD;rw[Z8 h,ite_self]
def qv2:noLoc (.tup ds)=noLocs ds:=by rw[noLoc]
def qw2:noLocs (d::ds)=(noLoc d&&noLocs ds):=rfl
theorem qkb:∀{ds},noLocs ds=ds.all noLoc
 |[]=>rfl
 |d::ds=>by rw[qw2,Qzi,qkb]
def qdx(h:∀d∈ds,noLoc d=Z):noLocs ds=true:=by rw[qkb,Qzx]; exact h
def qzi{α:Type}{xs:L α}{g:α->D}(h:∀x∈xs,noLoc (g x)=Z):noLocs (xs.map g)=true:=qdx λd hd=>by
 obtain⟨x,a,rfl⟩:=Qqv.mp hd;exact h x a
def qzc(h:noLocs ds=Z):gcD st (.loc st.length,st++[.lst Z ds])=(.lst ds,st):=by
 rw[gc_x (by simp)];unfold gcX;rw[Z7 (by simp[noLoc])];simp[h]
end
def qqd(d:-(2 ^ 64)<b)(c:b<2 ^ 64):mulOk a b=true:=by unfold mulOk; simp; lia
section
end
def bMo(S)(a)(h:0<b):binop S .Mod (.int a) (.int b)=Y (.int (a % b),S):=by
 simp only[binop];rw[Z8 h]
def bDi(S)(a)(h:0<b)(c:b<2 ^ 64):binop S .FloorDiv (.int a) (.int b)=Y (.int (a / b),S):=by
 simp only[binop];rw[Z8 ⟨h,c⟩]
abbrev CF:=Y1->L D->Y2->Y4 (D×Y2)
section
end
section
end
section
end
end M
end
section
namespace M
open PySem (Str CmpOp Operator)
inductive It where
 /-- a test comes out so -/
 |b (k:Yc)
 /-- a call answers so -/
 |c (a:D×Y2)
 /-- seen by the kernel -/
 |k
 /-- what lies in a cell -/
 |r (c:Yb)
 /-- what a dict has at a key -/
 |q (o:Y4 D)
 /-- what lies at an index -/
 |i (d:D)
 |n
 /-- a part leaves nothing behind -/
 |g
 /-- a part leaves a list -/
 |l (ds:L D)
 /-- a loop ends so -/
 |s (o:Out×Y2)
 /-- slots and store stand so -/
 |e (p:Sl×Y2)
 /-- an if ends so -/
 |t (o:Out×Y2)
abbrev Tp:=L It
noncomputable def TM(α:Type):=Tp->(α->Tp->Prop)->Prop
noncomputable def TM.bind{α β:Type}(x:TM α)(f:α->TM β):TM β:=λt K=>x t λa t'=>f a t' K
noncomputable def TM.map{α β:Type}(x:TM α)(f:α->β):TM β:=λt K=>x t λa t'=>K (f a) t'
noncomputable def no{α:Type}:TM α:=λ_ _=>False
noncomputable def lf{α:Type}:Y4 α->TM α
 |some a=>λt K=>K a t
 |none=>no
noncomputable def ys{α:Type}(a:α):TM α:=λt K=>K a t
noncomputable def askB(p:Yc):TM Bool:=λt K=>match t with
 |.b k::t'=>p=k/\K k t'
 |.k::t'=>K p t'
 |_=>False
noncomputable def askC(o:Y4 (D×Y2)):TM (D×Y2):=λt K=>match t with
 |.c a::t'=>o=Y a/\K a t'
 |_=>False
noncomputable def askD(o:Y4 (D×Y2)):TM (D×Y2):=λt K=>match t with
 |.c a::t'=>o=Y a/\K a t'
 |t=>lf o t K
noncomputable def askE(o:Y4 (D×Y2))(x:TM (D×Y2)):TM (D×Y2):=λt K=>match t with
 |.c a::t'=>o=Y a/\K a t'
 |t=>x t K
noncomputable def askS(o:Y4 (Out×Y2))(x:TM (Out×Y2)):TM (Out×Y2):=λt K=>match t with
 |.s a::t'=>o=Y a/\K a t'
 |t=>x t K
noncomputable def askT(o:Y4 (Out×Y2))(x:TM (Out×Y2)):TM (Out×Y2):=λt K=>match t with
 |.t a::t'=>o=Y a/\K a t'
 |t=>x t K
noncomputable def askQ(o:Y4 D):TM (Y4 D):=λt K=>match t with
 |.q a::t'=>o=a/\K a t'
 |.k::t'=>K o t'
 |_=>False
noncomputable def askI(o:Y4 D):TM D:=λt K=>match t with
 |.i a::t'=>o=Y a/\K a t'
 |.n::t'=>lf o t' K
 |t=>lf o t K
noncomputable def askR(o:Y4 Yb):TM Yb:=λt K=>match t with
 |.r c::t'=>o=Y c/\K c t'
 |_=>False
noncomputable def askN(p:Sl×Y2):TM (Sl×Y2):=λt K=>match t with
 |.e q::t'=>p=q/\K q t'
 |t=>K p t
noncomputable def rdT(n:Y1)(st:Y2)(l:Y1):TM Yb:=if Nat.blt l n then lf st[l]? else askR st[l]?
noncomputable def Yb.ls:Yb->Y4 (L D)
 |.lst _ ds=>Y ds
 |_=>B
noncomputable def Yb.wls:Yb->Y4 (L D)
 |.lst Z ds=>Y ds
 |_=>B
noncomputable def Yb.dc:Yb->Y4 (L (D×D))
 |.dic _ ds=>Y ds
 |_=>B
noncomputable def Yb.wdc:Yb->Y4 (L (D×D))
 |.dic Z ds=>Y ds
 |_=>B
noncomputable def Yb.tc:Yb->Y4 (L (L J×D))
 |.tdc _ ds=>Y ds
 |_=>B
noncomputable def Yb.wtc:Yb->Y4 (L (L J×D))
 |.tdc Z ds=>Y ds
 |_=>B
noncomputable def Yb.ob(C:Y1):Yb->Y4 (L (Y6×D))
 |.obj C' fs=>if C'=C then Y fs else B
 |_=>B
noncomputable def seqT(n:Y1)(st:Y2):D->TM (L D)
 |.loc l=>(rdT n st l).bind λc=>lf c.ls
 |.lst ds=>ys ds
 |_=>no
noncomputable def rowT(n:Y1)(st:Y2):D->TM (L D)
 |.tup ds=>ys ds
 |d=>seqT n st d
noncomputable def wlT(n:Y1)(st:Y2)(l:Y1):TM (L D):=(rdT n st l).bind λc=>lf c.wls
noncomputable def dcT(n:Y1)(st:Y2)(l:Y1):TM (L (D×D)):=(rdT n st l).bind λc=>lf c.dc
noncomputable def wdT(n:Y1)(st:Y2)(l:Y1):TM (L (D×D)):=(rdT n st l).bind λc=>lf c.wdc
noncomputable def tcT(n:Y1)(st:Y2)(l:Y1):TM (L (L J×D)):=(rdT n st l).bind λc=>lf c.tc
noncomputable def wtT(n:Y1)(st:Y2)(l:Y1):TM (L (L J×D)):=(rdT n st l).bind λc=>lf c.wtc
noncomputable def obT(n:Y1)(st:Y2)(C:Y1):D->TM (L (Y6×D))
 |.loc l=>(rdT n st l).bind λc=>lf (c.ob C)
 |_=>no
noncomputable def qm5:CmpOp->D->Yc
 |.Lt,_=>Z
 |.LtE,_=>Z
 |.Gt,_=>Z
 |.GtE,_=>Z
 |.Is,_=>Z
 |.IsNot,_=>Z
 |.Eq,.int _=>Z
 |.NotEq,.int _=>Z
 |_,_=>Y7
noncomputable def isLs:D->Yc
 |.loc _=>Z
 |.lst _=>Z
 |_=>Y7
noncomputable def isAsk:CmpOp->D->D->Yc
 |.In,_,y=>isLs y
 |.NotIn,_,y=>isLs y
 |.Eq,x,_=>isLs x
 |.NotEq,x,_=>isLs x
 |_,_,_=>Y7
noncomputable def askO(o:Y4 Yc):TM Bool:=λt K=>match t with
 |.b k::t'=>o=Y k/\K k t'
 |.k::t'=>lf o t' K
 |_=>False
noncomputable def cmpT(st:Y2)(op:CmpOp)(x y:D):TM Bool:=if isAsk op x y then askO (cmpD st op x y) else(lf (cmpD st op x y)).bind λp=>if qm5 op x then askB p else ys p
noncomputable def qhl(n:Y1)(st:Y2)(d:D):TM Bool:=match d with
 |.loc l=>(seqT n st (.loc l)).bind λds=>askB (!ds.isEmpty)
 |.lst ds=>askB (!ds.isEmpty)
 |d=>lf (truth st d)
noncomputable def addT(n:Y1)(st:Y2)(a b:D):TM (D×Y2):=(seqT n st a).bind λx=>(seqT n st b).bind λy=>(askB (decide (lim<x.length+y.length))).bind λk=>if k then no else ys (alloc st (.lst Z (x++y)))
noncomputable def binT(n:Y1)(st:Y2)(op:Zm)(a b:D):TM (D×Y2):=match op,a with
 |.Add,.loc l=>addT n st (.loc l) b
 |.Add,.lst l=>addT n st (.lst l) b
 |.Mult,.int i=>match b with
  |.int j=>(askB (mulOk i j)).bind λk=>if k then ys (.int (i*j),st) else no
  |b=>lf (binop st .Mult (.int i) b)
 |.Mult,.tup l=>askD (binop st .Mult (.tup l) b)
 |.Mod,.int i=>askD (binop st .Mod (.int i) b)
 |.FloorDiv,.int i=>askD (binop st .FloorDiv (.int i) b)
 |op,a=>lf (binop st op a b)
noncomputable def qbq(n:Y1)(st:Y2)(m:Mt)(d:D)(es:L D):TM (D×Y2):=match m with
 |.append=>match d,es with
  |.loc l,[d]=>(wlT n st l).bind λds=>(askB (decide (ds.length<lim))).bind λb=>if b then ys (.non,st.set l (.lst Z (ds++[d]))) else no
  |_,_=>no
 |.extend=>match d,es with
  |.loc l,[d]=>(wlT n st l).bind λds=>(rowT n st d).bind λes=>(askB (decide (ds.length+es.length<=lim))).bind λb=>if b then ys (.non,st.set l (.lst Z (ds++es))) else no
  |_,_=>no
 |.insert=>match d,es with
  |.loc l,[.int i,d]=>(wlT n st l).bind λds=>(askB (decide (0<=i/\i<=ds.length/\ds.length<lim))).bind λb=>if b then ys (.non,st.set l (.lst Z (ds.take i.toNat++d::ds.drop i.toNat))) else no
  |_,_=>no
 |.index=>match es with
  |[x]=>(seqT n st d).bind λds=>askD (if flat 9 x&&flats 9 ds then(ds.findIdx? λy=>eqT y x).map λ(j:Y1)=>(.int (j:J),st) else B)
  |_=>no
noncomputable def mtyT(n:Y1)(st:Y2)(m:Mt)(d:D):TM Bool:=match d with
 |.str _=>ys (!m.ofList)
 |.lst _=>ys m.ofList
 |.loc l=>(seqT n st (.loc l)).bind λ_=>ys m.ofList
 |_=>no
noncomputable def qnr(n:Y1)(st:Y2)(f:Bq)(ds:L D):TM (D×Y2):=match f with
 |.len=>match ds with
  |[.loc l]=>(seqT n st (.loc l)).bind λxs=>ys (.int xs.length,st)
  |ds=>lf (bfun st .len ds)
 |.list=>match ds with
  |[.loc l]=>(rdT n st l).bind λc=>(lf (c.ls.or (c.dc.map keysOf))).bind λxs=>ys (alloc st (.lst Z xs))
  |ds=>lf (bfun st .list ds)
 |.tuple=>match ds with
  |[.loc l]=>(seqT n st (.loc l)).bind λxs=>ys (.tup xs,st)
  |ds=>lf (bfun st .tuple ds)
 |.min=>match ds with
  |[.int i,.int j]=>(askB (decide (j<i))).bind λk=>ys (.int (if k then j else i),st)
  |_=>no
 |f=>askD (bfun st f ds)
structure RT where
 rl:R
 ev:Sl->Y2->E->TM (D×Y2)
 tst:Sl->Y2->E->TM (Yc×Y2)
 ex:Sl->Y2->L S->TM (Out×Y2)
 call:Y1->L D->Y2->TM (D×Y2)
noncomputable def gcT(st:Y2)(p:D×Y2):TM (D×Y2):=λt K=>match t with
 |.g::t'=>(noLoc p.1=Z/\p.2.take st.length=st)/\K (p.1,st) t'
 |.l ds::t'=>gcD st p=(.lst ds,st)/\K (.lst ds,st) t'
 |.k::t'=>K (gcD st p) t'
 |_=>False
noncomputable def evsT(f:Y2->E->TM (D×Y2)):L E->Y2->TM (L D×Y2)
 |[],st=>ys ([],st)
 |e::es,st=>(f st e).bind λp=>(evsT f es p.2).bind λq=>ys (p.1::q.1,q.2)
noncomputable def srcT(n:Y1)(r:RT)(τ:Sl)(st:Y2):E->TM (Src×Y2)
 |.rng1 a=>(r.ev τ st a).bind λp=>match p.1 with
  |.int n=>if big n then no else ys (.rng 0 n.toNat,p.2)
  |_=>no
 |.zip a b=>(r.ev τ st a).bind λp=>(r.ev τ p.2 b).bind λq=>lf ((rowAt q.2 p.1).bind λ_=>(rowAt q.2 q.1).map λ_=>(.zip p.1 q.1,q.2))
 |.enu a=>(r.ev τ st a).bind λp=>lf ((rowAt p.2 p.1).map λ_=>(.enu p.1,p.2))
 |.rev a=>(r.ev τ st a).bind λp=>lf (match p.1 with
  |.tup ds=>Y (.rev ds,p.2)
  |_=>B)
 |.rng2 _ _=>no
 |e=>(r.ev τ st e).bind λp=>match p.1 with
  |.tup ds=>ys (.tup ds,p.2)
  |.str z=>no
  |d=>(seqT n p.2 d).map λ_=>(.lst d,p.2)
noncomputable def qdc(it:Src)(f:Sl->Y2->D->TM (Out×Y2)):Y1->Y1->Sl->Y2->TM (Out×Y2)
 |0,_,_,_=>no
 |k+1,i,τ,st=>(lf (it.at st i)).bind λo=>match o with
  |none=>ys (.nx τ,st)
  |some d=>(f τ st d).bind λp=>match p.1 with
   |.nx τ'=>qdc it f k (i+1) τ' p.2
   |.ct τ'=>qdc it f k (i+1) τ' p.2
   |.bk τ'=>ys (.nx τ',p.2)
   |.rt v=>ys (.rt v,p.2)
noncomputable def turnT(r:RT)(t:T)(test:Y4 E)(elt:E)(τ:Sl)(st:Y2)(d:D):TM (Y4 D×Sl×Y2):=
 (lf (setT t d τ)).bind λτ'=>match test with
  |none=>(r.ev τ' st elt).map λp=>(Y p.1,τ',p.2)
  |some c=>(r.tst τ' st c).bind λb=>if b.1 then(r.ev τ' b.2 elt).map λp=>(Y p.1,τ',p.2) else ys (B,τ',b.2)
noncomputable def qy9(it:Src)(f:Sl->Y2->D->TM (Y4 D×Sl×Y2)):Y1->Y1->L D->Sl->Y2->TM (L D×Y2)
 |0,_,_,_,_=>no
 |k+1,i,acc,τ,st=>(lf (it.at st i)).bind λo=>match o with
  |none=>if lim<acc.length then no else ys (acc,st)
  |some d=>if lim<=acc.length then no else(f τ st d).bind λp=>qy9 it f k (i+1) (match p.1 with|some x=>acc++[x]|none=>acc) p.2.1 p.2.2
noncomputable def qc6(r:RT)(τ:Sl)(st:Y2):Y4 E->TM (Y4 J×Y2)
 |none=>ys (B,st)
 |some e=>(r.ev τ st e).bind λp=>match p.1 with
  |.int i=>ys (Y i,p.2)
  |_=>no
noncomputable def dgT(n:Y1)(p:D×Y2)(k:D)(st:Y2):TM (Y4 D):=match p.1 with
 |.loc l=>(dcT n st l).bind λkvs=>if isKey k then askQ (dget kvs k) else no
 |_=>no
noncomputable def tgT(n:Y1)(p k:D)(st:Y2):TM (Y4 D):=match p,k with
 |.loc l,.fup ks=>(tcT n st l).bind λkvs=>askQ (tget kvs ks)
 |_,_=>no
noncomputable def qcv(n:Y1)(r:RT)(τ:Sl)(st:Y2):E->TM (D×Y2)
 |.var i=>lf (match τ[i]? with
  |some (Y d)=>Y (d,st)
  |_=>B)
 |.lit d=>ys (d,st)
 |.glo _ d=>ys (d,st)
 |.bin op a b=>(r.ev τ st a).bind λp=>(r.ev τ p.2 b).bind λq=>binT n q.2 op p.1 q.1
 |.neg a=>(r.ev τ st a).bind λp=>lf (match p.1 with
  |.int i=>Y (.int (-i),p.2)
  |_=>B)
 |.not a=>(r.ev τ st a).bind λp=>lf (match p.1 with
  |.bl b=>Y (.bl (!b),p.2)
  |_=>B)
 |.cmp op a b=>(r.ev τ st a).bind λp=>(r.ev τ p.2 b).bind λq=>(cmpT q.2 op p.1 q.1).map λk=>(.bl k,q.2)
 |.cmp2 op op' a b c=>(r.ev τ st a).bind λp=>(r.ev τ p.2 b).bind λq=>(cmpT q.2 op p.1 q.1).bind λk=>
   if k then(r.ev τ q.2 c).bind λu=>(cmpT u.2 op' q.1 u.1).map λk'=>(.bl k',u.2) else ys (.bl Y7,q.2)
 |.and a b=>(r.ev τ st a).bind λp=>match p.1 with
  |.bl Z=>r.ev τ p.2 b
  |.bl Y7=>ys (.bl Y7,p.2)
  |_=>no
 |.or a b=>(r.ev τ st a).bind λp=>match p.1 with
  |.bl Y7=>r.ev τ p.2 b
  |.bl Z=>ys (.bl Z,p.2)
  |_=>no
 |.ite c a b=>(r.tst τ st c).bind λp=>if p.1 then r.ev τ p.2 a else r.ev τ p.2 b
 |.tup es=>(evsT (r.ev τ) es st).bind λp=>if lim<p.1.length then no else ys (.tup p.1,p.2)
 |.lst es=>(evsT (r.ev τ) es st).bind λp=>if lim<p.1.length then no else ys (alloc p.2 (.lst Z p.1))
 |.idx a b=>(r.ev τ st a).bind λp=>(r.ev τ p.2 b).bind λq=>(askI (idxD q.2 p.1 q.1)).map λd=>(d,q.2)
 |.sli a lo hi=>(r.ev τ st a).bind λp=>(qc6 r τ p.2 lo).bind λl=>(qc6 r τ l.2 hi).bind λh=>lf (sliD h.2 p.1 l.1 h.1)
 |.call f es=>(evsT (r.ev τ) es st).bind λp=>r.call f p.1 p.2
 |.bcall f es=>(evsT (r.ev τ) es st).bind λp=>qnr n p.2 f p.1
 |.isi a ts _=>(r.ev τ st a).bind λp=>(lf (tyName p.2 p.1)).map λn=>(.bl (ts.any λt=>tyIs t n),p.2)
 |.meth a m es=>(r.ev τ st a).bind λp=>(mtyT n p.2 m p.1).bind λk=>if k then(evsT (r.ev τ) es p.2).bind λq=>qbq n q.2 m p.1 q.1 else no
 |.gc a=>(r.ev τ st a).bind λp=>gcT st p
 |.dic es=>(evsT (r.ev τ) es (st++[.dic Z []])).bind λp=>(wdT n p.2 st.length).bind λk0=>lf (match k0 with
  |[]=>(pairUp p.1).bind λkvs=>if kvs.length<=15 then Y (.loc st.length,p.2.set st.length (.dic Z (dall kvs))) else B
  |_=>B)
 |.didx a b=>(r.ev τ st a).bind λp=>(r.ev τ p.2 b).bind λq=>(dgT n p q.1 q.2).bind λo=>(lf o).map λd=>(d,q.2)
 |.din neg a b=>(r.ev τ st a).bind λp=>(r.ev τ p.2 b).bind λq=>(dgT n q p.1 q.2).map λo=>(.bl (o.isSome != neg),q.2)
 |.dgt a b=>(r.ev τ st a).bind λp=>match p.1 with
  |.loc l=>(dcT n p.2 l).bind λ_=>(r.ev τ p.2 b).bind λq=>(dgT n p q.1 q.2).bind λo=>ys (o.getD .non,q.2)
  |_=>no
 |.tsli a lo hi=>(r.ev τ st a).bind λp=>(qc6 r τ p.2 lo).bind λl=>(qc6 r τ l.2 hi).bind λh=>lf (match p.1 with
  |.tup ds=>(asInts (cut ds l.1 h.1)).bind λks=>if ks.length<ds.length then Y (.fup ks,h.2) else B
  |_=>B)
 |.unt a=>(r.ev τ st a).bind λp=>lf (match p.1 with
  |.fup ks=>Y (.tup (ks.map .int),p.2)
  |_=>B)
 |.tdn=>ys (alloc st (.tdc Z []))
 |.tdi neg a b=>(r.ev τ st a).bind λp=>(r.ev τ p.2 b).bind λq=>(tgT n q.1 p.1 q.2).bind λo=>ys (.bl (o.isSome != neg),q.2)
 |.gidx _ ks ds b=>(r.ev τ st b).bind λp=>lf (match p.1 with
  |.str z=>((ks.zip ds).find? λq=>q.1==z).map λq=>(q.2,p.2)
  |_=>B)
 |.gin neg _ ks b=>(r.ev τ st b).bind λp=>lf (match p.1 with
  |.str z=>Y (.bl (ks.contains z != neg),p.2)
  |_=>B)
 |.lenset a=>(r.ev τ st a).bind λp=>(askI (qk8 p.1)).map λd=>(d,p.2)
 |.comp t it test elt sr=>askE (stepEv r.rl τ st (.comp t it test elt sr)) ((srcT n r τ st it).bind λp=>
   (qy9 p.1 (turnT r t test elt) (p.1.size p.2+1) 0 [] (inner sr τ) p.2).map λq=>alloc q.2 (.lst Z q.1))
 |.attr C a f=>(r.ev τ st a).bind λp=>(obT n p.2 C p.1).bind λfs=>lf ((fs.lookup f).map λd=>(d,p.2))
 |.mcall C f m a es=>(r.ev τ st a).bind λp=>(obT n p.2 C p.1).bind λfs=>if (fs.lookup m).isSome then no else(evsT (r.ev τ) es p.2).bind λq=>r.call f (p.1::q.1) q.2
 |.new C f es=>(evsT (r.ev τ) es st).bind λp=>(r.call f (.loc p.2.length::p.1) (p.2++[.obj C []])).bind λq=>if isNon q.1 then ys (.loc p.2.length,q.2) else no
 |_=>no
noncomputable def qym(n:Y1)(r:RT)(τ:Sl)(st:Y2):E->TM (Yc×Y2)
 |.not a=>(r.tst τ st a).map λp=>(!p.1,p.2)
 |.and a b=>(r.tst τ st a).bind λp=>if p.1 then r.tst τ p.2 b else ys (Y7,p.2)
 |.or a b=>(r.tst τ st a).bind λp=>if p.1 then ys (Z,p.2) else r.tst τ p.2 b
 |.ite _ _ _=>no
 |.din neg a b=>(r.ev τ st a).bind λp=>(r.ev τ p.2 b).bind λq=>(dgT n q p.1 q.2).map λo=>(o.isSome != neg,q.2)
 |.tdi neg a b=>(r.ev τ st a).bind λp=>(r.ev τ p.2 b).bind λq=>(tgT n q.1 p.1 q.2).bind λo=>ys (o.isSome != neg,q.2)
 |.gin neg _ ks b=>(r.ev τ st b).bind λp=>lf (match p.1 with
  |.str z=>Y (ks.contains z != neg,p.2)
  |_=>B)
 |.cmp op a b=>(r.ev τ st a).bind λp=>(r.ev τ p.2 b).bind λq=>(cmpT q.2 op p.1 q.1).map λk=>(k,q.2)
 |.cmp2 op op' a b c=>(r.ev τ st a).bind λp=>(r.ev τ p.2 b).bind λq=>(cmpT q.2 op p.1 q.1).bind λk=>
   if k then(r.ev τ q.2 c).bind λu=>(cmpT u.2 op' q.1 u.1).map λk'=>(k',u.2) else ys (Y7,q.2)
 |e=>(r.ev τ st e).bind λp=>(qhl n p.2 p.1).map λk=>(k,p.2)
noncomputable def qja(n:Y1)(r:RT)(τ:Sl)(st:Y2):S->TM (Out×Y2)
 |.set t e=>(r.ev τ st e).bind λp=>(lf (setT t p.1 τ)).map λτ'=>(.nx τ',p.2)
 |.dset a i e=>(r.ev τ st e).bind λp=>(r.ev τ p.2 a).bind λq=>(r.ev τ q.2 i).bind λu=>match q.1 with
  |.loc l=>(wdT n u.2 l).bind λkvs=>if isKey u.1 then(askB (decide (kvs.length<lim))).bind λb=>if b then ys (.nx τ,u.2.set l (.dic Z (dput kvs u.1 p.1))) else no else no
  |_=>no
 |.tds a i e=>(r.ev τ st e).bind λp=>(r.ev τ p.2 a).bind λq=>(r.ev τ q.2 i).bind λu=>match q.1,u.1 with
  |.loc l,.fup k=>(wtT n u.2 l).bind λkvs=>(askB (decide (kvs.length<lim))).bind λb=>if b then ys (.nx τ,u.2.set l (.tdc Z (tput kvs k p.1))) else no
  |_,_=>no
 |.setA C a f e=>(r.ev τ st e).bind λp=>(r.ev τ p.2 a).bind λq=>(obT n q.2 C q.1).bind λfs=>match q.1 with
  |.loc l=>if fs.length<900 then ys (.nx τ,q.2.set l (.obj C (putA f p.1 fs))) else no
  |_=>no
 |.expr e=>(r.ev τ st e).map λp=>(.nx τ,p.2)
 |.ret e=>(r.ev τ st e).map λp=>(.rt p.1,p.2)
 |.ite c a b=>askT (stepEx r.rl τ st (.ite c a b)) ((r.tst τ st c).bind λp=>if p.1 then r.ex τ p.2 a else r.ex τ p.2 b)
 |.forr t it body=>askS (stepEx r.rl τ st (.forr t it body)) ((srcT n r τ st it).bind λp=>
   qdc p.1 (λτ st d=>(lf (setT t d τ)).bind λτ'=>r.ex τ' st body) (p.1.size p.2+1) 0 τ p.2)
 |.ford t a body=>askS (stepEx r.rl τ st (.ford t a body)) no
 |_=>no
noncomputable def exsT(f:Sl->Y2->S->TM (Out×Y2)):L S->Sl->Y2->TM (Out×Y2)
 |[],τ,st=>ys (.nx τ,st)
 |s::ss,τ,st=>(askN (τ,st)).bind λu=>(f u.1 u.2 s).bind λp=>match p.1 with
  |.nx τ'=>exsT f ss τ' p.2
  |o=>ys (o,p.2)
abbrev CT:=Y1->L D->Y2->TM (D×Y2)
noncomputable def runT(n:Y1)(R0:R)(c:CT):Y1->RT
 |0=>⟨R0,λ_ _ _=>no,λ_ _ _=>no,λ_ _ _=>no,c⟩
 |k+1=>⟨R0,qcv n (runT n R0 c k),qym n (runT n R0 c k),λτ st ss=>exsT (qja n (runT n R0 c k)) ss τ st,c⟩
noncomputable def qkj(fns:L Fn)(n:Y1)(Oq:L Y1)(k:Y1):Y1->CT
 |0=>λ_ _ _=>no
 |d+1=>λf ds st=>if Oq.contains f then askC (callD fns (k+(d+1)) f ds st) else match fns[f]? with
   |some F=>if ds.length=F.np then((runT n (RL (callD fns (k+d))) (qkj fns n Oq k d) 40).ex (ds.map Y++List.replicate (F.nl - ds.length) B) st F.body).bind λp=>(match p.1 with
     |.rt d=>ys (d,p.2)
     |.nx _=>ys (.non,p.2)
     |_=>no)
    else no
   |none=>no
def Sn{α:Type}(x:TM α)(y:Y4 α):Prop:=∀t K,x t K->∃a t',y=Y a/\K a t'
theorem Sn.lf:∀(o:Y4 α),Sn (lf o) o
 |some a=>λt K h=>⟨a,t,rfl,h⟩
 |none=>λt K h=>h.elim
theorem Sn.ys(a:α):Sn (ys a) (Y a):=λt K h=>⟨a,t,rfl,h⟩
theorem Sn.no(o:Y4 α):Sn no o:=λt K h=>h.elim
theorem Sn.bind{x:TM α}{y:Y4 α}{f:α->TM b}{g:α->Y4 b}(h:Sn x y)(h':∀a,Sn (f a) (g a)):Sn (x.bind f) (y.bind g):=λt K e=>by
 obtain⟨a,d,rfl,c⟩:=h _ _ e;exact h' a _ _ c
theorem Sn.map{x:TM α}{y:Y4 α}(f:α->b)(h:Sn x y):Sn (x.map f) (y.map f):=λt K e=>by
 obtain⟨a,c,rfl,d⟩:=h _ _ e;exact⟨f a,c,rfl,d⟩
def Sn.ite[Decidable c]{a b:TM α}{d b':Y4 α}(e:Sn a d)(hb:Sn b b'):Sn (if c then a else b) (if c then d else b'):=by
 by_cases h:c
 ·rw[Z8 h,Z8 h]; exact e
 ·rw[Z7 h,Z7 h]; exact hb
def Sn.up{x:TM α}{y y':Y4 α}(h:∀a,y=Y a->y'=Y a)(e:Sn x y):Sn x y':=λt K h1=>by
 obtain⟨a,b,d,c⟩:=e t K h1;exact⟨a,b,h a d,c⟩
def Sn.eq{x:TM α}{y y':Y4 α}(h:y=y')(e:Sn x y):Sn x y':=h▸e
def bm{α a:Type}{o:Y4 α}{f:α->a}:(o.bind λx=>Y (f x))=o.map f:=by cases o<;>rfl
theorem Sn.askB(p):Sn (askB p) (Y p):=λt K h=>by
 cases t with
 |nil=>exact h.elim
 |cons i t=>
  cases i with
  |b k=>obtain⟨rfl,e⟩:=h; exact⟨_,_,rfl,e⟩
  |k=>exact⟨p,t,rfl,h⟩
  |_=>exact h.elim
theorem Sn.askC(o):Sn (askC o) o:=λt K h=>by
 cases t with
 |nil=>exact h.elim
 |cons i t=>
  cases i with
  |c a=>exact⟨a,t,h.1,h.2⟩
  |_=>exact h.elim
theorem Sn.askD(o):Sn (askD o) o:=λt K h=>by
 cases t with
 |nil=>exact Sn.lf o _ _ h
 |cons i t=>
  cases i with
  |c a=>exact⟨a,t,h.1,h.2⟩
  |_=>exact Sn.lf o _ _ h
theorem Sn.askE(h:Sn x o):Sn (askE o x) o:=λt K e=>by
 cases t with
 |nil=>exact h _ _ e
 |cons i t=>
  cases i with
  |c a=>exact⟨a,t,e.1,e.2⟩
  |_=>exact h _ _ e
theorem Sn.askS(h:Sn x o):Sn (askS o x) o:=λt K e=>by
 cases t with
 |nil=>exact h _ _ e
 |cons i t=>
  cases i with
  |s a=>exact⟨a,t,e.1,e.2⟩
  |_=>exact h _ _ e
theorem Sn.askT(h:Sn x o):Sn (askT o x) o:=λt K e=>by
 cases t with
 |nil=>exact h _ _ e
 |cons i t=>
  cases i with
  |t a=>exact⟨a,t,e.1,e.2⟩
  |_=>exact h _ _ e
theorem Sn.askQ(o):Sn (askQ o) (Y o):=λt K h=>by
 cases t with
 |nil=>exact h.elim
 |cons i t=>
  cases i with
  |q a=>exact⟨a,t,congrArg Y h.1,h.2⟩
  |k=>exact⟨o,t,rfl,h⟩
  |_=>exact h.elim
theorem Sn.askI(o):Sn (askI o) o:=λt K h=>by
 cases t with
 |nil=>exact Sn.lf o _ _ h
 |cons i t=>
  cases i with
  |i a=>exact⟨a,t,h.1,h.2⟩
  |n=>exact Sn.lf o _ _ h
  |_=>exact Sn.lf o _ _ h
theorem Sn.askR(o):Sn (askR o) o:=λt K h=>by
 cases t with
 |nil=>exact h.elim
 |cons i t=>
  cases i with
  |r c=>exact⟨c,t,h.1,h.2⟩
  |_=>exact h.elim
theorem Sn.askN(p):Sn (askN p) (Y p):=λt K h=>by
 cases t with
 |nil=>exact⟨p,[],rfl,h⟩
 |cons i t=>
  cases i with
  |e q=>exact⟨q,t,congrArg Y h.1,h.2⟩
  |_=>exact⟨p,_,rfl,h⟩
def Sn.rd(n)(st)(l):Sn (rdT n st l) st[l]?:=by
 unfold rdT
 by_cases hb:Nat.blt l n=Z
 ·rw[Z8 hb]; exact .lf _
 ·rw[Z7 hb]; exact .askR _
def Sn.seq(n)(st)(d):Sn (seqT n st d) (seqAt st d):=by
 cases d with
 |loc l=>exact((Sn.rd n st l).bind λc=>.lf _).eq (by show _=listAt st l; unfold listAt; cases st[l]? with|none=>rfl|some c=>cases c<;>rfl)
 |lst ds=>exact .ys _
 |_=>exact .no _
def Sn.row(n)(st)(d):Sn (rowT n st d) (rowAt st d):=by
 cases d with
 |tup ds=>exact .ys _
 |non=>exact Sn.seq n st .non
 |bl b=>exact Sn.seq n st (.bl b)
 |int b=>exact Sn.seq n st (.int b)
 |str b=>exact Sn.seq n st (.str b)
 |lst b=>exact Sn.seq n st (.lst b)
 |loc b=>exact Sn.seq n st (.loc b)
 |fup b=>exact Sn.seq n st (.fup b)
def Sn.wl(n)(st)(l):Sn (wlT n st l) (wlistAt st l):=((Sn.rd n st l).bind λc=>.lf _).eq (by
 unfold wlistAt
 cases st[l]? with
 |none=>rfl
 |some c=>cases c with
  |lst w ds=>cases w<;>rfl
  |_=>rfl)
def Sn.dc(n)(st)(l):Sn (dcT n st l) (dicAt st l):=((Sn.rd n st l).bind λc=>.lf _).eq (by unfold dicAt; cases st[l]? with|none=>rfl|some c=>cases c<;>rfl)
def Sn.wd(n)(st)(l):Sn (wdT n st l) (wdicAt st l):=((Sn.rd n st l).bind λc=>.lf _).eq (by
 unfold wdicAt
 cases st[l]? with
 |none=>rfl
 |some c=>cases c with
  |dic w ds=>cases w<;>rfl
  |_=>rfl)
def Sn.tc(n)(st)(l):Sn (tcT n st l) (tdcAt st l):=((Sn.rd n st l).bind λc=>.lf _).eq (by unfold tdcAt; cases st[l]? with|none=>rfl|some c=>cases c<;>rfl)
def Sn.wt(n)(st)(l):Sn (wtT n st l) (wtdcAt st l):=((Sn.rd n st l).bind λc=>.lf _).eq (by
 unfold wtdcAt
 cases st[l]? with
 |none=>rfl
 |some c=>cases c with
  |tdc w ds=>cases w<;>rfl
  |_=>rfl)
def Sn.ob(n)(st)(C)(d):Sn (obT n st C d) (objAt st C d):=by
 cases d with
 |loc l=>exact((Sn.rd n st l).bind λc=>.lf _).eq (by unfold objAt; dsimp only; cases st[l]? with|none=>rfl|some c=>cases c<;>rfl)
 |_=>exact .no _
def Sn.gc(st)(p):Sn (gcT st p) (Y (gcD st p)):=λt K h=>by
 cases t with
 |nil=>exact h.elim
 |cons i t=>
  cases i with
  |g=>
   obtain⟨⟨h1,h2⟩,h⟩:=h;refine⟨_,t,?_,h⟩;unfold gcD gcX;rw[h2,Z8 h1,Z8 rfl,ite_self]
  |l ds=>exact⟨_,t,congrArg Y h.1,h.2⟩
  |k=>exact⟨_,t,rfl,h⟩
  |_=>exact h.elim
def Sn.cond(p)(a:α):Sn (TM.bind (M.askB p) λb=>if b=Z then M.ys a else M.no) (if p=Z then Y a else B):=
 (Sn.askB p).bind λb=>Sn.ite (Sn.ys a) (.no B)
def Sn.meth(n)(st)(m)(d)(es):Sn (qbq n st m d es) (mfun st m d es):=by
 cases m with
 |append=>
  unfold qbq;dsimp only
  split
  ·refine(Sn.wl n st _).bind λds=>(Sn.cond _ _).eq ?_;simp only[decide_eq_true_eq]
  ·exact .no _
 |extend=>
  unfold qbq;dsimp only
  split
  ·rename_i l d;refine(Sn.wl n st _).bind λds=>((Sn.row n st d).bind λes=>Sn.cond _ _).eq ?_;simp only[decide_eq_true_eq];cases d<;>rfl
  ·exact .no _
 |insert=>
  unfold qbq;dsimp only
  split
  ·refine(Sn.wl n st _).bind λds=>(Sn.cond _ _).eq ?_;simp only[decide_eq_true_eq]
  ·exact .no _
 |index=>
  unfold qbq;dsimp only
  split
  ·exact(Sn.seq n st _).bind λds=>.askD _
  ·exact .no _
def Sn.mt(n)(st)(m)(d){x:TM α}{y:Y4 α}(h:Sn x y):Sn (TM.bind (mtyT n st m d) λk=>if k=Z then x else M.no) (if mty st m d then y else B):=by
 cases d with
 |str z=>exact λt K e=>Sn.ite h (.no B) t K e
 |lst z=>
  refine((Sn.ys m.ofList).bind λk=>Sn.ite h (.no B)).eq ?_
  show(if m.ofList=Z then y else B)=if (m.ofList&&Z)=Z then y else B
  rw[Qxr]
 |loc l=>
  have e:=((Sn.seq n st (.loc l)).bind λ_=>Sn.ys m.ofList).bind λk=>Sn.ite (c:=k=Z) h (.no B);refine e.up λa e=>?_;show(if (m.ofList&&(seqAt st (.loc l)).isSome)=Z then y else B)=Y a
  cases hs:seqAt st (.loc l) with
  |none=>rw[hs]at e; cases e
  |some xs=>rw[hs]at e; rw[Option.isSome_some,Qxr]; exact e
 |_=>exact λt K e=>e.elim
theorem Sn.askO(o):Sn (askO o) o:=λt K h=>by
 cases t with
 |nil=>exact h.elim
 |cons i t=>
  cases i with
  |b k=>exact⟨k,t,h.1,h.2⟩
  |k=>exact Sn.lf o _ _ h
  |_=>exact h.elim
def Sn.cmp(st)(a)(x y):Sn (cmpT st a x y) (cmpD st a x y):=by
 unfold cmpT
 by_cases b:isAsk a x y=Z
 ·rw[Z8 b]; exact .askO _
 ·rw[Z7 b];have h:Sn ((M.lf (cmpD st a x y)).bind λp=>if qm5 a x=Z then M.askB p else M.ys p) ((cmpD st a x y).bind λp=>if qm5 a x=Z then Y p else Y p):=(Sn.lf _).bind λp=>Sn.ite (Sn.askB p) (Sn.ys p);simpa using h
theorem Sn.truth(n)(st)(d):Sn (qhl n st d) (truth st d):=by
 cases d with
 |loc l=>exact((Sn.seq n st (.loc l)).bind λds=>Sn.askB _).eq (by show _=(seqAt st (.loc l)).map _; rw[Option.map_eq_bind]; rfl)
 |lst l=>exact .askB _
 |non=>exact .lf (M.truth st .non)
 |bl b=>exact .lf (M.truth st (.bl b))
 |int b=>exact .lf (M.truth st (.int b))
 |str b=>exact .lf (M.truth st (.str b))
 |tup b=>exact .lf (M.truth st (.tup b))
 |fup b=>exact .lf (M.truth st (.fup b))
def Sn.add(n)(st)(a b):Sn (addT n st a b) ((seqAt st a).bind λx=>(seqAt st b).bind λy=>if lim<x.length+y.length then B else Y (alloc st (.lst Z (x++y)))):=
 (Sn.seq n st a).bind λx=>(Sn.seq n st b).bind λy=>by
  have h:=(Sn.askB (decide (lim<x.length+y.length))).bind λk=>Sn.ite (c:=k=Z) (.no B) (Sn.ys (alloc st (.lst Z (x++y))));simpa only[oBs,decide_eq_true_eq] using h
def Sn.bin(n)(st)(c)(a b):Sn (binT n st c a b) (binop st c a b):=by
 unfold binT
 split
 ·exact(Sn.add n st _ b).eq (by cases b<;>rfl)
 ·exact(Sn.add n st _ b).eq (by cases b<;>rfl)
 ·split
  ·exact Sn.cond _ _
  ·exact .lf _
 ·exact .askD _
 ·exact .askD _
 ·exact .askD _
 ·exact .lf _
def Sn.bf(n)(st)(f)(ds):Sn (qnr n st f ds) (bfun st f ds):=by
 unfold qnr
 split
 ·split
  ·exact((Sn.seq n st _).bind λxs=>.ys _).eq (bm)
  ·exact .lf _
 ·split
  ·rename_i l;refine((Sn.rd n st l).bind λc=>(Sn.lf _).bind λxs=>.ys _).eq ?_;show _=bList st [.loc l];unfold bList seqAt listAt dkeys dicAt;dsimp only
   cases st[l]? with
   |none=>rfl
   |some c=>cases c<;>rfl
  ·exact .lf _
 ·split
  ·exact((Sn.seq n st _).bind λxs=>.ys _).eq (bm)
  ·exact .lf _
 ·split
  ·rename_i i j;refine((Sn.askB _).bind λk=>.ys _).eq ?_;show Y _=Y _
   by_cases h:j<i<;>simp[h]
  ·exact .no _
 ·exact .askD _
structure SnR (r:RT) (r':R):Prop where
 rl:r.rl=r'
 ev:∀τ st e,Sn (r.ev τ st e) (r'.ev τ st e)
 tst:∀τ st e,Sn (r.tst τ st e) (r'.tst τ st e)
 ex:∀τ st e,Sn (r.ex τ st e) (r'.ex τ st e)
 call:∀f ds st,Sn (r.call f ds st) (r'.call f ds st)
theorem qxg(h:∀st e,Sn (f st e) (a st e)):∀(es:L E) (st:Y2),Sn (evsT f es st) (evs a es st)
 |[],st=>.ys _
 |e::es,st=>(h st e).bind λp=>(qxg h es p.2).bind λq=>.ys _
theorem qw5(h:∀τ st d,Sn (f τ st d) (b τ st d)):∀(k i:Y1) (τ:Sl) (st:Y2),Sn (qdc it f k i τ st) (loop it b k i τ st)
 |0,_,_,_=>.no _
 |k+1,i,τ,st=>by
  unfold loop qdc;refine(Sn.lf _).bind λo=>?_
  cases o with
  |none=>exact .ys _
  |some d=>
   refine(h τ st d).bind λp=>?_;obtain⟨o,s⟩:=p
   cases o with
   |nx a=>exact qw5 h k _ _ _
   |ct a=>exact qw5 h k _ _ _
   |bk a=>exact .ys _
   |rt v=>exact .ys _
theorem qy8(h:∀τ st d,Sn (f τ st d) (b τ st d)):∀(k i:Y1) (a:L D) (τ:Sl) (st:Y2),Sn (qy9 it f k i a τ st) (loopC it b k i a τ st)
 |0,_,_,_,_=>.no _
 |k+1,i,a,τ,st=>by
  unfold loopC qy9;refine(Sn.lf _).bind λo=>?_
  cases o with
  |none=>exact Sn.ite (.no _) (.ys _)
  |some d=>exact Sn.ite (.no _) ((h τ st d).bind λp=>qy8 h k _ _ _ _)
theorem qek(h:∀τ st s,Sn (f τ st s) (b τ st s)):∀(a:L S) (τ:Sl) (st:Y2),Sn (exsT f a τ st) (exs b a τ st)
 |[],_,_=>.ys _
 |s::a,τ,st=>by
  unfold exs exsT;refine Sn.bind (y:=Y (τ,st)) (.askN _) λu=>(h u.1 u.2 s).bind λp=>?_;obtain⟨o,q⟩:=p
  cases o with
  |nx c=>exact qek h a _ _
  |rt _=>exact .ys _
  |bk _=>exact .ys _
  |ct _=>exact .ys _
section
variable (h:SnR r r')
include h
theorem qhr(τ)(st)(e):Sn (srcT n r τ st e) (src r' τ st e):=by
 cases e with
 |rng1 a=>
  refine(h.ev τ st a).bind λp=>?_;obtain⟨d,s⟩:=p
  cases d with
  |int n=>exact Sn.ite (.no _) (.ys _)
  |_=>exact .no _
 |rng2 a b=>exact .no _
 |zip a b=>exact(h.ev τ st a).bind λp=>(h.ev τ _ b).bind λq=>.lf _
 |enu a=>exact(h.ev τ st a).bind λp=>.lf _
 |rev a=>exact(h.ev τ st a).bind λp=>.lf _
 |_=>
  refine(h.ev τ st _).bind λp=>?_;obtain⟨d,s⟩:=p
  cases d with
  |tup n=>exact .ys _
  |str z=>exact .no _
  |_=>exact(Sn.seq n s _).map _
theorem qk3(τ)(st)(e):Sn (qc6 r τ st e) (part r' τ st e):=by
 cases e with
 |none=>exact .ys _
 |some e=>
  refine(h.ev τ st e).bind λp=>?_;obtain⟨d,s⟩:=p
  cases d with
  |int n=>exact .ys _
  |_=>exact .no _
theorem qip(t)(test)(elt)(τ)(st)(d):Sn (turnT r t test elt τ st d) (turnC r' t test elt τ st d):=(Sn.lf _).bind λa=>by
 cases test with
 |none=>exact(h.ev _ _ _).map _
 |some c=>exact(h.tst _ _ _).bind λb=>Sn.ite ((h.ev _ _ _).map _) (.ys _)
omit h in
theorem qhk(p)(k)(st){f:Y4 D->TM α}{g:Y4 D->Y4 α}(hf:∀o,Sn (f o) (g o)):Sn ((dgT n p k st).bind f) (match p.1 with
  |.loc l=>(dicAt st l).bind λkvs=>if isKey k then g (dget kvs k) else B
  |_=>B):=by
 obtain⟨d,s⟩:=p
 cases d with
 |loc l=>
  refine(((Sn.dc n st l).bind λkvs=>Sn.ite (Sn.askQ (dget kvs k)) (.no B)).bind hf).eq ?_;dsimp only
  cases dicAt st l with
  |none=>rfl
  |some kvs=>
   show Option.bind (if isKey k=Z then Y (dget kvs k) else B) g=if isKey k=Z then g (dget kvs k) else B
   by_cases e:isKey k=Z
   ·rw[Z8 e,Z8 e]; rfl
   ·rw[Z7 e,Z7 e]; rfl
 |_=>exact λt K e=>e.elim
omit h in
theorem tg_sn(p k)(st){f:Y4 D->TM α}{g:Y4 D->Y4 α}(hf:∀o,Sn (f o) (g o)):Sn ((tgT n p k st).bind f) (match p,k with
  |.loc l,.fup ks=>(tdcAt st l).bind λkvs=>g (tget kvs ks)
  |_,_=>B):=by
 cases p with
 |loc l=>
  cases k with
  |fup ks=>
   refine(((Sn.tc n st l).bind λkvs=>Sn.askQ (tget kvs ks)).bind hf).eq ?_;dsimp only;cases tdcAt st l<;>rfl
  |_=>exact λt K e=>e.elim
 |_=>exact λt K e=>e.elim
theorem qck(τ)(st)(e):Sn (qcv n r τ st e) (stepEv r' τ st e):=by
 cases e with
 |var i=>exact .lf _
 |lit d=>exact .ys _
 |glo x d=>exact .ys _
 |bin j a b=>exact(h.ev τ st a).bind λp=>(h.ev τ _ b).bind λq=>.bin _ _ _ _ _
 |neg a=>exact(h.ev τ st a).bind λp=>.lf _
 |not a=>exact(h.ev τ st a).bind λp=>.lf _
 |cmp j a b=>exact(h.ev τ st a).bind λp=>(h.ev τ _ b).bind λq=>(Sn.cmp _ _ _ _).map _
 |cmp2 j w a b c=>exact(h.ev τ st a).bind λp=>(h.ev τ _ b).bind λq=>(Sn.cmp _ _ _ _).bind λk=>Sn.ite ((h.ev τ _ c).bind λu=>(Sn.cmp _ _ _ _).map _) (.ys _)
 |and a b=>
  refine(h.ev τ st a).bind λp=>?_;obtain⟨d,s⟩:=p
  cases d with
  |bl k=>cases k with
   |true=>exact h.ev τ _ b
   |false=>exact .ys _
  |_=>exact .no _
 |or a b=>
  refine(h.ev τ st a).bind λp=>?_;obtain⟨d,s⟩:=p
  cases d with
  |bl k=>cases k with
   |false=>exact h.ev τ _ b
   |true=>exact .ys _
  |_=>exact .no _
 |ite c a b=>exact(h.tst τ st c).bind λp=>Sn.ite (h.ev τ _ a) (h.ev τ _ b)
 |tup es=>exact(qxg (h.ev τ) es st).bind λp=>Sn.ite (.no _) (.ys _)
 |lst es=>exact(qxg (h.ev τ) es st).bind λp=>Sn.ite (.no _) (.ys _)
 |idx a b=>exact(h.ev τ st a).bind λp=>(h.ev τ _ b).bind λq=>(Sn.askI _).map _
 |sli a lo hi=>exact(h.ev τ st a).bind λp=>(qk3 h τ _ lo).bind λl=>(qk3 h τ _ hi).bind λu=>.lf _
 |call f es=>exact(qxg (h.ev τ) es st).bind λp=>h.call f _ _
 |bcall f es=>exact(qxg (h.ev τ) es st).bind λp=>.bf _ _ _ _
 |isi a y m=>exact(h.ev τ st a).bind λp=>(Sn.lf _).map _
 |lenset a=>exact(h.ev τ st a).bind λp=>(Sn.askI _).map _
 |gc a=>exact((h.ev τ st a).bind λp=>Sn.gc st p).eq (bm)
 |meth a m es=>exact(h.ev τ st a).bind λp=>Sn.mt _ _ _ _ ((qxg (h.ev τ) es _).bind λq=>.meth _ _ _ _ _)
 |dic es=>
  refine(qxg (h.ev τ) es _).bind λp=>((Sn.wd n p.2 st.length).bind λv=>Sn.lf _).eq ?_
  cases wdicAt p.2 st.length with
  |none=>rfl
  |some v=>cases v<;>rfl
 |didx a b=>exact(h.ev τ st a).bind λp=>(h.ev τ _ b).bind λq=>qhk p q.1 q.2 λo=>(Sn.lf o).map _
 |din neg a b=>exact(h.ev τ st a).bind λp=>(h.ev τ _ b).bind λq=>qhk q p.1 q.2 λo=>Sn.ys _
 |dgt a b=>
  refine(h.ev τ st a).bind λp=>?_;obtain⟨d,s⟩:=p
  cases d with
  |loc l=>exact(Sn.dc n s l).bind λ_=>(h.ev τ _ b).bind λq=>qhk (.loc l,s) q.1 q.2 λo=>Sn.ys _
  |_=>exact .no _
 |tsli a lo hi=>exact(h.ev τ st a).bind λp=>(qk3 h τ _ lo).bind λl=>(qk3 h τ _ hi).bind λu=>.lf _
 |unt a=>exact(h.ev τ st a).bind λp=>.lf _
 |tdn=>exact .ys _
 |tdi neg a b=>
  refine(h.ev τ st a).bind λp=>(h.ev τ _ b).bind λq=>(tg_sn q.1 p.1 q.2 λo=>Sn.ys _).eq ?_
  cases q.1 with
  |loc l=>
   cases p.1 with
   |fup k=>dsimp only; cases tdcAt q.2 l<;>rfl
   |_=>rfl
  |_=>cases p.1<;>rfl
 |gidx x ks ds b=>exact(h.ev τ st b).bind λp=>.lf _
 |gin neg x ks b=>exact(h.ev τ st b).bind λp=>.lf _
 |comp t it g elt sr=>
  show Sn (askE (stepEv r.rl τ st (.comp t it g elt sr)) _) _;rw[h.rl];exact Sn.askE ((qhr h τ st it).bind λp=>(qy8 (qip h t g elt) _ _ _ _ _).map _)
 |attr C a f=>exact(h.ev τ st a).bind λp=>(Sn.ob _ _ _ _).bind λfs=>.lf _
 |mcall C f m a es=>exact(h.ev τ st a).bind λp=>(Sn.ob _ _ _ _).bind λfs=>Sn.ite (.no _) ((qxg (h.ev τ) es _).bind λq=>h.call f _ _)
 |new C f es=>exact(qxg (h.ev τ) es st).bind λp=>(h.call f _ _).bind λq=>Sn.ite (.ys _) (.no _)
 |_=>exact .no _
theorem qas(τ)(st)(e):Sn (qym n r τ st e) (stepTst r' τ st e):=by
 cases e with
 |not a=>exact(h.tst τ st a).map _
 |and a b=>exact(h.tst τ st a).bind λp=>Sn.ite (h.tst τ _ b) (.ys _)
 |or a b=>exact(h.tst τ st a).bind λp=>Sn.ite (.ys _) (h.tst τ _ b)
 |ite _ _ _=>exact .no _
 |din neg a b=>
  refine((h.ev τ st a).bind λp=>(h.ev τ _ b).bind λq=>qhk q p.1 q.2 λo=>Sn.ys _).eq ?_;show _=(dinR r' τ st neg a b).bind _;unfold dinR;simp only[Qjp];refine congrArg _ (funext λp=>congrArg _ (funext λq=>?_))
  cases q.1 with
  |loc l=>
   dsimp only
   cases dicAt q.2 l with
   |none=>rfl
   |some kvs=>
    simp only[oBs]
    by_cases e:isKey p.1=Z
    ·rw[Z8 e,Z8 e]; rfl
    ·rw[Z7 e,Z7 e]; rfl
  |_=>rfl
 |tdi neg a b=>
  refine((h.ev τ st a).bind λp=>(h.ev τ _ b).bind λq=>tg_sn q.1 p.1 q.2 λo=>Sn.ys _).eq ?_;show _=(tdiR r' τ st neg a b).bind _;unfold tdiR;simp only[Qjp];refine congrArg _ (funext λp=>congrArg _ (funext λq=>?_))
  cases q.1 with
  |loc l=>
   cases p.1 with
   |fup k=>dsimp only; cases tdcAt q.2 l<;>rfl
   |_=>rfl
  |_=>cases p.1<;>rfl
 |gin neg x ks b=>
  refine((h.ev τ st b).bind λp=>Sn.lf _).eq ?_;show _=(ginR r' τ st neg ks b).bind _;unfold ginR;simp only[Qjp];refine congrArg _ (funext λp=>?_);cases p.1<;>rfl
 |cmp f a b=>exact(h.ev τ st a).bind λp=>(h.ev τ _ b).bind λq=>(Sn.cmp _ _ _ _).map _
 |cmp2 f d a b c=>exact(h.ev τ st a).bind λp=>(h.ev τ _ b).bind λq=>(Sn.cmp _ _ _ _).bind λk=>Sn.ite ((h.ev τ _ c).bind λu=>(Sn.cmp _ _ _ _).map _) (.ys _)
 |_=>exact(h.ev τ st _).bind λp=>(Sn.truth _ _ _).map _
theorem qjw(τ)(st)(s):Sn (qja n r τ st s) (stepEx r' τ st s):=by
 cases s with
 |set t e=>exact(h.ev τ st e).bind λp=>(Sn.lf _).map _
 |dset a i e=>
  refine(h.ev τ st e).bind λp=>(h.ev τ _ a).bind λq=>(h.ev τ _ i).bind λu=>?_;obtain⟨d,s⟩:=q
  cases d with
  |loc l=>
   refine((Sn.wd n u.2 l).bind λkvs=>Sn.ite (Sn.cond (decide (kvs.length<lim)) (Out.nx τ,u.2.set l (.dic Z (dput kvs u.1 p.1)))) (.no B)).eq ?_;refine congrArg _ (funext λkvs=>?_)
   cases isKey u.1 with
   |true=>rfl
   |false=>rfl
  |_=>exact .no _
 |tds a i e=>
  refine(h.ev τ st e).bind λp=>(h.ev τ _ a).bind λq=>(h.ev τ _ i).bind λu=>?_;obtain⟨d,s⟩:=q;obtain⟨k,s'⟩:=u
  cases d with
  |loc l=>
   cases k with
   |fup k=>
    refine((Sn.wt n s' l).bind λkvs=>Sn.cond (decide (kvs.length<lim)) (Out.nx τ,s'.set l (.tdc Z (tput kvs k p.1)))).eq ?_;refine congrArg _ (funext λkvs=>?_)
    by_cases g:kvs.length<lim
    ·rw[Z5 g,Z8 g]; rfl
    ·rw[Z6 g,Z7 g]; rfl
   |_=>exact .no _
  |_=>exact .no _
 |setA C a f e=>
  refine(h.ev τ st e).bind λp=>(h.ev τ _ a).bind λq=>(Sn.ob n _ _ _).bind λfs=>?_;obtain⟨d,s⟩:=q
  cases d with
  |loc l=>exact Sn.ite (.ys _) (.no _)
  |_=>exact .no _
 |expr e=>exact(h.ev τ st e).map _
 |ret e=>exact(h.ev τ st e).map _
 |ite c a b=>
  show Sn (askT (stepEx r.rl τ st (.ite c a b)) _) _;rw[h.rl];exact Sn.askT ((h.tst τ st c).bind λp=>Sn.ite (h.ex τ _ a) (h.ex τ _ b))
 |forr t it body=>
  show Sn (askS (stepEx r.rl τ st (.forr t it body)) _) _;rw[h.rl];exact Sn.askS ((qhr h τ st it).bind λp=>qw5 (λτ st d=>(Sn.lf _).bind λj=>h.ex j st body) _ _ _ _)
 |ford t a body=>
  show Sn (askS (stepEx r.rl τ st (.ford t a body)) _) _;rw[h.rl];exact Sn.askS (.no _)
 |_=>exact .no _
end
def qll(c):Le (RL c) λm=>runK c m:=
 ⟨λτ st e x h=>by obtain⟨n,e⟩:=lim1_is h; exact⟨n,λm a=>ev_up e a⟩,λτ st e x h=>by obtain⟨n,e⟩:=lim1_is h; exact⟨n,λm a=>qhh e a⟩,λτ st e x h=>by obtain⟨n,e⟩:=lim1_is h; exact⟨n,λm a=>ex_up e a⟩,λf ds st x h=>⟨0,λm _=>by show(runK c m).call f ds st=_; rw[runK_call]; exact h⟩⟩
def qje(c)(τ)(st)(e)(x)(h:stepEv (RL c) τ st e=Y x):(RL c).ev τ st e=Y x:=by
 obtain⟨n,hn⟩:=qjb (qll c) τ st e x h;exact qw6 (n:=n+1) (λ_ _ _ h k=>ev_up h k) (hn n (Qqj _))
def rl_tst(c)(τ)(st)(e)(x)(h:stepTst (RL c) τ st e=Y x):(RL c).tst τ st e=Y x:=by
 obtain⟨n,hn⟩:=qxu (qll c) τ st e x h;exact qw6 (n:=n+1) (λ_ _ _ h k=>qhh h k) (hn n (Qqj _))
def rl_ex(c)(τ)(st)(e)(x)(h:exs (stepEx (RL c)) e τ st=Y x):(RL c).ex τ st e=Y x:=by
 obtain⟨n,hn⟩:=qvj (qjy (qll c)) e τ st x h;exact qw6 (n:=n+1) (λ_ _ _ h k=>ex_up h k) (hn n (Qqj _))
theorem qx0(h:∀f ds st,Sn (c f ds st) (c' f ds st)):∀k,SnR (runT n (RL c') c k) (RL c')
 |0=>⟨rfl,λ_ _ _=>.no _,λ_ _ _=>.no _,λ_ _ _=>.no _,h⟩
 |k+1=>⟨rfl,λτ st e=>(qck (qx0 h k) τ st e).up (qje c' τ st e),λτ st e=>(qas (qx0 h k) τ st e).up (rl_tst c' τ st e),λτ st a=>(qek (qjw (qx0 h k)) a τ st).up (rl_ex c' τ st a),h⟩
theorem qq9:∀(d f:Y1) (ds:L D) (st:Y2),Sn (qkj fns n b k d f ds st) (callD fns (k+d) f ds st)
 |0,f,ds,st=>.no _
 |d+1,f,ds,st=>by
  unfold qkj
  by_cases a:b.contains f=Z
  ·rw[Z8 a];exact .askC _
  ·rw[Z7 a];show Sn _ (stepCall fns (RL (callD fns (k+d))) f ds st);unfold stepCall
   cases hf:fns[f]? with
   |none=>exact .no _
   |some F=>
    refine Sn.ite (((qx0 (λf ds st=>qq9 d f ds st) 40).ex _ _ _).bind λp=>?_) (.no _);obtain⟨o,s⟩:=p
    cases o with
    |rt _=>exact .ys _
    |nx _=>exact .ys _
    |bk _=>exact .no _
    |ct _=>exact .no _
def qg7(n)(g)(d)(P:Prop->Prop)(t)(c:P (r=r))(h:exsT (qja n (runT n (RL (callD fns (k+d))) (qkj fns n g k d) 40)) b τ st t (λa _=>a=r)=P (r=r):=by kernel_rfl):exs (stepEx (RL (callD fns (k+d)))) b τ st=Y r:=by
 rw[<- h]at c;obtain⟨a,i,e,rfl⟩:=qek (qjw (qx0 (λf ds st=>qq9 d f ds st) 40)) b τ st t _ c;exact e
def qze(n)(c)(d)(P:Prop->Prop)(t)(e:P (r=r))(h:exsT (qja n (runT n (RL (callD fns (k+d))) (qkj fns n c k d) 40)) b τ st t (λa _=>a=r)=P (r=r):=by kernel_rfl):(RL (callD fns (k+d))).ex τ st b=Y r:=rl_ex _ _ _ _ _ (qg7 n c d P t e h)
def qzf(n)(c)(d)(P:Prop->Prop)(t)(b:P (r=r))(h:(runT n (RL (callD fns (k+d))) (qkj fns n c k d) 40).ev τ st e t (λa _=>a=r)=P (r=r):=by kernel_rfl):(RL (callD fns (k+d))).ev τ st e=Y r:=by
 rw[<- h]at b;obtain⟨a,g,e,rfl⟩:=(qx0 (λf ds st=>qq9 d f ds st) 40).ev τ st e t _ b;exact e
def qzl(n)(c)(d)(P:Prop->Prop)(t)(b:P (r=r))(h:(runT n (RL (callD fns (k+d))) (qkj fns n c k d) 40).tst τ st e t (λa _=>a=r)=P (r=r):=by kernel_rfl):(RL (callD fns (k+d))).tst τ st e=Y r:=by
 rw[<- h]at b;obtain⟨a,g,e,rfl⟩:=(qx0 (λf ds st=>qq9 d f ds st) 40).tst τ st e t _ b;exact e
def qzz(n)(c)(d)(P:Prop->Prop)(t)(b:P (r=r))(h:qkj fns n c k d f ds st t (λa _=>a=r)=P (r=r):=by kernel_rfl):callD fns (k+d) f ds st=Y r:=by
 rw[<- h]at b;obtain⟨a,g,e,rfl⟩:=qq9 d f ds st t _ b;exact e
def qz1(n)(g)(d)(c)(P:Prop->Prop)(t)(b:P (c=r))(h:qkj fns n g k d f ds st t (λa _=>a=r)=P (c=r):=by kernel_rfl):callD fns (k+d) f ds st=Y r:=by
 rw[<- h]at b;obtain⟨a,i,e,rfl⟩:=qq9 d f ds st t _ b;exact e
end M
end
section
namespace MS
open PySem PySem.Spec PyProof.Rows L2
def qx6:fillsNumberSlot (.type "tuple") "mul" = pure false:=
 PySem.fillsNumberSlot_seq F.slot_tuple_mul.lookup (by decide +kernel) F.slot_tuple_rmul.lookup (by decide +kernel)
def qvr:seqRepeat? (.type "tuple")=pure (Y (.builtin "tuple.__mul__")):=by
 unfold seqRepeat?;rw[PySem.seqSlot_of (name:="__mul__") F.slot_tuple_mul.lookup (by decide +kernel),PySem.seqSlot_of (name:="__rmul__") F.slot_tuple_rmul.lookup (by decide +kernel)]
 rfl
def qkz(a)(t)(l)(b)(n)(c)(sl):
  Meets (Qs.«int.__rmul__» ⟨[.int a t,.ref l],[]⟩) (λ_ R s=>s.heap.get? l=Y { cls:=.type "tuple",dict:=c,data:=.seq b n,slots:=sl }/\R (.ok (.ret Value.notImplemented)) s):=
 .of_wp λprog w A R s h=>by obtain⟨e,g,d,tk,os⟩:=s; obtain⟨f,h⟩:=h; wp_walk; exact⟨_,rfl,h⟩
def qj5(l)(a)(n)(c)(sl)(x)(u)(b:¬ (decide (x < -(2 ^ 63))||decide (x >= 2 ^ 63))=Z)(i:(a.isEmpty||x==1)=Z):
  Meets (Qs.«tuple.__mul__» ⟨[.ref l,.int x u],[]⟩) (λ_ R s=>s.heap.get? l=Y { cls:=.type "tuple",dict:=c,data:=.seq a n,slots:=sl }/\R (.ok (.ret (Value.ref l))) s):=
 .of_wp λprog w A R s h=>by
  obtain⟨e,g,d,tk,os⟩:=s; obtain⟨f,h⟩:=h
  wp_walk
  simp only[Z7 b]
  wp_walk
  exact⟨_,rfl,h⟩
def qj6(l)(a)(n)(c)(sl)(x)(u)(b:¬ (decide (x < -(2 ^ 63))||decide (x >= 2 ^ 63))=Z)(j:¬ (a.isEmpty||x==1)=Z)(i:(decide (x<=0)||a.isEmpty)=Z):
  Meets (Qs.«tuple.__mul__» ⟨[.ref l,.int x u],[]⟩) (λ_ R s=>s.heap.get? l=Y { cls:=.type "tuple",dict:=c,data:=.seq a n,slots:=sl }/\R (.ok (.ret (Value.ref s.heap.objs.size))) { s with heap:=s.heap.push { cls:=.type "tuple",data:=.seq #[] } }):=
 .of_wp λprog w A R s h=>by
  obtain⟨e,g,d,tk,os⟩:=s; obtain⟨f,h⟩:=h
  wp_walk
  simp only[Z7 b]
  wp_walk
  exact⟨_,rfl,h⟩
def qj7(l)(a)(n)(f)(sl)(x)(u)(e:¬ (decide (x < -(2 ^ 63))||decide (x >= 2 ^ 63))=Z)(p:¬ (a.isEmpty||x==1)=Z)(o:¬ (decide (x<=0)||a.isEmpty)=Z)(c:¬ ((a.size:J)*x > (2 ^ 63 - 1) / 8))(m:¬ Builtin.Tuple.tupleTooMany ((a.size:J)*x)=Z)(k:(List.foldl (λb x2=>b++x2) #[] (List.replicate x.toNat a)).size<=sizeLine):
  Meets (Qs.«tuple.__mul__» ⟨[.ref l,.int x u],[]⟩) (λ_ R s=>s.heap.get? l=Y { cls:=.type "tuple",dict:=f,data:=.seq a n,slots:=sl }/\R (.ok (.ret (Value.ref s.heap.objs.size))) { s with heap:=s.heap.push { cls:=.type "tuple",data:=.seq (List.foldl (λb x2=>b++x2) #[] (List.replicate x.toNat a)) } }):=
 .of_wp λprog w A R s h=>by
  obtain⟨i,g,d,tk,os⟩:=s; obtain⟨j,h⟩:=h
  wp_walk
  simp only[Z7 e]
  wp_walk
  simp only[Z7 c]
  wp_walk
  exact⟨_,rfl,h⟩
noncomputable def rRepT(K:Qqq):R2:=λx y H Q=>∃l k xs,x=.ref l/\y=.int k/\SqT K H l xs/\-(2 ^ 62)<=k/\k<2 ^ 62/\xs.length*k.toNat<=sizeLine/\
 (∀ys,ys=(List.replicate k.toNat xs).flatten->(ys=xs->Q (.ref l) H)/\∀p,H p=B->Q (.ref p) (upd H p (.tup ys)))
def qma:OpR X (Q3 .Mult) (rRepT X.K):=by
 intro pins s σ H x y v u Q I E D h;obtain⟨l,k,xs,rfl,rfl,P,W,V,p,q⟩:=h;cases E;obtain⟨t,rfl⟩:=D;obtain⟨a,r,R,K⟩:=I.tuple P;obtain⟨⟨cls,d,C,sl⟩,b,hc,n,hd⟩:=id R;simp only at hc hd;subst hc hd;have w:=r.length;obtain⟨G,o⟩:=q _ rfl;have A:=λm=>by
  have:=foldl_rep a m [];rw[List.nil_append]at this;exact this
 have i:¬ (decide (k < -(2 ^ 63))||decide (k >= 2 ^ 63))=true:=by simp; omega
 refine wpAny_binaryOp_repeat_ref (by decide) ⟨_,b,rfl⟩ (λs'=>typeIs_int s' k t) qx6 F.fills_int_mul F.slot_int_rmul qvr F.slot_int_index.lookup
  (Q0 F.slot_int_rmul (typeIs_int s k t) F.entry_int_rmul (F.args_int_rmul_2 _ _) (qkz k t l a.toArray n d sl) ⟨b,rfl,⟨_,b,rfl⟩,?_⟩)
 by_cases h1:(a.toArray.isEmpty||k==1)=Z
 ·refine Q0 F.slot_tuple_mul ⟨_,b,rfl⟩ F.entry_tuple_mul (F.args_tuple_mul_2 _ _) (qj5 l a.toArray n d sl k t i h1) ⟨b,⟨.ref l,H,I,rfl,G ?_⟩⟩;rw[Qza]at h1;rcases h1 with z|z
  ·have j:a=[]:=by simpa using z
   have T:=Qz3.mp (by rw[w,j]; rfl);rw[T];simp
  ·have j:k=1:=by simpa using z
   rw[j];simp
 ·have g:a≠[]:=λz=>h1 (by rw[z]; rfl)
  by_cases h2:(decide (k<=0)||a.toArray.isEmpty)=Z
  ·refine Q0 F.slot_tuple_mul ⟨_,b,rfl⟩ F.entry_tuple_mul (F.args_tuple_mul_2 _ _) (qj6 l a.toArray n d sl k t i h1 h2) ⟨b,?_⟩;have S:k<=0:=by
    rw[Qza]at h2;rcases h2 with z|z
    ·simpa using z
    ·exact absurd (by simpa using z) g
   have U:k.toNat=0:=by omega
   refine⟨.ref _,_,I.laid (λ_ _ e=>Qqz _ e) (Qqj _) ?_,rfl,o _ I.fresh⟩;rw[U];exact⟨Qq8 _,[],.nil,IsTup.new s.heap _⟩
  ·have S:0<k:=by
    simp at h2; omega
   have c:((a.toArray.size:Y1):J)*k=((a.length*k.toNat:Y1):J):=by
    rw[Qqc,Int.natCast_mul]
    congr 1
    omega
   have f:a.length*k.toNat<=sizeLine:=by rw[<- w]; exact p
   have N:(sizeLine:Y1)<2 ^ 60:=by rw[Q2]; decide
   refine Q0 F.slot_tuple_mul ⟨_,b,rfl⟩ F.entry_tuple_mul (F.args_tuple_mul_2 _ _) (qj7 l a.toArray n d sl k t i h1 h2 ?_ ?_ ?_) ⟨b,?_⟩
   ·rw[c]; omega
   ·unfold Builtin.Tuple.tupleTooMany;rw[c,decide_eq_true_eq];omega
   ·rw[A,Qqc,len_rep,Nat.mul_comm]; exact f
   ·refine⟨.ref _,_,I.laid (λ_ _ e=>Qqz _ e) (Qqj _) ?_,rfl,o _ I.fresh⟩;rw[A];exact⟨by rw[len_rep,Nat.mul_comm]; exact p,_,r.rep k.toNat,IsTup.new s.heap _⟩
section
def qq8{lo:Y4 J}(c:IsTup s.heap t a)(hs:s.heap.IsSliceOf sl vl i .none)(pl:IsPart vl lo)(k:IsPart i d)(j:HT.sIx a.size 0 lo=0/\HT.sIx a.size a.size d=a.size)(h:Q (.ref t) s):wpAny (model prog w) A (Zv (.ref t) (.ref sl)) Q E s:=by
 obtain⟨os,e,f,l⟩:=id hs;have g:s.TypeIs (.ref sl) "slice":=⟨os,e,f⟩
 unfold Zv
 try with_reducible refine Q4 ?_
 first|refine Qq (Qx ?_)|skip
 refine Qq (wpAny_sequenceKey c.typeIs (by decide) ?_)
 refine Qq (Qc c.typeIs PyProof.Rows.slot_tuple_getitem
  (Qe PyProof.Rows.slot_tuple_getitem c.typeIs entry_tuple_getitem ?_ (args_tuple_getitem _ _)))
 show wpAny _ _ (Builtin.Tuple.tupleItemsOf (.ref t) >>= _) _ _ s;refine Qq (tupleItemsOf_ c ?_);refine Qq (Zp g ?_);rw[Z8 (by decide)];refine Qq (HT.sliceApplied_gen hs pl k ?_);have b:(((HT.sIx a.size 0 lo:Y1):J)==0&&(1:J)==1&&(HT.sIx a.size a.size d - HT.sIx a.size 0 lo)==a.size)=true:=by
  rw[j.1,j.2];simp
 show wpAny _ _ (if (((HT.sIx a.size 0 lo:Y1):J)==0&&(1:J)==1&&(HT.sIx a.size a.size d - HT.sIx a.size 0 lo)==a.size)=Z then _ else _) _ _ s;rw[Z8 b];refine Qq ?_;unfold Builtin.Tuple.tupleIsExact;refine Qq (Zp c.typeIs (Qx ?_));rw[Z8 (by decide)]
 first
  |exact Qq (Zx (Qx ⟨_,rfl,Qx h⟩))
  |exact Qq (Zx (Qq (Qx (Qx ⟨_,rfl,Qx h⟩))))
  |exact Qq (Qq (Zx (Qx (Qx ⟨_,rfl,Qx h⟩))))
end
end MS
end
section
namespace MS
open PySem PySem.Spec PyProof.Rows L2
open M (D Yb Y2 Sl)
def nn{α:Type}{a:α}{P:Prop}(h:B=Y a):P:=by cases h
def SqF(K:Qqq)(H:Hp)(a:Y8)(xs:L V):Prop:=
 (∃o,H a=Y (.frz o (.lst xs)))\/∃(o:Obj) (its:Array Y9) (n:Y1),K.lookup a=Y o/\o.cls=.type "list"/\o.dict=B/\o.data=.seq its n/\its.size<=sizeLine/\Vals xs its.toList
mutual
noncomputable def IsD(K:Qqq)(m:L Y8)(H:Hp):D->V->Prop
 |.non,v=>v=.non
 |.bl b,v=>v=.bl b
 |.int i,v=>v=.int i
 |.str s,v=>v=.str s
 |.tup ds,v=>∃a xs,v=.ref a/\SqT K H a xs/\IsDs K m H ds xs
 |.lst ds,v=>∃a xs,v=.ref a/\SqF K H a xs/\IsDs K m H ds xs
 |.loc l,v=>∃a,m[l]?=Y a/\v=.ref a
 |.fup ks,v=>∃a,v=.ref a/\H a=Y (.tup (ks.map .int))
noncomputable def IsDs(K:Qqq)(m:L Y8)(H:Hp):L D->L V->Prop
 |[],xs=>xs=[]
 |d::ds,xs=>∃x r,xs=x::r/\IsD K m H d x/\IsDs K m H ds r
end
def Sub(m m':L Y8):Prop:=∀(l:Y1) (a:Y8),m[l]?=Y a->m'[l]?=Y a
noncomputable def Sq:HO->Prop
 |.lst _=>True
 |.tup _=>True
 |_=>False
structure Tr (H H':Hp):Prop where
 tup:∀b xs,H b=Y (.tup xs)->H' b=Y (.tup xs)
 frz:∀b o u,H b=Y (.frz o u)->H' b=Y (.frz o u)
structure Tw (H H':Hp):Prop where
 tup:∀b xs,H b=Y (.tup xs)->H' b=Y (.tup xs)
 frz:∀b o u,Sq u->H b=Y (.frz o u)->H' b=Y (.frz o u)
def Tr.w(t:Tr H H'):Tw H H':=⟨t.tup,λb o u _=>t.frz b o u⟩
def Sub.refl(m):Sub m m:=λ_ _ h=>h
def Sub.trans(a:Sub m c)(b:Sub c m2):Sub m m2:=λl x h=>b l x (a l x h)
def Sub.app(m r):Sub m (m++r):=λl a h=>by
 rw[Qq6 (Qqk.mp h).1]; exact h
def Tr.refl(H):Tr H H:=⟨λ_ _ h=>h,λ_ _ _ h=>h⟩
def Tr.trans(a:Tr H d)(b:Tr d H2):Tr H H2:=⟨λc xs h=>b.tup c xs (a.tup c xs h),λc o u h=>b.frz c o u (a.frz c o u h)⟩
def Tr.of_same(h:Same H H'):Tr H H':=⟨λb xs e=>h b _ e,λb o u e=>h b _ e⟩
def qzv(a:H p=B):Same H (upd H p o):=λb u e=>by
 rw[qzq (qzg e a)]; exact e
def Tr.put(a:H p=Y (.lst xs)):Tr H (upd H p (.lst ys)):=
 ⟨λb zs e=>by rw[qzq (qzs e a (by intro z; cases z))]; exact e,λb o u e=>by rw[qzq (qzs e a (by intro z; cases z))]; exact e⟩
def Tw.sqT{K:Qqq}(t:Tw H H')(h:SqT K H a xs):SqT K H' a xs:=by
 rcases h with (h|⟨o,h⟩)|h
 ·exact .inl (.inl (t.tup _ _ h))
 ·exact .inl (.inr ⟨o,t.frz _ _ _ trivial h⟩)
 ·exact .inr h
def SqF.sq{K:Qqq}(h:SqF K H a xs):SqL K H a xs:=by
 rcases h with h|h
 ·exact .inl (.inr h)
 ·exact .inr h
def Tw.sqF{K:Qqq}(t:Tw H H')(h:SqF K H a xs):SqF K H' a xs:=by
 rcases h with⟨o,h⟩|h
 ·exact .inl ⟨o,t.frz _ _ _ trivial h⟩
 ·exact .inr h
theorem Tr.sqT{K:Qqq}(t:Tr H H')(h:SqT K H a xs):SqT K H' a xs:=t.w.sqT h
theorem Tr.sqF{K:Qqq}(t:Tr H H')(h:SqF K H a xs):SqF K H' a xs:=t.w.sqF h
section
variable {K:Qqq}{m m':L Y8}{H H':Hp}
mutual
theorem qz8(hs:Sub m m')(b:Tw H H'):∀(d:D) (v:V),IsD K m H d v->IsD K m' H' d v
 |.non,_,h=>h
 |.bl _,_,h=>h
 |.int _,_,h=>h
 |.str _,_,h=>h
 |.tup ds,_,h=>by
  unfold IsD at h ⊢;obtain⟨a,xs,e,q,r⟩:=h;exact⟨a,xs,e,b.sqT q,qz5 hs b ds xs r⟩
 |.lst ds,_,h=>by
  unfold IsD at h ⊢;obtain⟨a,xs,e,q,r⟩:=h;exact⟨a,xs,e,b.sqF q,qz5 hs b ds xs r⟩
 |.loc l,_,h=>by
  unfold IsD at h ⊢;obtain⟨a,e,q⟩:=h;exact⟨a,hs l a e,q⟩
 |.fup ks,_,h=>by
  unfold IsD at h ⊢;obtain⟨a,e,q⟩:=h;exact⟨a,e,b.tup _ _ q⟩
theorem qz5(hs:Sub m m')(a:Tw H H'):∀(ds:L D) (xs:L V),IsDs K m H ds xs->IsDs K m' H' ds xs
 |[],_,h=>h
 |d::ds,_,h=>by
  unfold IsDs at h ⊢;obtain⟨x,r,e,q,t⟩:=h;exact⟨x,r,e,qz8 hs a d x q,qz5 hs a ds r t⟩
end
def qzw(hs:Sub m m')(a:Tr H H')(d)(v)(h:IsD K m H d v):IsD K m' H' d v:=qz8 hs a.w d v h
def qza(hs:Sub m m')(a:Tr H H')(ds)(xs)(h:IsDs K m H ds xs):IsDs K m' H' ds xs:=qz5 hs a.w ds xs h
theorem IsD.int(h:IsD K m H (.int i) v):v=.int i:=by unfold IsD at h; exact h
theorem IsD.bl(h:IsD K m H (.bl i) v):v=.bl i:=by unfold IsD at h; exact h
theorem IsD.str(h:IsD K m H (.str i) v):v=.str i:=by unfold IsD at h; exact h
theorem IsD.non(h:IsD K m H .non v):v=.non:=by unfold IsD at h; exact h
theorem IsD.tup(h:IsD K m H (.tup ds) v):∃a xs,v=.ref a/\SqT K H a xs/\IsDs K m H ds xs:=by unfold IsD at h; exact h
theorem IsD.fup(h:IsD K m H (.fup ks) v):∃a,v=.ref a/\H a=Y (.tup (ks.map .int)):=by unfold IsD at h; exact h
theorem IsD.lst(h:IsD K m H (.lst ds) v):∃a xs,v=.ref a/\SqF K H a xs/\IsDs K m H ds xs:=by unfold IsD at h; exact h
theorem IsD.loc(h:IsD K m H (.loc l) v):∃a,m[l]?=Y a/\v=.ref a:=by unfold IsD at h; exact h
def mkInt(i):IsD K m H (.int i) (.int i):=by unfold IsD; rfl
def mkBl(i):IsD K m H (.bl i) (.bl i):=by unfold IsD; rfl
def mkStr(i):IsD K m H (.str i) (.str i):=by unfold IsD; rfl
def qk6:IsD K m H .non .non:=by unfold IsD; rfl
def qqu(h:SqT K H a xs)(q:IsDs K m H ds xs):IsD K m H (.tup ds) (.ref a):=by unfold IsD; exact⟨a,xs,rfl,h,q⟩
def qbz(h:SqF K H a xs)(q:IsDs K m H ds xs):IsD K m H (.lst ds) (.ref a):=by unfold IsD; exact⟨a,xs,rfl,h,q⟩
def qgo(h:H a=Y (.tup (ks.map .int))):IsD K m H (.fup ks) (.ref a):=by unfold IsD; exact⟨a,rfl,h⟩
def qgn(h:m[l]?=Y a):IsD K m H (.loc l) (.ref a):=by unfold IsD; exact⟨a,h,rfl⟩
def IsDs.nil(h:IsDs K m H [] xs):xs=[]:=by unfold IsDs at h; exact h
def IsDs.cons(h:IsDs K m H (d::ds) xs):∃x r,xs=x::r/\IsD K m H d x/\IsDs K m H ds r:=by unfold IsDs at h; exact h
def qqz:IsDs K m H [] []:=by unfold IsDs; rfl
def qzm(h:IsD K m H d x)(t:IsDs K m H ds r):IsDs K m H (d::ds) (x::r):=by unfold IsDs; exact⟨x,r,rfl,h,t⟩
def IsDs.one(h:IsDs K m H [d] xs):∃x,xs=[x]/\IsD K m H d x:=by
 obtain⟨x,r,rfl,q,t⟩:=h.cons;rw[t.nil];exact⟨x,rfl,q⟩
def IsDs.two(h:IsDs K m H [d,e] xs):∃x y,xs=[x,y]/\IsD K m H d x/\IsD K m H e y:=by
 obtain⟨x,r,rfl,q,t⟩:=h.cons;obtain⟨y,rfl,a⟩:=t.one;exact⟨x,y,rfl,q,a⟩
theorem IsDs.length:∀{ds}{xs},IsDs K m H ds xs->ds.length=xs.length
 |[],_,h=>by rw[h.nil]; rfl
 |_::_,_,h=>by
  obtain⟨x,r,rfl,_,t⟩:=h.cons;rw[Qqg,Qqg,t.length]
theorem IsDs.get:∀{ds:L D}{xs:L V}{i:Y1}{d:D},IsDs K m H ds xs->ds[i]?=Y d->∃x,xs[i]?=Y x/\IsD K m H d x
 |[],_,_,_,_,e=>by simp at e
 |d::ds,_,0,d',h,e=>by
  obtain⟨x,r,rfl,q,_⟩:=h.cons;have c:d=d':=by simpa using e
  subst c;exact⟨x,rfl,q⟩
 |d::ds,_,i+1,d',h,e=>by
  obtain⟨x,r,rfl,_,t⟩:=h.cons;obtain⟨y,b,a⟩:=t.get (by simpa using e);exact⟨y,by simpa using b,a⟩
theorem IsDs.append:∀{ds es}{xs ys},IsDs K m H ds xs->IsDs K m H es ys->IsDs K m H (ds++es) (xs++ys)
 |[],_,_,_,h,q=>by rw[h.nil]; exact q
 |_::_,_,_,_,h,q=>by
  obtain⟨x,r,rfl,a,t⟩:=h.cons;exact qzm a (t.append q)
end
noncomputable def keyOf:D->Y4 Key
 |.int i=>Y (.inl i)
 |.str z=>Y (.inr z)
 |_=>B
noncomputable def IsKV(K:Qqq)(m:L Y8)(H:Hp):L (D×D)->L (Key×V)->Prop
 |[],xs=>xs=[]
 |p::r,xs=>∃k v xr,xs=(k,v)::xr/\keyOf p.1=Y k/\IsD K m H p.2 v/\IsKV K m H r xr
theorem qqa{K:Qqq}(hs:Sub m b)(c:Tw H H'):∀(kvs:L (D×D)) (xs:L (Key×V)),IsKV K m H kvs xs->IsKV K b H' kvs xs
 |[],_,h=>h
 |p::r,_,⟨k,v,a,e,d,hv,hr⟩=>⟨k,v,a,e,d,qz8 hs c _ _ hv,qqa hs c r a hr⟩
def qjn{K:Qqq}(hs:Sub m a)(b:Tr H H')(kvs)(xs)(h:IsKV K m H kvs xs):IsKV K a H' kvs xs:=qqa hs b.w kvs xs h
theorem IsKV.length{K:Qqq}:∀{kvs}{xs},IsKV K m H kvs xs->kvs.length=xs.length
 |[],_,h=>by rw[show _=[] from h]; rfl
 |p::r,_,⟨k,v,a,e,_,_,hr⟩=>by rw[e,Qqg,Qqg,hr.length]
def qew(c:keyOf a=Y k)(hb:keyOf b=Y j):M.eqT a b=decide (k=j):=by
 cases a with
 |int i=>
  cases c
  cases b with
  |int d=>cases hb; rw[M.eqT]; by_cases h:i=d<;>simp[h]
  |str z=>cases hb; simp[M.eqT]
  |_=>exact nn hb
 |str z=>
  cases c
  cases b with
  |int d=>cases hb; simp[M.eqT]
  |str e=>cases hb; rw[M.eqT]; by_cases h:z=e<;>simp[h]
  |_=>exact nn hb
 |_=>exact nn c
def qq1(h:M.isKey a=Z):∃k,keyOf a=Y k:=by
 cases a with
 |int i=>exact⟨_,rfl⟩
 |str z=>exact⟨_,rfl⟩
 |_=>cases h
def qm0{K:Qqq}(h:keyOf a=Y k)(i:IsD K m H a v):v=kV k:=by
 cases a with
 |int b=>cases h; exact i.int
 |str z=>cases h; exact i.str
 |_=>exact nn h
theorem IsKV.get{K:Qqq}(c:keyOf a=Y j):∀{kvs}{xs},IsKV K m H kvs xs->(M.dget kvs a=B/\valV xs j=B)\/∃d v,M.dget kvs a=Y d/\valV xs j=Y v/\IsD K m H d v
 |[],_,h=>by rw[show _=[] from h]; exact .inl ⟨rfl,rfl⟩
 |p::r,_,⟨k,v,i,e,f,hv,hr⟩=>by
  subst e;have eq:=qew f c
  by_cases b:k=j
  ·refine .inr ⟨p.2,v,?_,qxq b,hv⟩;rw[Z5 b]at eq;simp[M.dget,eq]
  ·rw[Z6 b]at eq;have g:M.dget (p::r) a=M.dget r a:=by simp[M.dget,eq]
   rw[g,qxx b];exact hr.get c
theorem IsKV.any{K:Qqq}(b:keyOf a=Y j):∀{kvs}{xs},IsKV K m H kvs xs->(kvs.any λp=>M.eqT p.1 a)=(xs.any λp=>decide (p.1=j))
 |[],_,h=>by rw[show _=[] from h]; rfl
 |p::r,_,⟨k,v,d,e,c,hv,hr⟩=>by
  subst e;rw[Qz2,Qz2,qew c b,hr.any b]
theorem IsKV.repl{K:Qqq}(f:keyOf a=Y j)(hd:IsD K m H d w):∀{kvs}{xs},IsKV K m H kvs xs->IsKV K m H (kvs.map λp=>if M.eqT p.1 a then(p.1,d) else p) (xs.map λp=>if p.1=j then(p.1,w) else p)
 |[],_,h=>by rw[show _=[] from h]; rfl
 |p::r,_,⟨k,v,g,e,c,hv,hr⟩=>by
  subst e;have eq:=qew c f;rw[Qqh,Qqh]
  by_cases b:k=j
  ·rw[Z5 b]at eq;rw[Z8 eq,Z8 b];exact⟨k,w,_,rfl,c,hd,hr.repl f hd⟩
  ·rw[Z6 b]at eq;rw[Z7 (by rw[eq]; nofun),Z7 b];exact⟨k,v,_,rfl,c,hv,hr.repl f hd⟩
theorem IsKV.snoc{K:Qqq}(b:keyOf a=Y j)(hd:IsD K m H d w):∀{kvs}{xs},IsKV K m H kvs xs->IsKV K m H (kvs++[(a,d)]) (xs++[(j,w)])
 |[],_,h=>by rw[show _=[] from h]; exact⟨j,w,[],rfl,b,hd,rfl⟩
 |p::r,_,⟨k,v,f,e,c,hv,hr⟩=>by
  subst e;exact⟨k,v,_,rfl,c,hv,hr.snoc b hd⟩
def IsKV.put{K:Qqq}(h:IsKV K m H kvs xs)(b:keyOf a=Y j)(hd:IsD K m H d w):IsKV K m H (M.dput kvs a d) (putK xs j w):=by
 unfold M.dput putK;rw[h.any b]
 split
 ·exact h.repl b hd
 ·exact h.snoc b hd
theorem IsKV.merge{K:Qqq}:∀{more}{ms}{kvs}{xs},IsKV K m H more ms->IsKV K m H kvs xs->IsKV K m H (more.foldl (λa p=>M.dput a p.1 p.2) kvs) (qkc xs ms)
 |[],_,kvs,xs,h,q=>by rw[show _=[] from h]; exact q
 |p::r,_,kvs,xs,⟨k,v,c,e,b,hv,hr⟩,q=>by
  subst e;exact hr.merge (q.put b hv)
noncomputable def IsFs(K:Qqq)(m:L Y8)(H:Hp):L (Y6×D)->L (Y6×V)->Prop
 |[],ys=>ys=[]
 |p::r,ys=>∃v yr,ys=(p.1,v)::yr/\IsD K m H p.2 v/\IsFs K m H r yr
theorem qxn{K:Qqq}(hs:Sub m b)(c:Tw H H'):∀(fs:L (Y6×D)) (ys:L (Y6×V)),IsFs K m H fs ys->IsFs K b H' fs ys
 |[],_,h=>h
 |p::r,_,⟨v,a,e,hv,hr⟩=>⟨v,a,e,qz8 hs c _ _ hv,qxn hs c r a hr⟩
def qds{K:Qqq}(hs:Sub m a)(b:Tr H H')(fs)(ys)(h:IsFs K m H fs ys):IsFs K a H' fs ys:=qxn hs b.w fs ys h
theorem IsFs.length{K:Qqq}:∀{fs}{ys},IsFs K m H fs ys->fs.length=ys.length
 |[],_,h=>by rw[show _=[] from h]; rfl
 |p::r,_,⟨v,a,e,_,hr⟩=>by rw[e,Qqg,Qqg,hr.length]
theorem IsFs.get{K:Qqq}(f):∀{fs}{ys},IsFs K m H fs ys->(fs.lookup f=B/\ys.lookup f=B)\/∃d v,fs.lookup f=Y d/\ys.lookup f=Y v/\IsD K m H d v
 |[],_,h=>by rw[show _=[] from h]; exact .inl ⟨rfl,rfl⟩
 |(g,d)::r,_,⟨v,a,e,hv,hr⟩=>by
  subst e;rw[Qzv,Qzv]
  cases f==g with
  |true=>exact .inr ⟨d,v,rfl,rfl,hv⟩
  |false=>exact hr.get f
theorem IsFs.put{K:Qqq}(hd:IsD K m H d w):∀{fs}{ys},IsFs K m H fs ys->IsFs K m H (M.putA f d fs) (putF f w ys)
 |[],_,h=>by rw[show _=[] from h]; exact⟨w,[],rfl,hd,rfl⟩
 |(g,x)::r,_,⟨v,a,e,hv,hr⟩=>by
  subst e;unfold M.putA putF
  split
  ·exact⟨w,a,rfl,hd,hr⟩
  ·exact⟨v,_,rfl,hv,hr.put hd⟩
noncomputable def IsKT(K:Qqq)(m:L Y8)(H:Hp):L (L J×D)->L (L Key×V)->Prop
 |[],xs=>xs=[]
 |p::r,xs=>∃v xr,xs=(p.1.map Sum.inl,v)::xr/\IsD K m H p.2 v/\IsKT K m H r xr
theorem qqb{K:Qqq}(hs:Sub m b)(c:Tw H H'):∀(kvs:L (L J×D)) (xs:L (L Key×V)),IsKT K m H kvs xs->IsKT K b H' kvs xs
 |[],_,h=>h
 |p::r,_,⟨v,a,e,hv,hr⟩=>⟨v,a,e,qz8 hs c _ _ hv,qqb hs c r a hr⟩
def inl_inj{a:L J}:(a.map (Sum.inl:J->Key)=b.map Sum.inl)↔a=b:=by
 refine⟨λh=>?_,λh=>by rw[h]⟩;have:=congrArg (List.map (Sum.elim id λ_=>0:Key->J)) h;rw[Qq7,Qq7,show(Sum.elim id λ_=>0:Key->J)∘Sum.inl=id from rfl,Qji,Qji]at this;exact this
theorem IsKT.length{K:Qqq}:∀{kvs}{xs},IsKT K m H kvs xs->kvs.length=xs.length
 |[],_,h=>by rw[show _=[] from h]; rfl
 |p::r,_,⟨v,a,e,_,hr⟩=>by rw[e,Qqg,Qqg,hr.length]
theorem IsKT.get{K:Qqq}(k):∀{kvs}{xs},IsKT K m H kvs xs->(M.tget kvs k=B/\valV xs (k.map Sum.inl)=B)\/∃d v,M.tget kvs k=Y d/\valV xs (k.map Sum.inl)=Y v/\IsD K m H d v
 |[],_,h=>by rw[show _=[] from h]; exact .inl ⟨rfl,rfl⟩
 |p::r,_,⟨v,c,e,hv,hr⟩=>by
  subst e
  by_cases a:p.1=k
  ·exact .inr ⟨p.2,v,by simp[M.tget,a],qxq (inl_inj.mpr a),hv⟩
  ·have b:M.tget (p::r) k=M.tget r k:=by simp[M.tget,a]
   rw[b,qxx λz=>a (inl_inj.mp z)];exact hr.get k
def IsKT.put{K:Qqq}(hd:IsD K m H d w)(h:IsKT K m H kvs xs):IsKT K m H (M.tput kvs k d) (putK xs (k.map Sum.inl) w):=by
 have e:∀{kvs:L (L J×D)}{xs:L (L Key×V)},IsKT K m H kvs xs->(kvs.any λp=>decide (p.1=k))=xs.any λp=>decide (p.1=k.map Sum.inl):=λ{kvs}=>by
  induction kvs with
  |nil=>intro xs h; rw[show _=[] from h]; rfl
  |cons p r a=>
   rintro xs ⟨v,c,rfl,_,hr⟩;rw[Qz2,Qz2,a hr]
   congr 1
   rw[Qxz,decide_eq_true_eq,decide_eq_true_eq];exact inl_inj.symm
 have hr:∀{kvs:L (L J×D)}{xs:L (L Key×V)},IsKT K m H kvs xs->IsKT K m H (kvs.map λp=>if p.1=k then(p.1,d) else p) (xs.map λp=>if p.1=k.map Sum.inl then(p.1,w) else p):=λ{kvs}=>by
  induction kvs with
  |nil=>intro xs h; rw[show _=[] from h]; rfl
  |cons p r a=>
   rintro xs ⟨v,c,rfl,hv,hr⟩;rw[Qqh,Qqh]
   by_cases b:p.1=k
   ·rw[Z8 b,Z8 (inl_inj.mpr b)]; exact⟨w,_,rfl,hd,a hr⟩
   ·rw[Z7 b,Z7 λz=>b (inl_inj.mp z)]; exact⟨v,_,rfl,hv,a hr⟩
 have hs:∀{kvs:L (L J×D)}{xs:L (L Key×V)},IsKT K m H kvs xs->IsKT K m H (kvs++[(k,d)]) (xs++[(k.map Sum.inl,w)]):=λ{kvs}=>by
  induction kvs with
  |nil=>intro xs h; rw[show _=[] from h]; exact⟨w,[],rfl,hd,rfl⟩
  |cons p r a=>
   rintro xs ⟨v,c,rfl,hv,hr⟩;exact⟨v,_,rfl,hv,a hr⟩
 unfold M.tput putK;rw[e h]
 split
 ·exact hr h
 ·exact hs h
noncomputable def IsC(K:Qqq)(m:L Y8)(H:Hp):Yb->Y8->Prop
 |.lst Z ds,a=>∃xs,H a=Y (.lst xs)/\IsDs K m H ds xs
 |.lst Y7 ds,a=>∃xs,SqF K H a xs/\IsDs K m H ds xs
 |.dic Z kvs,a=>∃xs,H a=Y (.dK xs)/\IsKV K m H kvs xs
 |.dic Y7 kvs,a=>∃o xs,H a=Y (.frz o (.dK xs))/\IsKV K m H kvs xs
 |.obj C fs,a=>∃dx ys,H a=Y (.ins C dx ys)/\IsFs K m H fs ys
 |.tdc Z kvs,a=>∃xs,H a=Y (.dT xs)/\IsKT K m H kvs xs
 |.tdc Y7 kvs,a=>∃o xs,H a=Y (.frz o (.dT xs))/\IsKT K m H kvs xs
noncomputable def Wr:Yb->Yc
 |.lst w _=>w
 |_=>Z
structure Rel (K:Qqq) (m:L Y8) (st:Y2) (H:Hp):Prop where
 len:m.length=st.length
 nd:∀(l l':Y1) (a:Y8) (c c':Yb),m[l]?=Y a->m[l']?=Y a->st[l]?=Y c->st[l']?=Y c'->Wr c=Z->Wr c'=Z->l=l'
 cell:∀(l:Y1) (c:Yb) (a:Y8),st[l]?=Y c->m[l]?=Y a->IsC K m H c a
section
variable {K:Qqq}{m:L Y8}{st:Y2}{H:Hp}
def Rel.addr(h:Rel K m st H){l:Y1}(e:st[l]?=Y c):∃a,m[l]?=Y a:=by
 have b:=(Qqk.mp e).1;have:=h.len;exact⟨m[l]'(by lia),by simp⟩
def IsC.wr(h:IsC K m H c a)(w:Wr c=Z):∃o,H a=Y o:=by
 cases c with
 |lst b ds=>
  have e:=w;subst e;obtain⟨xs,e,_⟩:=h;exact⟨_,e⟩
 |dic b kvs=>
  cases b with
  |true=>obtain⟨xs,e,_⟩:=h; exact⟨_,e⟩
  |false=>obtain⟨o,xs,e,_⟩:=h; exact⟨_,e⟩
 |obj C fs=>
  obtain⟨dx,ys,e,_⟩:=h;exact⟨_,e⟩
 |tdc b kvs=>
  cases b with
  |true=>obtain⟨xs,e,_⟩:=h; exact⟨_,e⟩
  |false=>obtain⟨o,xs,e,_⟩:=h; exact⟨_,e⟩
def Rel.list(h:Rel K m st H)(e:M.listAt st l=Y ds)(hv:IsD K m H (.loc l) v):∃a xs,m[l]?=Y a/\v=.ref a/\SqL K H a xs/\IsDs K m H ds xs:=by
 obtain⟨a,b,rfl⟩:=hv.loc;unfold M.listAt at e
 split at e
 ·rename_i w g q;cases e;have c:=h.cell l _ a q b
  cases w with
  |true=>
   obtain⟨xs,f,d⟩:=c;exact⟨a,xs,b,rfl,SqL.of f,d⟩
  |false=>
   obtain⟨xs,f,d⟩:=c;exact⟨a,xs,b,rfl,f.sq,d⟩
 ·exact nn e
def Rel.seq(h:Rel K m st H)(e:M.seqAt st d=Y ds)(hv:IsD K m H d v):∃a xs,True/\v=.ref a/\SqL K H a xs/\IsDs K m H ds xs:=by
 cases d with
 |loc l=>
  obtain⟨a,xs,_,q⟩:=h.list e hv;exact⟨a,xs,trivial,q⟩
 |lst es=>
  cases e;obtain⟨a,xs,e,q,r⟩:=hv.lst;exact⟨a,xs,trivial,e,q.sq,r⟩
 |_=>exact nn e
def Rel.wlist(h:Rel K m st H)(e:M.wlistAt st l=Y ds)(hv:IsD K m H (.loc l) v):∃a xs,m[l]?=Y a/\v=.ref a/\H a=Y (.lst xs)/\IsDs K m H ds xs/\st[l]?=Y (.lst Z ds):=by
 obtain⟨a,b,rfl⟩:=hv.loc;unfold M.wlistAt at e
 split at e
 ·rename_i f q;cases e;obtain⟨xs,d,c⟩:=h.cell l _ a q b;exact⟨a,xs,b,rfl,d,c,q⟩
 ·exact nn e
def qwx(hs:Sub m f)(b:Tw H H')(h:IsC K m H c a)(d:Wr c=Z->H' a=H a):IsC K f H' c a:=by
 cases c with
 |lst w ds=>
  cases w with
  |true=>
   obtain⟨xs,e,q⟩:=h;exact⟨xs,(d rfl).trans e,qz5 hs b ds xs q⟩
  |false=>
   obtain⟨xs,e,q⟩:=h;exact⟨xs,b.sqF e,qz5 hs b ds xs q⟩
 |dic w kvs=>
  cases w with
  |true=>
   obtain⟨xs,e,q⟩:=h;exact⟨xs,(d rfl).trans e,qqa hs b kvs xs q⟩
  |false=>
   obtain⟨o,xs,e,q⟩:=h;exact⟨o,xs,(d rfl).trans e,qqa hs b kvs xs q⟩
 |obj C fs=>
  obtain⟨dx,ys,e,q⟩:=h;exact⟨dx,ys,(d rfl).trans e,qxn hs b fs ys q⟩
 |tdc w kvs=>
  cases w with
  |true=>
   obtain⟨xs,e,q⟩:=h;exact⟨xs,(d rfl).trans e,qqb hs b kvs xs q⟩
  |false=>
   obtain⟨o,xs,e,q⟩:=h;exact⟨o,xs,(d rfl).trans e,qqb hs b kvs xs q⟩
def qjq(hs:Sub m b)(e:Tr H H')(h:IsC K m H c a)(d:Wr c=Z->H' a=H a):IsC K b H' c a:=qwx hs e.w h d
def Rel.dict(h:Rel K m st H)(e:M.dicAt st l=Y kvs)(hv:IsD K m H (.loc l) v):∃a xs,m[l]?=Y a/\v=.ref a/\Rd H a (.dK xs)/\IsKV K m H kvs xs:=by
 obtain⟨a,b,rfl⟩:=hv.loc;unfold M.dicAt at e
 split at e
 ·rename_i w g q;cases e;have c:=h.cell l _ a q b
  cases w with
  |true=>
   obtain⟨xs,f,d⟩:=c;exact⟨a,xs,b,rfl,.inl f,d⟩
  |false=>
   obtain⟨o,xs,f,d⟩:=c;exact⟨a,xs,b,rfl,.inr ⟨o,f⟩,d⟩
 ·exact nn e
def Rel.wdict(h:Rel K m st H)(e:M.wdicAt st l=Y kvs)(hv:IsD K m H (.loc l) v):∃a xs,m[l]?=Y a/\v=.ref a/\H a=Y (.dK xs)/\IsKV K m H kvs xs/\st[l]?=Y (.dic Z kvs):=by
 obtain⟨a,c,rfl⟩:=hv.loc;unfold M.wdicAt at e
 split at e
 ·rename_i b q;cases e;obtain⟨xs,f,d⟩:=h.cell l _ a q c;exact⟨a,xs,c,rfl,f,d,q⟩
 ·exact nn e
def Rel.tdict(h:Rel K m st H)(e:M.tdcAt st l=Y kvs)(hv:IsD K m H (.loc l) v):∃a xs,m[l]?=Y a/\v=.ref a/\Rd H a (.dT xs)/\IsKT K m H kvs xs:=by
 obtain⟨a,b,rfl⟩:=hv.loc;unfold M.tdcAt at e
 split at e
 ·rename_i w g q;cases e;have c:=h.cell l _ a q b
  cases w with
  |true=>
   obtain⟨xs,f,d⟩:=c;exact⟨a,xs,b,rfl,.inl f,d⟩
  |false=>
   obtain⟨o,xs,f,d⟩:=c;exact⟨a,xs,b,rfl,.inr ⟨o,f⟩,d⟩
 ·exact nn e
def Rel.wtdict(h:Rel K m st H)(e:M.wtdcAt st l=Y kvs)(hv:IsD K m H (.loc l) v):∃a xs,m[l]?=Y a/\v=.ref a/\H a=Y (.dT xs)/\IsKT K m H kvs xs/\st[l]?=Y (.tdc Z kvs):=by
 obtain⟨a,c,rfl⟩:=hv.loc;unfold M.wtdcAt at e
 split at e
 ·rename_i b q;cases e;obtain⟨xs,f,d⟩:=h.cell l _ a q c;exact⟨a,xs,c,rfl,f,d,q⟩
 ·exact nn e
def Rel.inst(h:Rel K m st H)(e:M.objAt st C d=Y fs)(hv:IsD K m H d v):∃l a dx ys,d=.loc l/\m[l]?=Y a/\v=.ref a/\H a=Y (.ins C dx ys)/\IsFs K m H fs ys/\st[l]?=Y (.obj C fs):=by
 cases d with
 |loc l=>
  obtain⟨a,b,rfl⟩:=hv.loc;have e:(match st[l]? with|some (.obj c fs)=>if c=C then Y fs else B|_=>B)=Y fs:=e
  split at e
  ·rename_i c fs' q
   split at e
   ·rename_i f;cases e;subst f;obtain⟨dx,ys,i,g⟩:=h.cell l _ a q b;exact⟨l,a,dx,ys,rfl,b,rfl,i,g,q⟩
   ·exact nn e
  ·exact nn e
 |_=>exact nn e
def Rel.same(h:Rel K m st H)(s:Same H H'):Rel K m st H':=
 ⟨h.len,h.nd,λl c a e b=>qjq (Sub.refl m) (Tr.of_same s) (h.cell l c a e b) λw=>by
  obtain⟨xs,q⟩:=(h.cell l c a e b).wr w
  rw[q]; exact s _ _ q⟩
def Rel.newC(h:Rel K m st H)(j:H p=B)(hc:Wr c=Z->True)(hd:IsC K (m++[p]) (upd H p o) c p):Rel K (m++[p]) (st++[c]) (upd H p o):=by
 have y:Tr H (upd H p o):=Tr.of_same (qzv j);have old:∀(l:Y1) (e:Yb) (a:Y8),(st++[c])[l]?=Y e->(m++[p])[l]?=Y a->(l<st.length/\st[l]?=Y e/\m[l]?=Y a)\/(l=st.length/\e=c/\a=p):=by
  intro l e a f g
  by_cases r:l<st.length
  ·rw[Qq6 r]at f;rw[Qq6 (by rw[h.len]; exact r)]at g;exact .inl ⟨r,f,g⟩
  ·have q:=(Qqk.mp f).1;rw[Qqe,Qxq]at q;have u:l=st.length:=by lia
   subst u;rw[Qzp (Qqj _)]at f;rw[Qzp (by rw[h.len]; exact Qqj _),h.len]at g;have t:c=e:=by simpa using f
   have s:p=a:=by simpa using g
   exact .inr ⟨rfl,t.symm,s.symm⟩
 refine⟨by simp[h.len],λl n a e v u t s A w x=>?_,λl e a f g=>?_⟩
 ·rcases old l e a s u with⟨h1,d,b⟩|⟨h1,d,b⟩<;>rcases old n v a A t with⟨h2,k,i⟩|⟨h2,k,i⟩
  ·exact h.nd l n a e v b i d k w x
  ·obtain⟨ys,z⟩:=(h.cell l e a d b).wr w;rw[i,j]at z; cases z
  ·obtain⟨ys,z⟩:=(h.cell n v a k i).wr x;rw[b,j]at z; cases z
  ·rw[h1,h2]
 ·rcases old l e a f g with⟨h1,d,b⟩|⟨h1,d,b⟩
  ·refine qjq (Sub.app m [p]) y (h.cell l e a d b) λw=>?_;obtain⟨ys,z⟩:=(h.cell l e a d b).wr w;exact qzq (qzg z j)
  ·rw[d,b];exact hd
def Rel.new(h:Rel K m st H)(a:H p=B)(hd:IsDs K m H ds xs):Rel K (m++[p]) (st++[.lst Z ds]) (upd H p (.lst xs)):=
 h.newC a (λ_=>trivial) ⟨xs,qzk,qza (Sub.app m [p]) (Tr.of_same (qzv a)) ds xs hd⟩
def Rel.newD(h:Rel K m st H)(a:H p=B)(hd:IsKV K m H kvs xs):Rel K (m++[p]) (st++[.dic Z kvs]) (upd H p (.dK xs)):=
 h.newC a (λ_=>trivial) ⟨xs,qzk,qjn (Sub.app m [p]) (Tr.of_same (qzv a)) kvs xs hd⟩
def Rel.newLoc(h:Rel K m st H):IsD K (m++[p]) H' (.loc st.length) (.ref p):=qgn (by
 rw[Qzp (by rw[h.len]; exact Qqj _),h.len]; simp)
def Rel.putW(h:Rel K m st H)(e:st[l]?=Y c)(i:Wr c=Z)(s:m[l]?=Y a)(u:Tw H (upd H a o))(hd:IsC K m (upd H a o) c' a):
  Rel K m (st.set l c') (upd H a o):=by
 have v:=(Qqk.mp e).1;have wr:∀(j:Y1) (d:Yb),(st.set l c')[j]?=Y d->(j=l/\d=c')\/(j≠l/\st[j]?=Y d):=by
  intro j d q
  by_cases hj:j=l
  ·subst hj;rw[Qzz v]at q;exact .inl ⟨rfl,(Option.some.inj q).symm⟩
  ·rw[Qqt (Ne.symm hj)]at q;exact .inr ⟨hj,q⟩
 refine⟨by rw[Qzt]; exact h.len,λj t b d A n k y x w r=>?_,λj d b q g=>?_⟩
 ·rcases wr j d y with⟨f,b1⟩|⟨f,b1⟩<;>rcases wr t A x with⟨p,b2⟩|⟨p,b2⟩
  ·rw[f,p]
  ·subst f; exact h.nd _ _ b _ _ n k e b2 i r
  ·subst p; exact h.nd _ _ b _ _ n k b1 e w i
  ·exact h.nd _ _ b _ _ n k b1 b2 w r
 ·rcases wr j d q with⟨f,b1⟩|⟨f,b1⟩
  ·subst f b1;rw[s]at g; cases g;exact hd
  ·refine qwx (Sub.refl m) u (h.cell j d b b1 g) λw=>qzq λz=>?_;subst z;exact f (h.nd _ _ b _ _ g s b1 e w i)
def Rel.putC(h:Rel K m st H)(e:st[l]?=Y c)(b:Wr c=Z)(f:m[l]?=Y a)(d:Tr H (upd H a o))(hd:IsC K m (upd H a o) c' a):
  Rel K m (st.set l c') (upd H a o):=h.putW e b f d.w hd
theorem Rel.put(h:Rel K m st H)(e:st[l]?=Y (.lst Z ds))(d:m[l]?=Y a)(c:H a=Y (.lst xs))(hd:IsDs K m H b ys):
  Rel K m (st.set l (.lst Z b)) (upd H a (.lst ys)):=
 h.putC e rfl d (Tr.put c) ⟨ys,qzk,qza (Sub.refl m) (Tr.put c) b ys hd⟩
def Tr.putD(a:H p=Y (.dK xs)):Tr H (upd H p (.dK ys)):=
 ⟨λb zs e=>by rw[qzq (qzs e a (by intro z; cases z))]; exact e,λb o u e=>by rw[qzq (qzs e a (by intro z; cases z))]; exact e⟩
theorem Rel.putD(h:Rel K m st H)(e:st[l]?=Y (.dic Z kvs))(d:m[l]?=Y a)(c:H a=Y (.dK xs))(hd:IsKV K m H b ys):
  Rel K m (st.set l (.dic Z b)) (upd H a (.dK ys)):=
 h.putC e rfl d (Tr.putD c) ⟨ys,qzk,qjn (Sub.refl m) (Tr.putD c) b ys hd⟩
end
def Tr.putI(a:H p=Y (.ins C c xs)):Tr H (upd H p (.ins C c ys)):=
 ⟨λb zs e=>by rw[qzq (qzs e a (by intro z; cases z))]; exact e,λb o u e=>by rw[qzq (qzs e a (by intro z; cases z))]; exact e⟩
theorem Rel.putI{K:Qqq}{st:Y2}(h:Rel K m st H)(e:st[l]?=Y (.obj C fs))(d:m[l]?=Y a)(c:H a=Y (.ins C b xs))(hd:IsFs K m H gs ys):
  Rel K m (st.set l (.obj C gs)) (upd H a (.ins C b ys)):=
 h.putC e rfl d (Tr.putI c) ⟨b,ys,qzk,qds (Sub.refl m) (Tr.putI c) gs ys hd⟩
def Rel.newI{K:Qqq}{st:Y2}(h:Rel K m st H)(i:H x=B)(f:H a=B)(d:a≠x):Same H (upd (upd H a (.own x)) x (.ins C a []))/\Rel K (m++[x]) (st++[.obj C []]) (upd (upd H a (.own x)) x (.ins C a [])):=by
 have g:Same H (upd H a (.own x)):=qzv f;have c:(upd H a (.own x)) x=none:=by rw[qzq (Ne.symm d)]; exact i
 exact⟨λb u e=>qzv c b u (g b u e),(h.same g).newC c (λ_=>trivial) ⟨a,[],qzk,rfl⟩⟩
def Tr.ice(h:H a=Y (.dK xs)):Tr H (upd H a (.frz o (.dK xs))):=
 ⟨λb zs e=>by rw[qzq (qzs e h (by intro z; cases z))]; exact e,λb o u e=>by rw[qzq (qzs e h (by intro z; cases z))]; exact e⟩
def Tr.thaw(h:H a=Y (.dK xs))(t:Tr (upd H a (.frz o (.dK xs))) H'):Tr H (upd H' a (.dK ys)):=
 ⟨λb zs e=>by
  have hb:=qzs e h (by intro z; cases z);rw[qzq hb];exact t.tup b zs (by rw[qzq hb]; exact e),λb o u e=>by
  have hb:=qzs e h (by intro z; cases z);rw[qzq hb]
  exact t.frz b o u (by rw[qzq hb]; exact e)⟩
def Tw.thaw(h:H a=Y (.frz o (.dK xs))):Tw H (upd H a (.dK ys)):=
 ⟨λb zs e=>by rw[qzq (qzs e h (by intro z; cases z))]; exact e,λb o u hs e=>by rw[qzq (qzs e h (by intro z; cases z; exact hs))]; exact e⟩
theorem Rel.ice{K:Qqq}{st:Y2}(h:Rel K m st H)(e:st[l]?=Y (.dic Z kvs))(c:m[l]?=Y a)(b:H a=Y (.dK xs))(hd:IsKV K m H kvs xs):
  Rel K m (st.set l (.dic Y7 kvs)) (upd H a (.frz o (.dK xs))):=
 h.putC e rfl c (Tr.ice b) ⟨o,xs,qzk,qjn (Sub.refl m) (Tr.ice b) kvs xs hd⟩
theorem Rel.thaw{K:Qqq}{st:Y2}(h:Rel K m st H)(e:st[l]?=Y (.dic Y7 kvs))(c:m[l]?=Y a)(b:H a=Y (.frz o (.dK xs))):
  Rel K m (st.set l (.dic Z kvs)) (upd H a (.dK xs)):=by
 obtain⟨o',ys,d,q⟩:=h.cell l _ a e c;rw[b]at d;cases d;exact h.putW e rfl c (Tw.thaw b) ⟨xs,qzk,qqa (Sub.refl m) (Tw.thaw b) kvs xs q⟩
structure SlotOk (K:Qqq) (m:L Y8) (H:Hp) (τ:Sl) (σ:L2.St):Prop where
 len:τ.length=σ.length
 at_:∀(i:Y1) (d:D),τ[i]?=Y (Y d)->∃v,σ[i]?=Y (Y v)/\IsD K m H d v
def SlotOk.monoW{K:Qqq}(h:SlotOk K m H τ σ)(s:Sub m c)(t:Tw H H'):SlotOk K c H' τ σ:=
 ⟨h.len,λi d e=>let ⟨v,a,b⟩:=h.at_ i d e; ⟨v,a,qz8 s t d v b⟩⟩
def SlotOk.mono{K:Qqq}(h:SlotOk K m H τ σ)(s:Sub m c)(t:Tr H H'):SlotOk K c H' τ σ:=
 ⟨h.len,λi d e=>let ⟨v,a,b⟩:=h.at_ i d e; ⟨v,a,qzw s t d v b⟩⟩
def SlotOk.put{K:Qqq}(h:SlotOk K m H τ b)(q:IsD K m H d v):SlotOk K m H (τ.set i (Y d)) (b.set i (Y v)):=by
 refine⟨by rw[Qzt,Qzt]; exact h.len,λj e a=>?_⟩
 by_cases hj:i=j
 ·subst hj;have hi:i<τ.length:=by
   have:=(Qqk.mp a).1;rwa [Qzt]at this
  rw[Qzz hi]at a;cases a;exact⟨v,Qzz (by rw[<- h.len]; exact hi),q⟩
 ·rw[Qqt hj]at a ⊢;exact h.at_ j e a
def Post(K:Qqq)(m:L Y8)(H:Hp)(d:D)(st':Y2)(Q:VK):Prop:=∀v m' H',Sub m m'->Tr H H'->Rel K m' st' H'->IsD K m' H' d v->Q v H'
def PostB(K:Qqq)(m:L Y8)(H:Hp)(b:Yc)(st':Y2)(Q:Yc->Hp->Prop):Prop:=∀m' H',Sub m m'->Tr H H'->Rel K m' st' H'->Q b H'
def PostL(K:Qqq)(m:L Y8)(H:Hp)(ds:L D)(st':Y2)(Q:L V->Hp->Prop):Prop:=∀vs m' H',Sub m m'->Tr H H'->Rel K m' st' H'->IsDs K m' H' ds vs->Q vs H'
def Post.mono{K:Qqq}(p:Post K m H d st' Q)(s:Sub m a)(t:Tr H b):Post K a b d st' Q:=
 λv m' H' s' c r i=>p v m' H' (s.trans s') (t.trans c) r i
def Post.here{K:Qqq}(p:Post K m H d st' Q)(r:Rel K m st' H)(i:IsD K m H d v):Q v H:=p v m H (Sub.refl m) (Tr.refl H) r i
noncomputable def tD(K:Qqq)(f:Sl->Y2->Y4 (D×Y2)):TE:=λσ H Q=>∃m st τ d st',Rel K m st H/\SlotOk K m H τ σ/\f τ st=Y (d,st')/\Post K m H d st' Q
noncomputable def tTs(K:Qqq)(f:Sl->Y2->Y4 (Yc×Y2)):TT:=λσ H Q=>∃m st τ d st',Rel K m st H/\SlotOk K m H τ σ/\f τ st=Y (d,st')/\PostB K m H d st' Q
noncomputable def tL(K:Qqq)(f:Sl->Y2->Y4 (L D×Y2)):TA:=λσ H Q=>∃m st τ d st',Rel K m st H/\SlotOk K m H τ σ/\f τ st=Y (d,st')/\PostL K m H d st' Q
noncomputable def rD(K:Qqq)(g:Y2->D->D->Y4 (D×Y2)):R2:=λx y H Q=>∃m st a b d st',Rel K m st H/\IsD K m H a x/\IsD K m H b y/\g st a b=Y (d,st')/\Post K m H d st' Q
def rC(K:Qqq)(g:Y2->L D->Y4 (D×Y2)):L V->Hp->VK->Prop:=λxs H Q=>∃m st ds d st',Rel K m st H/\IsDs K m H ds xs/\g st ds=Y (d,st')/\Post K m H d st' Q
def rU1(K:Qqq)(g:Y2->D->Y4 (D×Y2)):V->Hp->VK->Prop:=λx H Q=>∃m st a d st',Rel K m st H/\IsD K m H a x/\g st a=Y (d,st')/\Post K m H d st' Q
def Post.of{K:Qqq}(q:Post K m H d s Q)(e:Y (d',a)=Y (d,s)):Post K m H d' a Q:=by cases e; exact q
def PostB.of{K:Qqq}(q:PostB K m H d s Q)(e:Y (d',a)=Y (d,s)):PostB K m H d' a Q:=by cases e; exact q
def PostL.of{K:Qqq}(q:PostL K m H d s Q)(e:Y (d',a)=Y (d,s)):PostL K m H d' a Q:=by cases e; exact q
def rsI{α:Type}{K:Qqq}{f:Sl->Y2->Y4 (α×Y2)}{W:L Y8->α->Y2->Prop}{st:Y2}{d:α}(R:Rel K m st H)(S:SlotOk K m H τ a)(e:f τ st=Y (d,st'))(w:W m d st'):∃m st τ d st',Rel K m st H/\SlotOk K m H τ a/\f τ st=Y (d,st')/\W m d st':=⟨m,st,τ,d,st',R,S,e,w⟩
def tD.el{K:Qqq}{P:Prop}(h:tD K f g H Q)(k:∀m st τ d st',Rel K m st H->SlotOk K m H τ g->f τ st=Y (d,st')->Post K m H d st' Q->P):P:=by
 rcases h with⟨m,st,τ,d,st',a,b,c,e⟩
 exact k m st τ d st' a b c e
def tTs.el{K:Qqq}{P:Prop}(h:tTs K f a H Q)(k:∀m st τ d st',Rel K m st H->SlotOk K m H τ a->f τ st=Y (d,st')->PostB K m H d st' Q->P):P:=by
 rcases h with⟨m,st,τ,d,st',p0,p1,p2,b⟩
 exact k m st τ d st' p0 p1 p2 b
def tL.el{K:Qqq}{P:Prop}(h:tL K f a H Q)(k:∀m st τ d st',Rel K m st H->SlotOk K m H τ a->f τ st=Y (d,st')->PostL K m H d st' Q->P):P:=by
 rcases h with⟨m,st,τ,d,st',p0,p1,p2,b⟩
 exact k m st τ d st' p0 p1 p2 b
def rD.el{K:Qqq}{P:Prop}(h:rD K f x y H Q)(k:∀m st a b d st',Rel K m st H->IsD K m H a x->IsD K m H b y->f st a b=Y (d,st')->Post K m H d st' Q->P):P:=by
 rcases h with⟨m,st,a,b,d,st',p0,p1,p2,e,c⟩
 exact k m st a b d st' p0 p1 p2 e c
def rC.el{K:Qqq}{P:Prop}(h:rC K f xs H Q)(k:∀m st ds d st',Rel K m st H->IsDs K m H ds xs->f st ds=Y (d,st')->Post K m H d st' Q->P):P:=by
 rcases h with⟨m,st,ds,d,st',p0,p1,p2,a⟩
 exact k m st ds d st' p0 p1 p2 a
def rU1.el{K:Qqq}{P:Prop}(h:rU1 K f x H Q)(k:∀m st a d st',Rel K m st H->IsD K m H a x->f st a=Y (d,st')->Post K m H d st' Q->P):P:=by
 rcases h with⟨m,st,a,d,st',p0,p1,p2,b⟩
 exact k m st a d st' p0 p1 p2 b
def _root_.L2.PE.imp(h:PE X e t)(f:∀σ H Q,t' σ H Q->t σ H Q):PE X e t':=λpins s σ H Q I q=>h pins s σ H Q I (f σ H Q q)
def _root_.L2.PT.imp(h:PT X e t)(f:∀σ H Q,t' σ H Q->t σ H Q):PT X e t':=λpins s σ H Q I q=>h pins s σ H Q I (f σ H Q q)
def _root_.L2.PW.imp(h:PW X e t)(f:∀σ H Q,t' σ H Q->t σ H Q):PW X e t':=λw pins s σ H Q I q=>h w pins s σ H Q I (f σ H Q q)
def _root_.L2.PA.imp(h:PA X e t)(f:∀σ H Q,t' σ H Q->t σ H Q):PA X e t':=λp pins s σ H Q I q=>h p pins s σ H Q I (f σ H Q q)
def _root_.L2.PS.imp(h:PS X e t)(f:∀σ H Q,t' σ H Q->t σ H Q):PS X e t':=λpins s σ H Q I q=>h pins s σ H Q I (f Q σ H q)
def _root_.L2.PSs.imp(h:PSs X e t)(f:∀D σ H,t' D σ H->t D σ H):PSs X e t':=λpins s σ H D I q=>h pins s σ H D I (f D σ H q)
def qzj{α:Type}{g:D×Y2->Y4 α}{r:α}{P:Prop}(e:f.bind g=Y r)(k:∀d st,f=Y (d,st)->g (d,st)=Y r->P):P:=by
 cases f with
 |none=>exact nn e
 |some p=>exact k p.1 p.2 rfl e
def qzd{α a:Type}{f:Y4 α}{g:α->a}{r:a}{P:Prop}(e:f.map g=Y r)(k:∀d,f=Y d->g d=r->P):P:=by
 cases f with
 |none=>exact nn e
 |some p=>exact k p rfl (Option.some.inj e)
def qzx{α a:Type}{f:Y4 α}{g:α->Y4 a}{r:a}{P:Prop}(e:f.bind g=Y r)(k:∀d,f=Y d->g d=Y r->P):P:=by
 cases f with
 |none=>exact nn e
 |some p=>exact k p rfl e
def orO{α:Type}{a b:Y4 α}{r:α}(h:a.or b=Y r):a=Y r\/b=Y r:=by
 cases a with
 |none=>exact .inr h
 |some x=>exact .inl h
def mapD{α a:Type}{f:Y4 α}{g:α->a}{r:a}(e:f.map g=Y r):∃d,f=Y d/\g d=r:=by
 cases f with
 |none=>exact nn e
 |some p=>exact⟨p,rfl,Option.some.inj e⟩
section
variable {K:Qqq}
def qcz(h:tD K (λτ st=>(c τ st).bind λp=>(b τ p.2).bind λq=>g q.2 p.1 q.1) a H Q):tOp (rD K g) (tD K c) (tD K b) a H Q:=by
 exact h.el λm st τ d st' u f e q=>qzj e λs v o e=>qzj e λr i n e=>rsI u f o λx m1 H1 b1 t1 t l=>rsI t (f.mono b1 t1) n λy j H2 b2 t2 R2 k=>
  ⟨j,i,s,r,d,st',R2,qzw b2 t2 _ _ l,k,e,q.mono (b1.trans b2) (t1.trans t2)⟩
def tD_un(h:tD K (λτ st=>(b τ st).bind λp=>g p.2 p.1) a H Q):tUn (rU1 K g) (tD K b) a H Q:=by
 exact h.el λm st τ d st' n k e q=>qzj e λj c i e=>rsI n k i λx m1 H1 b1 t1 l f=>⟨m1,c,j,d,st',l,f,e,q.mono b1 t1⟩
def qlq(h:tL K (λτ st=>(c τ st).bind λp=>(b τ p.2).bind λq=>Y (p.1::q.1,q.2)) a H Q):qlx (tD K c) (tL K b) a H Q:=by
 refine h.el λm st τ d st' o f e q=>qzj e λs r l e=>qzx e λp k e=>?_;have q:=q.of e;exact rsI o f l λx m1 H1 b1 t1 n j=>rsI n (f.mono b1 t1) k λxs g H2 b2 t2 R2 i=>
  q _ g H2 (b1.trans b2) (t1.trans t2) R2 (qzm (qzw b2 t2 _ _ j) i)
def tL_nil(h:tL K (λ_ st=>Y ([],st)) a H Q):tNil a H Q:=by
 refine h.el λm st τ d st' b c e q=>?_;have q:=q.of e;exact q [] m H (Sub.refl m) (Tr.refl H) b qqz
def qqm(h:tD K (λτ st=>(b τ st).bind λp=>g p.2 p.1) a H Q):tCB (rC K g) (tL K b) a H Q:=by
 exact h.el λm st τ d st' k i e q=>qzx e λp f e=>rsI k i f λxs m1 H1 b1 t1 j c=>⟨m1,p.2,p.1,d,st',j,c,e,q.mono b1 t1⟩
end
end MS
end
section
namespace MS
open PySem PySem.Spec PyProof.Rows L2
open M (D Yb Y2 Sl)
section
variable {X:Cx}
def qqy:(sizeLine:Y1)=M.lim:=Q2
def qdz:OpR X (Q3 .FloorDiv) (rI (λ_ j=>0<j/\j<2 ^ 64) λi j=>.int (i / j)):=opI λi j _ _ _ _ _ hc q=>by
 refine floordiv_int (by omega) (by rw[Int.fdiv_eq_ediv_of_nonneg i (by omega)]; exact q) (.inl (PyProof.noPylong_of_log2 ?_));have b:j.natAbs<2 ^ 64:=by omega
 have a:j.natAbs≠0:=by omega
 have c:=(Nat.log2_lt a).mpr b;omega
theorem _root_.MS.IsDs.rep{K:Qqq}(h:IsDs K m H ds xs):∀k:Y1,IsDs K m H (List.replicate k ds).flatten (List.replicate k xs).flatten
 |0=>by simp only[List.replicate_zero]; exact qqz
 |k+1=>by
  rw[Qzs,Qzs,Qxx,Qxx];exact h.append (IsDs.rep h k)
def qmd(I:Inv X a m H s)(y:SqL X.K H l xs)(i:SqL X.K H b ys)(E:xs.length+ys.length<=sizeLine)(q:∀p,H p=B->Q (.ref p) (upd H p (.lst (xs++ys)))):
  wpAny (model X.prog X.w) X.A (Q3 .Add (.ref l) (.ref b)) (EP X a m Q) X.xe s:=by
 obtain⟨vs,r,pl,_⟩:=I.list y;obtain⟨ws,o,h,_⟩:=I.list i;have D:=r.length;have C:=o.length;obtain⟨⟨cls,A,v,sl⟩,n,t,hc,z,hd⟩:=pl;obtain⟨⟨w,j,k,g⟩,x,c,f,u,d⟩:=h;simp only at hc hd f d;subst hc hd f d;have e:vs.toArray++ws.toArray=(vs++ws).toArray:=by simp
 refine concat_meets ⟨_,t,rfl⟩ ⟨_,c,rfl⟩ noFill_list_add seq_list_add PySem.F.slot_list_add PySem.F.entry_list_add (PySem.F.args_list_add_2 _ _) (list_addW l b vs.toArray ws.toArray n x A j sl g (by simp; omega)) ⟨t,c,?_⟩;rw[e];exact⟨.ref _,_,I.lnew (r.append o) (by rw[Qqe]; omega),rfl,q _ I.fresh⟩
def qme(G):OpR X (Q3 G) (rD X.K λst a b=>M.binop st G a b):=by
 intro pins s σ H x y v u Q I i g h;refine h.el λm st a b d st' c l j e q=>?_;have e:=e;unfold M.binop at e
 split at e
 ·have q:=q.of e;exact op_add pins s σ H x y v u Q I i g ⟨_,_,l.int,j.int,q.here c (mkInt _)⟩
 ·rename_i U bs
  split at e
  ·exact nn e
  ·rename_i hc;have q:=q.of e;rw[Qza,decide_eq_true_eq,not_or,List.isEmpty_iff]at hc;obtain⟨D,xs,rfl,t,f⟩:=l.tup;obtain⟨F,ys,rfl,A,w⟩:=j.tup;have E:=f.length;have N:=w.length;have K:=qqy;refine qmc pins s σ H _ _ v u Q I i g ⟨D,F,xs,ys,rfl,rfl,t,A,?_,by omega,λz=>?_,λz p C=>?_⟩
   ·intro z;subst z;exact hc.1 (Qz3.mp E)
   ·have n:=f.append w;rw[z,Qq5]at n;exact q.here c (qqu t n)
   ·have r:=qzv (o:=.tup (xs++ys)) C;exact q _ m _ (Sub.refl m) (Tr.of_same r) (c.same r) (qqu (SqT.of qzk) (qza (Sub.refl m) (Tr.of_same r) _ _ (f.append w)))
 ·rename_i la V _ _;refine qzx e λT R e=>qzx e λS P e=>?_
  split at e
  ·exact nn e
  ·rename_i hc;have q:=q.of e;obtain⟨D,xs,_,rfl,t,f⟩:=c.seq R l;obtain⟨F,ys,_,rfl,A,w⟩:=c.seq P j;have E:=f.length;have N:=w.length;have K:=qqy;cases i;cases g;refine qmd I t A (by omega) λp C=>?_;exact q _ (m++[p]) _ (Sub.app m [p]) (Tr.of_same (qzv C)) (c.new C (f.append w)) c.newLoc
 ·have q:=q.of e;exact op_sub pins s σ H x y v u Q I i g ⟨_,_,l.int,j.int,q.here c (mkInt _)⟩
 ·split at e
  ·rename_i hc;have q:=q.of e;refine op_mul pins s σ H x y v u Q I i g ⟨_,_,l.int,j.int,?_,q.here c (mkInt _)⟩;unfold M.mulOk at hc;simp only[Qza,Qqn,decide_eq_true_eq]at hc;exact hc
  ·exact nn e
 ·rename_i U k _
  split at e
  ·exact nn e
  ·rename_i hc;have q:=q.of e;simp only[Qza,decide_eq_true_eq]at hc;obtain⟨D,xs,rfl,t,f⟩:=l.tup;have E:=f.length;have K:=qqy;refine qma pins s σ H _ _ v u Q I i g ⟨D,k,xs,rfl,j.int,t,by omega,by omega,by rw[<- E]; omega,λys A=>⟨λz=>?_,λp C=>?_⟩⟩
   ·have n:=f.rep k.toNat
    rw[<- A,z]at n;exact q.here c (qqu t n)
   ·have r:=qzv (o:=.tup ys) C;have n:=f.rep k.toNat
    rw[<- A]at n;exact q _ m _ (Sub.refl m) (Tr.of_same r) (c.same r) (qqu (SqT.of qzk) (qza (Sub.refl m) (Tr.of_same r) _ _ n))
 ·split at e
  ·rename_i hc;have q:=q.of e;exact qdz pins s σ H x y v u Q I i g ⟨_,_,l.int,j.int,hc,q.here c (mkInt _)⟩
  ·exact nn e
 ·split at e
  ·rename_i hc;have q:=q.of e;exact op_mod pins s σ H x y v u Q I i g ⟨_,_,l.int,j.int,hc,q.here c (mkInt _)⟩
  ·exact nn e
 ·split at e
  ·rename_i hc;have q:=q.of e;exact op_pow pins s σ H x y v u Q I i g ⟨_,_,l.int,j.int,⟨hc.1,by omega,hc.2.2⟩,q.here c (mkInt _)⟩
  ·exact nn e
 ·exact nn e
def qz7(I:Inv X c e H s)(h:IsD X.K m H (.tup ds) v):∃a xs b,v=.ref a/\SqT X.K H a xs/\IsDs X.K m H ds xs/\Vals xs b/\IsTup s.heap a b.toArray:=by
 obtain⟨a,xs,rfl,d,f⟩:=h.tup;obtain⟨b,r,p,_⟩:=I.tuple d;exact⟨a,xs,b,rfl,d,f,r,p⟩
section
variable {H:Hp}{m:L Y8}
theorem qyz:∀{ds es}{xs},ds.all M.isI=Z->es.all M.isI=Z->IsDs X.K m H ds xs->IsDs X.K m H es xs->ds=es
 |[],es,xs,_,_,h,h'=>by
  rw[h.nil]at h';exact(Qz3.mp h'.length).symm
 |d::ds,es,xs,f,c,h,h'=>by
  obtain⟨x,r,rfl,q,t⟩:=h.cons
  cases es with
  |nil=>cases h'.nil
  |cons e es=>
   obtain⟨j,r',z,i,g⟩:=h'.cons;cases z;rw[Qzi,Qqn]at f c;rw[qyz f.2 c.2 t g]
   cases d with
   |int a=>
    cases e with
    |int b=>cases q.int; cases i.int; rfl
    |_=>cases c.1
   |_=>cases f.1
def qm7(I:Inv X pins σ H s)(f:M.flat n d=Z)(c:M.flat n e=Z)(h:IsD X.K m H d v)(h':IsD X.K m H e v):d=e:=by
 cases d with
 |int b=>
  rw[h.int]at h'
  cases e with
  |tup ds=>obtain⟨a,xs,z,_⟩:=h'.tup; cases z
  |int b=>cases h'.int; rfl
  |str b=>cases h'.str
  |_=>cases c
 |str b=>
  rw[h.str]at h'
  cases e with
  |tup ds=>obtain⟨a,xs,z,_⟩:=h'.tup; cases z
  |int b=>cases h'.int
  |str b=>cases h'.str; rfl
  |_=>cases c
 |tup ds=>
  obtain⟨a,xs,rfl,k,i⟩:=h.tup
  cases e with
  |tup es=>
   obtain⟨b,ys,z,j,g⟩:=h'.tup;cases z;cases I.tuple_inj k j;rw[qyz f c i g]
  |int b=>cases h'.int
  |str b=>cases h'.str
  |_=>cases c
 |_=>cases f
theorem qwv:∀{ds},ds.all M.isI=Z->M.eqTs ds ds=Z
 |[],_=>rfl
 |d::ds,f=>by
  rw[Qzi,Qqn]at f;unfold M.eqTs;rw[qwv f.2,Qxr]
  cases d with
  |int a=>exact beq_self_eq_true a
  |_=>cases f.1
noncomputable def pairE(ds es:L D)(j:Y1):Bool:=match ds[j]?,es[j]? with
 |some d,Y e=>M.eqT d e
 |_,_=>Z
theorem qww:∀(ds es:L D),M.eqTs ds es=((List.range (min ds.length es.length)).all (pairE ds es)&&ds.length==es.length)
 |[],[]=>rfl
 |[],e::es=>by simp[M.eqTs]
 |d::ds,[]=>by simp[M.eqTs]
 |d::ds,e::es=>by
  simp only[M.eqTs];rw[qww ds es,Qqg,Qqg,Nat.add_min_add_right,List.range_succ_eq_map,Qzi,List.all_map,Bool.and_assoc]
  congr 1
  congr 1
  rw[Qxz,beq_iff_eq,beq_iff_eq];omega
def int_at(f:ds.all M.isI=Z)(c:IsDs X.K m H ds xs)(r:Vals xs b)(h:j<b.toArray.size):∃a t,ds[j]?=Y (.int a)/\b.toArray[j]=Value.int a t:=by
 have l:=c.length;have i:=r.length;rw[Qqc]at h;obtain⟨d,g⟩:∃d,ds[j]?=Y d:=⟨_,Qqi (by omega)⟩
 obtain⟨x,k,q⟩:=c.get g;obtain⟨u,w,z⟩:=r.get k;have e:=Qzx.mp f _ (Qqo g)
 cases d with
 |int a=>
  cases q.int;obtain⟨t,rfl⟩:=z;exact⟨a,t,g,(Qjc _).trans (Qqk.mp w).2⟩
 |_=>cases e
def qie(I:Inv X pins σ H s)(n)(A)(d e)(x y)(u v)(U:A.units+n<cLine)(f:M.flat n d=Z)(z:M.flat n e=Z)(G:IsD X.K m H d x)(l:IsD X.K m H e y)(E:RelV x u)(k:RelV y v):SeqAt.EqAt A s u v (M.eqT d e)/\SeqAt.RcAt A s u v (M.eqT d e):=by
 have c:A.units<cLine:=by omega
 cases d with
 |int a=>
  cases G.int; obtain⟨h,rfl⟩:=E
  cases e with
  |tup es=>obtain⟨b,ys,o,rfl,p,q,C,p2⟩:=qz7 I l; cases k; exact⟨SeqAt.EqAt.int_tuple a h p2 c,SeqAt.RcAt.int_tuple a h p2 c⟩
  |int b=>cases l.int; obtain⟨t,rfl⟩:=k; exact⟨SeqAt.EqAt.int_int a h b t,SeqAt.RcAt.int_int a h b t⟩
  |str b=>cases l.str; obtain⟨t,rfl⟩:=k; exact⟨SeqAt.EqAt.int_str a h b t,SeqAt.RcAt.int_str a h b t⟩
  |_=>cases z
 |str a=>
  cases G.str; obtain⟨h,rfl⟩:=E
  cases e with
  |tup es=>obtain⟨b,ys,o,rfl,p,q,C,p2⟩:=qz7 I l; cases k; exact⟨SeqAt.EqAt.str_tuple a h p2 c,SeqAt.RcAt.str_tuple a h p2 c⟩
  |int b=>cases l.int; obtain⟨t,rfl⟩:=k; exact⟨SeqAt.EqAt.str_int a h b t,SeqAt.RcAt.str_int a h b t⟩
  |str b=>cases l.str; obtain⟨t,rfl⟩:=k; exact⟨SeqAt.EqAt.str_str a h b t,SeqAt.RcAt.str_str a h b t⟩
  |_=>cases z
 |tup ds=>
  obtain⟨a,xs,Q,rfl,S,F,N,p1⟩:=qz7 I G;cases E
  cases e with
  |int b=>cases l.int; obtain⟨t,rfl⟩:=k; exact⟨SeqAt.EqAt.tuple_int b t p1 c,SeqAt.RcAt.tuple_int b t p1 c⟩
  |str b=>cases l.str; obtain⟨t,rfl⟩:=k; exact⟨SeqAt.EqAt.tuple_str b t p1 c,SeqAt.RcAt.tuple_str b t p1 c⟩
  |tup es=>
   obtain⟨b,ys,o,rfl,p,q,C,p2⟩:=qz7 I l;cases k;have K:SeqAt.RcAt A s (.ref a) (.ref b) (M.eqTs ds es):=by
    have:=SeqAt.RcAt.tuples p1 p2 c (e:=pairE ds es) λj h1 h2=>by
     obtain⟨i,t,g,w⟩:=int_at f F N h1;obtain⟨R,h,T,P⟩:=int_at z q C h2;rw[w,P];unfold pairE;rw[g,T];exact SeqAt.EqAt.int_int i t R h
    rw[qww,F.length,q.length,N.length,C.length];simpa using this
   refine⟨?_,K⟩
   by_cases r:a=b
   ·subst r;cases I.tuple_inj S p;cases qyz f z F q;show SeqAt.EqAt A s _ _ (M.eqTs ds ds);rw[qwv f];exact SeqAt.EqAt.same _
   ·exact SeqAt.EqAt.of_refs r K
  |_=>cases z
 |_=>cases f
end
end
end MS
end
section
namespace MS
open PySem PySem.Spec PyProof.Rows L2
section
end
end MS
end
section
namespace MS
open PySem PySem.Spec PyProof.Rows L2
open M (D Yb Y2 Sl)
section
variable {X:Cx}
section
def qfq(I:Inv X pins σ H s)(A)(F:A.units+9<cLine)(K:M.flat 9 d0=Z)(G:IsD X.K m H d0 g)(v:RelV g c):
  ∃e:Y9->Yc,∀(ds:L D) (xs:L V) (a:L Y9),M.flats 9 ds=Z->IsDs X.K m H ds xs->Vals xs a->(∀w∈a,SeqAt.EqAt A s w c (e w))/\a.any e=ds.any λy=>M.eqT y d0:=by
 classical
 refine⟨λw=>decide (∃d x,M.flat 9 d=Z/\IsD X.K m H d x/\RelV x w/\M.eqT d d0=Z),λds=>?_⟩;have b:∀d x w,M.flat 9 d=Z->IsD X.K m H d x->RelV x w->decide (∃d x,M.flat 9 d=Z/\IsD X.K m H d x/\RelV x w/\M.eqT d d0=Z)=M.eqT d d0:=by
  intro d x w f i r
  cases q:M.eqT d d0 with
  |true=>exact Z5 ⟨d,x,f,i,r,q⟩
  |false=>
   refine Z6 ?_;rintro⟨U,T,N,E,r',l⟩;have Q:=r.inj r';subst Q;have P:=qm7 I f N i E;subst P;rw[q]at l;cases l
 induction ds with
 |nil=>
  intro xs a _ j r;rw[j.nil]at r;cases r;exact⟨λw k=>(by cases k),rfl⟩
 |cons d ds C=>
  intro xs a f j r;obtain⟨x,n,rfl,q,t⟩:=j.cons;simp only[ Qzi,Qqn]at f
  cases r with
  |@cons _ u _ o h p=>
   obtain⟨S,R⟩:=C n o f.2 t p;refine⟨λw k=>?_,?_⟩
   ·rcases Qqa.mp k with z|z
    ·subst z;show SeqAt.EqAt A s w c (decide _);rw[b d x w f.1 q h];exact(qie I 9 A d d0 x g w c F f.1 K q G h v).1
    ·exact S w z
   ·rw[Qz2,Qz2,R]
    congr 1
    exact b d x u f.1 q h
end
def qh7(n)(K:X.A.units+64<cLine):OpR X (Qi (cond n .NotIn .In)) (rD X.K λst a b=>(M.inD st a b).map λk=>(.bl (cond n (!k) k),st)):=by
 intro pins s σ H x y v u Q I A z h;refine h.el λm st a b d st' F D C e q=>qzd e λk f t=>?_;cases t;have i:X.A.in1.units+9<cLine:=by have G:X.A.in1.units=X.A.units+1:=rfl; lia
 have q:=q.here F (mkBl _)
 cases b with
 |tup ds=>
  simp only[M.inD]at f
  split at f
  ·rename_i hf;cases f;rw[Qqn]at hf;obtain⟨p,xs,c,rfl,E,j,r,pl⟩:=qz7 I C;cases z;obtain⟨ef,o⟩:=qfq I X.A.in1 i hf.1 D A;obtain⟨h1,h2⟩:=o ds xs c hf.2 j r;have e:c.toArray.any ef=c.any ef:=by simp
   rw[<- h2,<- e]at q;cases n
   ·exact SeqAt.in_tupleAt ef pl (λw g=>h1 w (by simpa using g)) ⟨.bl _,H,I,rfl,q⟩
   ·exact SeqAt.notIn_tupleAt ef pl (λw g=>h1 w (by simpa using g)) ⟨.bl _,H,I,rfl,q⟩
  ·exact nn f
 |loc l|lst l=>
  simp only[M.inD]at f;refine qzx f λds t f=>?_
  split at f
  ·rename_i hf;cases f;rw[Qqn]at hf;obtain⟨p,xs,_,rfl,E,j⟩:=F.seq t C;cases z;obtain⟨c,r,pl,_⟩:=I.list E;obtain⟨ef,o⟩:=qfq I X.A.in1 i hf.1 D A;obtain⟨h1,h2⟩:=o ds xs c hf.2 j r;have e:c.toArray.any ef=c.any ef:=by simp
   rw[<- h2,<- e]at q;cases n
   ·exact SeqAt.in_listAt ef pl.isList (λw g=>h1 w (by simpa using g)) ⟨.bl _,H,I,rfl,q⟩
   ·exact SeqAt.notIn_listAt ef pl.isList (λw g=>h1 w (by simpa using g)) ⟨.bl _,H,I,rfl,q⟩
  ·exact nn f
 |_=>simp[M.inD,M.seqAt]at f
def op_eqD(z:X.A.units+64<cLine):OpR X (Qi .Eq) (rD X.K λst a b=>(M.eqD st a b).map λk=>(.bl k,st)):=by
 intro pins s σ H x y v u Q I f j h;refine h.el λm st a b d st' n g l e q=>qzd e λk c p=>?_;cases p;unfold M.eqD at c
 split at c
 ·cases c; cases g.bl; cases l.bl; cases f; cases j; exact SeqAt.RcAt.bool_bool _ _ _ _ _ _ ⟨.bl _,H,I,rfl,q.here n (mkBl _)⟩
 ·cases c; cases g.non; cases l.non; cases f; cases j; exact SeqAt.RcAt.none_none _ _ _ _ ⟨.bl _,H,I,rfl,q.here n (mkBl _)⟩
 ·split at c
  ·rename_i hf;cases c;rw[Qqn]at hf;have K:=q.here n (mkBl _)
   cases hb:M.flat 9 b with
   |true=>exact(qie I 9 X.A a b x y v u (by lia) hf.1 hb g l f j).2 _ _ _ _ ⟨.bl _,H,I,rfl,K⟩
   |false=>
    rw[hb]at hf
    cases b with
    |non=>
     cases l.non; cases j
     cases a with
     |int i=>cases g.int; obtain⟨t,rfl⟩:=f; exact SeqAt.RcAt.int_none i t _ _ _ _ ⟨.bl _,H,I,rfl,K⟩
     |str i=>cases g.str; obtain⟨t,rfl⟩:=f; exact SeqAt.RcAt.str_none i t _ _ _ _ ⟨.bl _,H,I,rfl,K⟩
     |tup ds=>
      obtain⟨a,xs,o,rfl,A,w,r,p1⟩:=qz7 I g;cases f;exact SeqAt.RcAt.tuple_none p1 (by lia) _ _ _ _ ⟨.bl _,H,I,rfl,K⟩
     |_=>cases hf.1
    |_=>cases hf.2
  ·exact nn c
def op_neD:OpR X (Qi .NotEq) (rD X.K λst a b=>(M.neD st a b).map λk=>(.bl k,st)):=by
 intro pins s σ H x y v u Q I i g h;refine h.el λm st a b d st' n l j e q=>qzd e λk c o=>?_;cases o;unfold M.neD at c
 split at c
 ·cases c;cases l.int; cases j.int;obtain⟨t,rfl⟩:=i;obtain⟨f,rfl⟩:=g;exact SeqAt.RcNeAt.int_int _ t _ f _ _ _ _ ⟨.bl _,H,I,rfl,q.here n (mkBl _)⟩
 ·cases c;cases l.str; cases j.str;obtain⟨t,rfl⟩:=i;obtain⟨f,rfl⟩:=g;exact SeqAt.RcNeAt.str_str _ t _ f _ _ _ _ ⟨.bl _,H,I,rfl,q.here n (mkBl _)⟩
 ·exact nn c
def qav{K:Qqq}(h:IsD K m H d x):decide (x=.non)=M.isNon d:=by
 cases d with
 |non=>rw[h.non]; rfl
 |bl b=>rw[h.bl]; rfl
 |int b=>rw[h.int]; rfl
 |str b=>rw[h.str]; rfl
 |tup ds=>obtain⟨a,xs,rfl,_⟩:=h.tup; rfl
 |loc l=>obtain⟨a,_,rfl⟩:=h.loc; rfl
 |lst l=>obtain⟨a,xs,rfl,_⟩:=h.lst; rfl
 |fup l=>obtain⟨a,rfl,_⟩:=h.fup; rfl
def qxm(n:X.A.units+64<cLine)(p):OpR X (Qi p) (rD X.K λst a b=>(M.cmpD st p a b).map λk=>(.bl k,st)):=by
 intro pins s σ H x y v u Q I g f h;obtain⟨m,st,a,b,d,st',l,j,i,e,q⟩:=h;refine qzd e λk c o=>?_;cases o;unfold M.cmpD at c
 split at c
 ·cases c;exact op_lt pins s σ H x y v u Q I g f ⟨_,_,j.int,i.int,q.here l (mkBl _)⟩
 ·cases c;exact op_le pins s σ H x y v u Q I g f ⟨_,_,j.int,i.int,q.here l (mkBl _)⟩
 ·cases c;exact op_gt pins s σ H x y v u Q I g f ⟨_,_,j.int,i.int,q.here l (mkBl _)⟩
 ·cases c;exact op_ge pins s σ H x y v u Q I g f ⟨_,_,j.int,i.int,q.here l (mkBl _)⟩
 ·exact op_eqD n pins s σ H x y v u Q I g f ⟨m,st,a,b,_,_,l,j,i,by dsimp only; rw[c]; rfl,q⟩
 ·exact op_neD pins s σ H x y v u Q I g f ⟨m,st,a,b,_,_,l,j,i,by dsimp only; rw[c]; rfl,q⟩
 ·cases c;refine op_isN pins s σ H x y v u Q I g f ⟨i.non,?_⟩;rw[qav j];exact q.here l (mkBl _)
 ·cases c;refine qmb pins s σ H x y v u Q I g f ⟨i.non,?_⟩;rw[qav j];exact q.here l (mkBl _)
 ·exact qh7 Y7 n pins s σ H x y v u Q I g f ⟨m,st,a,b,_,_,l,j,i,by dsimp only; rw[c]; rfl,q⟩
 ·obtain⟨k,o,rfl⟩:=mapD c;exact qh7 Z n pins s σ H x y v u Q I g f ⟨m,st,a,b,_,_,l,j,i,by dsimp only; rw[o]; rfl,q⟩
 ·exact nn c
def qit{K:Qqq}{st:Y2}(j:Rel K m st H)(h:IsD K m H d x)(e:M.truth st d=Y k):TruV K x H k:=by
 cases d with
 |non=>rw[h.non]; simp only[M.truth]at e; exact(Option.some.inj e).symm
 |bl b=>rw[h.bl]; simp only[M.truth]at e; exact(Option.some.inj e).symm
 |int b=>rw[h.int]; simp only[M.truth]at e; exact(Option.some.inj e).symm
 |str b=>exact nn e
 |tup ds=>
  obtain⟨a,xs,rfl,f,c⟩:=h.tup;simp only[M.truth]at e;refine .inr (.inl ⟨xs,f,?_⟩);have:=c.length;cases e;cases ds<;>cases xs<;>simp_all
 |fup l=>exact nn e
 |loc l=>
  simp only[M.truth]at e;refine qzd e λds i g=>?_;obtain⟨a,xs,_,rfl,f,c⟩:=j.seq i h;refine .inl ⟨xs,f,?_⟩;have:=c.length;subst g;cases ds<;>cases xs<;>simp_all
 |lst l=>
  simp only[M.truth]at e;refine qzd e λds i g=>?_;obtain⟨a,xs,_,rfl,f,c⟩:=j.seq i h;refine .inl ⟨xs,f,?_⟩;have:=c.length;subst g;cases ds<;>cases xs<;>simp_all
def qii{K:Qqq}(a:IsDs K m H ds xs)(e:M.atI ds i=Y d):∃x,L2.atI xs i=Y x/\IsD K m H d x:=by
 unfold M.atI at e;refine qzx e λj g f=>?_;obtain⟨x,c,q⟩:=a.get f;refine⟨x,?_,q⟩;unfold L2.atI;have b:L2.ixN xs.length i=Y j:=by rw[<- a.length]; exact g
 rw[b];exact c
def ix_D:IxR X (rD X.K λst a b=>(M.idxD st a b).map λd=>(d,st)):=by
 intro value c pins s σ H x y v u Q I t r h hs;obtain⟨m,st,a,b,d,st',o,A,z,e,q⟩:=h;refine qzd e λk f n=>?_;cases n;unfold M.idxD at f
 split at f
 ·obtain⟨p,xs,rfl,j,g⟩:=A.tup;obtain⟨w,l,i⟩:=qii g f;exact ix_tup value c pins s σ H _ _ v u Q I t r ⟨p,xs,_,w,rfl,z.int,j,l,q.here o i⟩ hs
 ·refine qzx f λds n f=>?_;obtain⟨p,xs,_,rfl,j,g⟩:=o.seq n A;obtain⟨w,l,i⟩:=qii g f;exact qm3 value c pins s σ H _ _ v u Q I t r ⟨p,xs,_,w,rfl,z.int,j,l,q.here o i⟩ hs
 ·exact nn f
def qa9:MtM X "list.append" (λx xs H Q=>∃m st a ds d st',Rel X.K m st H/\IsD X.K m H a x/\IsDs X.K m H ds xs/\M.mAppend st a ds=Y (d,st')/\Post X.K m H d st' Q):=by
 intro pins s σ H x xs v g Q I i j h;obtain⟨m,st,a,ds,d,st',f,n,l,e,q⟩:=h;unfold M.mAppend at e
 split at e
 ·refine qzx e λt r e=>?_
  split at e
  ·rename_i z;have q:=q.of e;obtain⟨p,ys,o,rfl,b,c,hs⟩:=f.wlist r n;obtain⟨y,rfl,k⟩:=l.one;have w:=c.length;have u:=qqy;refine qdv pins s σ H _ _ v g Q I i j ⟨p,ys,y,rfl,rfl,b,by lia,?_⟩;exact q _ m _ (Sub.refl m) (Tr.put b) (f.put hs o b (c.append (qzm k qqz))) qk6
  ·exact nn e
 ·exact nn e
def rSlD(K:Qqq):V->Y4 J->Y4 J->Hp->VK->Prop:=λx lo hi H Q=>∃m st a d st',Rel K m st H/\IsD K m H a x/\M.sliD st a lo hi=Y (d,st')/\Post K m H d st' Q
theorem _root_.MS.IsDs.take{K:Qqq}:∀{ds:L D}{xs:L V}(n:Y1),IsDs K m H ds xs->IsDs K m H (ds.take n) (xs.take n)
 |_,_,0,_=>by simp only[Qkk]; exact qqz
 |[],_,n+1,h=>by rw[h.nil]; simp only[List.take_nil]; exact qqz
 |d::ds,_,n+1,h=>by
  obtain⟨x,r,rfl,q,t⟩:=h.cons;simp only[List.take_succ_cons];exact qzm q (IsDs.take n t)
theorem _root_.MS.IsDs.drop{K:Qqq}:∀{ds:L D}{xs:L V}(n:Y1),IsDs K m H ds xs->IsDs K m H (ds.drop n) (xs.drop n)
 |_,_,0,h=>by simp only[List.drop_zero]; exact h
 |[],_,n+1,h=>by rw[h.nil]; simp only[List.drop_nil]; exact qqz
 |d::ds,_,n+1,h=>by
  obtain⟨x,r,rfl,q,t⟩:=h.cons;simp only[List.drop_succ_cons];exact IsDs.drop n t
def qah(n d)(o):M.cutIx n d o=HT.sIx n d o:=by
 cases o<;>rfl
def qef{K:Qqq}(h:IsDs K m H ds xs)(lo a):IsDs K m H (M.cut ds lo a) (cutV xs lo a):=by
 unfold M.cut cutV;rw[qah,qah,h.length];exact(h.drop _).take _
def sl_D:SlR X (rSlD X.K):=by
 intro pins s σ H x v vl y lo hi sl Q I i hs pl j h;obtain⟨m,st,a,d,st',c,z,e,q⟩:=h;unfold M.sliD at e
 split at e
 ·have q:=q.of e;obtain⟨p,xs,rfl,u,k⟩:=z.tup;have t:=qef k lo hi
  by_cases f:HT.sIx xs.length 0 lo=0/\HT.sIx xs.length xs.length hi=xs.length
  ·cases i;obtain⟨n,r,A,K⟩:=I.tuple u;refine⟨"tuple",_,PyProof.Rows.slot_tuple_getitem.lookup,A.typeIs,?_⟩;have b:n.toArray.size=xs.length:=by rw[Qqc]; exact r.length.symm
   refine qq8 A hs pl j (by rw[b]; exact f) ?_;refine⟨.ref p,H,I,rfl,q.here c (qqu u ?_)⟩;have w:cutV xs lo hi=xs:=by
    unfold cutV;rw[f.1,f.2];simp
   rw[w]at t;exact t
  ·refine qht pins s σ H _ v vl y lo hi sl Q I i hs pl j ⟨p,xs,rfl,u,f,λG E=>?_⟩;have g:=qzv (o:=.tup (cutV xs lo hi)) E;exact q _ m _ (Sub.refl m) (Tr.of_same g) (c.same g) (qqu (SqT.of qzk) (qza (Sub.refl m) (Tr.of_same g) _ _ t))
 ·refine qzd e λds w F=>?_;cases F;obtain⟨p,xs,_,rfl,D,k⟩:=c.seq w z;exact qlw pins s σ H _ v vl y lo hi sl Q I i hs pl j ⟨p,xs,rfl,D,λl C=>q _ (m++[l]) _ (Sub.app m [l]) (Tr.of_same (qzv C)) (c.new C (qef k lo hi)) c.newLoc⟩
def qes:qqh X (.builtin "len") (rC X.K M.bLen):=by
 intro pins s σ H xs f Q I r h;refine h.el λm st ds d st' c g e q=>?_;unfold M.bLen at e
 split at e
 ·have q:=q.of e;obtain⟨x,rfl,i⟩:=g.one;obtain⟨p,ys,rfl,b,a⟩:=i.tup;refine qx5 pins s σ H _ f Q I r ⟨p,ys,rfl,.inr b,?_⟩;rw[<- a.length];exact q.here c (mkInt _)
 ·refine qzd e λl k j=>?_;cases j;obtain⟨x,rfl,i⟩:=g.one;obtain⟨p,ys,_,rfl,b,a⟩:=c.seq k i;refine qx5 pins s σ H _ f Q I r ⟨p,ys,rfl,.inl b,?_⟩;rw[<- a.length];exact q.here c (mkInt _)
 ·exact nn e
def qeo(hc:X.calm=Z):qqh X (.builtin "min") (rC X.K M.bMin):=by
 intro pins s σ H xs a Q I r h;refine h.el λm st ds d st' c b e q=>?_;unfold M.bMin at e
 split at e
 ·have q:=q.of e;obtain⟨x,y,rfl,i,j⟩:=b.two;cases i.int; cases j.int;exact qep hc pins s σ H _ a Q I r ⟨_,_,rfl,q.here c (mkInt _)⟩
 ·exact nn e
def qya:qqh X (.type "tuple") (rC X.K M.bTuple):=by
 intro pins s σ H xs g Q I r h;refine h.el λm st ds d st' f j e q=>?_;unfold M.bTuple at e
 split at e
 ·have q:=q.of e;obtain⟨x,rfl,i⟩:=j.one;obtain⟨p,ys,rfl,a,c⟩:=i.tup;exact qxl pins s σ H _ g Q I r ⟨p,ys,rfl,.inr ⟨a,q.here f (qqu a c)⟩⟩
 ·refine qzd e λu t n=>?_;cases n;obtain⟨x,rfl,i⟩:=j.one;obtain⟨p,ys,_,rfl,a,c⟩:=f.seq t i;refine qxl pins s σ H _ g Q I r ⟨p,ys,rfl,.inl ⟨a,λl k=>?_⟩⟩;have b:=qzv (o:=.tup ys) k;exact q _ m _ (Sub.refl m) (Tr.of_same b) (f.same b) (qqu (SqT.of qzk) (qza (Sub.refl m) (Tr.of_same b) _ _ c))
 ·exact nn e
theorem qjl:∀{xs}{vs}{b},KV xs vs->b.length=vs.length->(∀(j:Y1) (v:Y9),b[j]?=Y v->∃k x,vs[j]?=Y (k,x)/\(mixKind P w).is k v=Z)->Vals (xs.map λp=>kV p.1) b
 |[],_,b,.nil,a,_=>by
  rw[Qz3.mp a];exact .nil
 |(k,x)::xs,(l,u)::vs,[],.cons _ _,a,_=>by cases a
 |(k,x)::xs,(l,u)::vs,v::b,.cons h r,a,hv=>by
  obtain⟨s,q,e,m⟩:=hv 0 v rfl;cases e;have c:=h.1;subst c;refine .cons ?_ (qjl (P:=P) (w:=w) r (by simpa using a) λj f e=>?_)
  ·rcases qzh m with⟨i,t,rfl,rfl⟩|⟨z,t,rfl,rfl⟩
   ·exact⟨t,rfl⟩
   ·exact⟨t,rfl⟩
  ·obtain⟨g,d,o,n⟩:=hv (j+1) f (by simpa using e);exact⟨g,d,by simpa using o,n⟩
theorem IsKV.keys{K:Qqq}:∀{kvs}{xs},IsKV K m H kvs xs->IsDs K m H (M.keysOf kvs) (xs.map λp=>kV p.1)
 |[],_,h=>by rw[show _=[] from h]; exact qqz
 |p::r,_,⟨k,v,b,e,a,hv,hr⟩=>by
  subst e;refine qzm ?_ hr.keys;obtain⟨d,e⟩:=p
  cases d with
  |int i=>cases a; exact mkInt i
  |str z=>cases a; exact mkStr z
  |_=>exact nn a
theorem Rel.dkeys{K:Qqq}{st:Y2}(h:Rel K m st H)(e:M.dkeys st d=Y ds)(hv:IsD K m H d v):∃a xs,v=.ref a/\Rd H a (.dK xs)/\IsDs K m H ds (xs.map λp=>kV p.1):=by
 cases d with
 |loc l=>
  obtain⟨kvs,c,rfl⟩:=mapD e;obtain⟨a,xs,_,rfl,hr,b⟩:=h.dict c hv;exact⟨a,xs,rfl,hr,b.keys⟩
 |_=>exact nn e
def qec(I:Inv X b f H s)(e:Rd H a (.dK xs)):∃vs c,KV xs vs/\s.heap.DictAt (mixKind X.prog X.w) a vs c/\(a==Qg)=Y7/\vs.length<=sizeLine:=by
 obtain⟨g,lo,vs,d,o,es,c,r⟩:=qvk I.hok e;exact⟨vs,c,d,⟨o,es,r⟩,lo,by rw[<- d.length]; exact g⟩
def qkx(m:X.A.handled=B):qqh X (.type "list") (λxs H Q=>∃p ys,xs=[.ref p]/\Rd H p (.dK ys)/\∀l,H l=B->Q (.ref l) (upd H l (.lst (ys.map λq=>kV q.1)))):=by
 intro pins s σ H xs o Q I r h;obtain⟨p,ys,rfl,i,q⟩:=h;obtain⟨u,rfl,f⟩:=vals1 r;cases f;obtain⟨vs,t,b,n,lo,hn⟩:=qec I i;refine PySem.W.kdl_call (PySem.W.kdl_dict lo) m n hn λh' tk a c k hS d=>?_;have g:=qjl b (by rw[Qzd]; exact d.1) λj v e=>d.2 j v (by rw[<- Qq1]; exact e);refine⟨.ref s.heap.objs.size,_,I.laid k (Qqj _) (show ObjOk X.prog X.w _ h' _ (.lst (ys.map λq=>kV q.1)) from⟨?_,a.toList,c,g,hS⟩),rfl,q _ (I.hok.fresh (Qqj _))⟩;rw[Qqx,b.length]; exact hn
def qyy(K:PySem.W.KdlSrc X.prog X.w T r d n P t)(C:A.handled=B)(hok:t s.heap)(z:n<=sizeLine)(h:∀(a:Heap) (k:Y1) (vs:Array Y9),(∀b o,s.heap.get? b=Y o->a.get? b=Y o)->s.heap.objs.size<a.objs.size->ItemsOf P vs n->R vs.toList { s with heap:=a,toks:=k }):wpAny (model X.prog X.w) A (collect (.ref r)) R E s:=by
 have lt:=K.there _ hok
 let g:=s.heap.objs.size
 let p:=s.heap.push { cls:=.type "list",data:=.seq ([]:L Y9).toArray }
 have D:p.get? g=Y { cls:=.type "list",data:=.seq #[] }:=Qqf _ rfl;have ext:=PySem.W.kdl_extend (s:={ s with heap:=p }) (R:=λq m=>∃(a:Heap) (k:Y1) (vs:Array Y9) (c:Y1),q=.ok (.ret (.ref g))/\m={ s with heap:=a,toks:=k }/\(∀b o,s.heap.get? b=Y o->a.get? b=Y o)/\a.get? g=Y { cls:=.type "list",dict:=B,data:=.seq vs c,slots:=#[] }/\ItemsOf P vs n)
  K C (K.keep _ _ hok λb _ o e=>Qqz _ e) g (Qxw lt.1) (Qxw lt.2) (.ref g) 0 D
  (λa k vs c l i j=>⟨a,k,vs,c,rfl,rfl,λb o e=>l b o (Qqr (Qqb e)) (Qqz _ e),i,j⟩) z
 unfold collect;apply Qq;apply wpAny_runValue;apply Zc entry_proto_collect';rw[Around.under_plainId PySem.F.plain_proto_collect _];apply Qq;refine Qm (Qx ⟨plainId_quiet PySem.F.plain_list_iadd _,?_⟩);apply Zc entry_list_iadd';rw[Around.under_plainId PySem.F.plain_list_iadd _];refine Ql (ext) (λF m x=>?_) λe m x=>?_
 ·cases F with
  |done f=>
   rcases x with⟨a,k,vs,c,e,rfl,l,i,j⟩
   cases e;apply Qq;apply wpAny_load i;exact Qx (h a k vs l (Qqb i) j)
  |again c=>
   rcases x with⟨v,u⟩
   refine⟨v,Zq u λw G y=>?_⟩
   rcases y with⟨a,k,vs,c,rfl,rfl,l,i,j⟩
   apply Qq;apply wpAny_load i;exact Qx (h a k vs l (Qqb i) j)
 ·rcases x with⟨_,_,_,_,e,_⟩
  cases e
def qau(K:PySem.W.KdlSrc X.prog X.w T r d n P w)(x:A.handled=B)(hok:w s.heap)(G:n<64)(z:∀vs:L Y9,vs.length=n->(∀(j:Y1) (v:Y9),vs[j]?=Y v->P j v)->Z0 vs ns)(h:∀(a:Y8) (h':Heap) (m e:Y1) (f:Array Y9) (c:L J),(∀b o,s.heap.get? b=Y o->h'.get? b=Y o)->s.heap.objs.size<=a->h'.get? a=Y (seqObj "list" f e)->Z0 f.toList c->c.Perm ns->c.Pairwise (· <= ·)->Q (.ref a) { s with heap:=h',toks:=m }):
  wpAny (model X.prog X.w) A (call (.builtin "sorted") [.ref r]) Q E s:=by
 have i:n<=sizeLine:=by rw[Q2]; lia
 apply PySem.Calls.call_function_entry kind_sorted plain_sorted entry_sorted (args_sorted1 _);unfold Qs.«sorted»;apply Qq;apply Qx;apply Qq;apply qyy (A:=A.in1) K x hok i;intro h1 m g t k u;have p:g.toList.length=n:=by rw[Qzd]; exact u.1
 have hi:=z g.toList p λj v e=>u.2 j v (by rw[<- Qq1]; exact e);apply Qq;refine wpAny_newList ?_ (by rw[p]; exact i);have l:(h1.push (seqObj "list" g.toList.toArray 0)).get? h1.objs.size=Y (seqObj "list" g.toList.toArray 0):=Qqf _ rfl;apply Qq;apply Q4;refine Qe slot_list_sort ⟨_,l,rfl⟩ entry_list_sort (list_sort_tree l hi (by lia) λf c F D C=>⟨_,rfl,?_⟩) (args_list_sort _);obtain⟨e,y⟩:=sortedHeap_at l;refine Qx ⟨_,rfl,h _ _ _ e f c (λb o q=>?_) ?_ y F D C⟩
 ·have hb:=Qqb (t b o q);exact(sortedHeap_old (Qqr hb) (by rw[size_push']; exact Qxl hb)).trans (Qqz _ (t b o q))
 ·exact Qja k
def qbe(n:X.A.handled=B):qqh X (.type "list") (rC X.K M.bList):=by
 intro pins s σ H xs j Q I r h;refine h.el λm st ds d st' b k e q=>?_;unfold M.bList at e
 split at e
 ·have q:=q.of e;obtain⟨x,rfl,i⟩:=k.one;obtain⟨p,ys,rfl,f,c⟩:=i.tup;exact qx4 pins s σ H _ j Q I r ⟨p,ys,rfl,.inr f,λl a=>q _ (m++[l]) _ (Sub.app m [l]) (Tr.of_same (qzv a)) (b.new a c) b.newLoc⟩
 ·refine qzd e λt g o=>?_;cases o;obtain⟨x,rfl,i⟩:=k.one;rcases orO g with g|g
  ·obtain⟨p,ys,_,rfl,f,c⟩:=b.seq g i;exact qx4 pins s σ H _ j Q I r ⟨p,ys,rfl,.inl f,λl a=>q _ (m++[l]) _ (Sub.app m [l]) (Tr.of_same (qzv a)) (b.new a c) b.newLoc⟩
  ·obtain⟨p,ys,rfl,f,c⟩:=b.dkeys g i;exact qkx n pins s σ H _ j Q I r ⟨p,ys,rfl,f,λl a=>q _ (m++[l]) _ (Sub.app m [l]) (Tr.of_same (qzv a)) (b.new a c) b.newLoc⟩
 ·exact nn e
theorem qvy{K:Qqq}:∀{ds}{xs}{a}{bs},M.asBools ds=Y bs->IsDs K m H ds xs->Vals xs a->LSm.BoolsAre a bs
 |[],_,_,_,e,c,r=>by
  rw[c.nil]at r;cases r;cases e;exact .nil
 |d::ds,_,_,_,e,c,r=>by
  obtain⟨x,k,rfl,q,t⟩:=c.cons
  cases d with
  |bl b=>
   simp only[M.asBools]at e;refine qzd e λj i h=>?_;subst h;cases q.bl
   cases r with
   |cons g f=>
    cases g;exact .cons b (qvy i t f)
  |_=>simp[M.asBools]at e
theorem ints_of{K:Qqq}:∀{ds}{xs}{ns},M.asInts ds=Y ns->IsDs K m H ds xs->xs=ns.map V.int/\ds=ns.map D.int
 |[],_,_,e,a=>by
  cases e;exact⟨a.nil,rfl⟩
 |d::ds,_,_,e,a=>by
  obtain⟨x,h,rfl,q,t⟩:=a.cons
  cases d with
  |int b=>
   simp only[M.asInts]at e;refine qzd e λg f c=>?_;subst c;cases q.int;obtain⟨h1,h2⟩:=ints_of f t;rw[h1,h2];exact⟨rfl,rfl⟩
  |_=>simp[M.asInts]at e
def qe1(hc:X.calm=Z):qqh X (.builtin "all") (rC X.K M.bAll):=by
 intro pins s σ H xs F Q I r h;refine h.el λm st ds d st' j o e q=>?_;unfold M.bAll at e
 split at e
 ·refine qzx e λE D e=>qzd e λbs C z=>?_;cases z;obtain⟨x,rfl,i⟩:=o.one;obtain⟨p,ys,_,rfl,t,n⟩:=j.seq D i;obtain⟨u,rfl,l⟩:=vals1 r;cases l;obtain⟨a,k,pl,_⟩:=I.list t;have hb:=qvy C n k;have f:=pl.isList;have c:p<s.heap.objs.size:=by obtain⟨_,e,_⟩:=id f; exact Qqb e
  refine call_all_walk (Zg f ?_)
  refine⟨s.heap.objs.size,[s.heap.objs.size,p],[s.heap.objs.size],a.toArray.size,_,_,λi=>(bs[i]?).getD Z,rfl,Walks.list (A:=X.A.in1) (I.ok.hd hc) _ p (Qqr c) a.toArray,
   ⟨⟨_,Qqf _ rfl,rfl,rfl⟩,f.push _⟩,λi v s' G K y g=>?_,λh' tk w=>?_⟩
  ·obtain⟨b,e,rfl⟩:=hb.get i v (by simpa using y);simp only[e]at g;exact Qf g
  ·have e:((List.range a.toArray.size).all λi=>(bs[i]?).getD Z)=bs.all id:=by
    rw[Qqc,hb.length]; exact LSm.range_all bs
   rw[e];exact⟨.bl _,H,I.kept (LSm.kept_iter w),rfl,q.here j (mkBl _)⟩
 ·exact nn e
def range_any(bs:L Yc):((List.range bs.length).any λi=>(bs[i]?).getD Y7)=bs.any id:=by
 rw[Qxz,Qxd,Qxd];constructor
 ·rintro⟨i,hi,h⟩;have hi:=Qzl.mp hi;rw[Qqi hi]at h;exact⟨bs[i],Qxe hi,h⟩
 ·rintro⟨b,hb,h⟩;obtain⟨i,hi,rfl⟩:=Qz5 hb;exact⟨i,Qzl.mpr hi,by rw[Qqi hi]; exact h⟩
def qe0(hc:X.calm=Z):qqh X (.builtin "any") (rC X.K M.bAny):=by
 intro pins s σ H xs F Q I r h;refine h.el λm st ds d st' j o e q=>?_;unfold M.bAny at e
 split at e
 ·refine qzx e λE D e=>qzd e λbs C z=>?_;cases z;obtain⟨x,rfl,i⟩:=o.one;obtain⟨p,ys,_,rfl,t,n⟩:=j.seq D i;obtain⟨u,rfl,l⟩:=vals1 r;cases l;obtain⟨a,k,pl,_⟩:=I.list t;have hb:=qvy C n k;have f:=pl.isList;have c:p<s.heap.objs.size:=by obtain⟨_,e,_⟩:=id f; exact Qqb e
  refine call_any_walk (Zg f ?_)
  refine⟨s.heap.objs.size,[s.heap.objs.size,p],[s.heap.objs.size],a.toArray.size,_,_,λi=>(bs[i]?).getD Y7,rfl,Walks.list (A:=X.A.in1) (I.ok.hd hc) _ p (Qqr c) a.toArray,
   ⟨⟨_,Qqf _ rfl,rfl,rfl⟩,f.push _⟩,λi v s' G K y g=>?_,λh' tk w=>?_⟩
  ·obtain⟨b,e,rfl⟩:=hb.get i v (by simpa using y);simp only[e]at g;exact Qf g
  ·have e:((List.range a.toArray.size).any λi=>(bs[i]?).getD Y7)=bs.any id:=by
    rw[Qqc,hb.length]; exact range_any bs
   rw[e];exact⟨.bl _,H,I.kept (LSm.kept_iter w),rfl,q.here j (mkBl _)⟩
 ·exact nn e
theorem qq7(x):∀l:L J,(M.insInt x l).Perm (x::l)
 |[]=>.refl _
 |y::r=>by
  unfold M.insInt
  split
  ·exact .refl _
  ·exact((qq7 x r).cons y).trans (.swap x y r)
theorem qz2:∀l:L J,(M.sortInt l).Perm l
 |[]=>.refl _
 |x::r=>by
  unfold M.sortInt;exact(qq7 x _).trans ((qz2 r).cons x)
theorem qxf(x):∀l:L J,l.Pairwise (· <= ·)->(M.insInt x l).Pairwise (· <= ·)
 |[],_=>by unfold M.insInt; simp
 |y::r,h=>by
  unfold M.insInt
  split
  ·rename_i b;refine List.Pairwise.cons (λz a=>?_) h;rcases Qqa.mp a with e|e
   ·rw[e]; exact b
   ·exact Int.le_trans b ((Qxg.mp h).1 z e)
  ·rename_i b;have h':=Qxg.mp h;refine List.Pairwise.cons (λz a=>?_) (qxf x r h'.2);rcases Qqa.mp ((qq7 x r).mem_iff.mp a) with e|e
   ·rw[e]; lia
   ·exact h'.1 z e
theorem qqj:∀l:L J,(M.sortInt l).Pairwise (· <= ·)
 |[]=>by unfold M.sortInt; simp
 |x::r=>by
  unfold M.sortInt;exact qxf x _ (qqj r)
theorem qxd{K:Qqq}:∀(ns:L J),IsDs K m H (ns.map D.int) (ns.map V.int)
 |[]=>qqz
 |n::r=>qzm (mkInt n) (qxd r)
def qwd(hh:X.A.handled=B):qqh X (.builtin "sorted") (rC X.K M.bSorted):=by
 intro pins s σ H xs us Q I r h;refine h.el λm st ds d st' g ix e q=>?_;unfold M.bSorted at e
 split at e
 ·refine qzx e λG l e=>qzd e λns n e3=>?_;cases e3
  split at n
  ·exact nn n
  ·rename_i a0;obtain⟨x,rfl,i⟩:=ix.one;rcases orO l with l|l
   case inr=>
    obtain⟨p,ys,rfl,C,j⟩:=g.dkeys l i;obtain⟨u,rfl,t⟩:=vals1 r;cases t;obtain⟨vs,W,T,da,lo,hn⟩:=qec I C;obtain⟨F,e5⟩:=ints_of n j;have z:=j.length;rw[Qqx]at z;have l5:=T.length;refine qau (ns:=ns) (PySem.W.kdl_dict lo) hh da (by lia) (λLq hl hv=>?_) λa h1 tk c f v hk U D P N K=>?_
    ·have S:=qjl T hl hv;rw[F]at S;exact intsAre_of S
    ·have E:=PySem.W.ksm_same (N.trans (qz2 ns).symm) K (qqj ns);subst E;have y:=(qz2 ns).length_eq;have w:=qqy;have l6:ns.length=G.length:=by
      have:=congrArg List.length e5;rw[Qqx]at this;exact this.symm
     have k:=I.hok.fresh U;refine⟨.ref a,upd H a (.lst ((M.sortInt ns).map V.int)),I.laid hk U ⟨?_,f.toList,c,qxz P,?_⟩,rfl,?_⟩
     ·rw[Qqx,y,w];unfold M.lim
      lia
     ·rw[D]
     ·exact q _ (m++[_]) _ (Sub.app m _) (Tr.of_same (qzv k)) (g.new k (qxd _)) g.newLoc
   obtain⟨p,ys,_,rfl,C,j⟩:=g.seq l i;obtain⟨u,rfl,t⟩:=vals1 r;cases t;obtain⟨A,R,pl,_⟩:=I.list C;obtain⟨F,e5⟩:=ints_of n j;have z:=j.length;have l2:=R.length;subst F;have hI:=intsAre_of R;refine sorted_ints pl.isList hI (by lia) λf v P N K=>?_;have E:=PySem.W.ksm_same (N.trans (qz2 ns).symm) K (qqj ns);subst E;obtain⟨W,D⟩:=sortedAll_at s.heap A f;have k:=I.hok.fresh (Qxv _);have y:=(qz2 ns).length_eq;have w:=qqy;rw[Qqx]at z;refine⟨.ref (s.heap.objs.size+1),upd H (s.heap.objs.size+1) (.lst ((M.sortInt ns).map V.int)),I.laid (λb o e=>sortedAll_old e) (Qxv _) ?_,rfl,?_⟩
   ·refine⟨?_,f.toList,W,qxz P,?_⟩
    ·rw[Qqx,y,w];unfold M.lim
     lia
    ·rw[D]
   ·exact q _ (m++[_]) _ (Sub.app m _) (Tr.of_same (qzv k)) (g.new k (qxd _)) g.newLoc
 ·exact nn e
def qdi(K)(n t)(a:t≠.non):PySem.W.kitOne K (.type n.name) (.type t.name)=Y (M.tyIs t n):=by
 cases n<;>cases t<;>first
  |exact absurd rfl a
  |rfl
  |decide +kernel
theorem qdl(K)(n):∀a:L M.Ty,(∀t∈a,t≠.non)->PySem.W.kitAny K (.type n.name) (a.map λt=>Value.type t.name)=Y (a.any λt=>M.tyIs t n)
 |[],_=>rfl
 |t::a,h=>by
  rw[Qqh,Qz2];unfold PySem.W.kitAny;rw[qdi K n t (h t Qq2)]
  cases M.tyIs t n with
  |true=>rfl
  |false=>exact qdl K n a λb c=>h b (Qqs _ c)
def qiq{st:Y2}(I:Inv X c v H s)(p:Rel X.K m st H)(h:IsD X.K m H d x)(r:RelV x u)(e:M.tyName st d=Y n):
  ∃q:Heap->Prop,PySem.W.KitX X.K u (.type n.name) q/\q s.heap/\u≠.builtin "__main__.__loader__#opaque":=by
 cases d with
 |non=>cases h.non; cases r; cases e; exact⟨_,PySem.W.kitx_none,True.intro,λz=>nomatch z⟩
 |bl b=>cases h.bl; cases r; cases e; exact⟨_,PySem.W.kitx_bool,True.intro,λz=>nomatch z⟩
 |int b=>cases h.int; obtain⟨t,rfl⟩:=r; cases e; exact⟨_,PySem.W.kitx_int,True.intro,λz=>nomatch z⟩
 |str b=>cases h.str; obtain⟨t,rfl⟩:=r; cases e; exact⟨_,PySem.W.kitx_str,True.intro,λz=>nomatch z⟩
 |tup ds=>
  obtain⟨a,xs,f,rfl,g,k,y,p1⟩:=qz7 I h;cases r;cases e;obtain⟨o,h1,h2,_⟩:=p1;exact⟨_,PySem.W.kitx_tuple,⟨o,h1,h2⟩,λz=>nomatch z⟩
 |fup l=>exact nn e
 |loc l=>
  simp only[M.tyName]at e;refine qzd e λds j i=>?_;subst i;obtain⟨a,xs,_,rfl,g,k⟩:=p.seq j h;cases r;obtain⟨f,w,pl,_⟩:=I.list g;obtain⟨o,h1,h2,_⟩:=pl.isList;exact⟨_,PySem.W.kitx_list,⟨o,h1,h2⟩,λz=>nomatch z⟩
 |lst l=>
  simp only[M.tyName]at e;refine qzd e λds j i=>?_;subst i;obtain⟨a,xs,_,rfl,g,k⟩:=p.seq j h;cases r;obtain⟨f,w,pl,_⟩:=I.list g;obtain⟨o,h1,h2,_⟩:=pl.isList;exact⟨_,PySem.W.kitx_list,⟨o,h1,h2⟩,λz=>nomatch z⟩
def rIsi1(K:Qqq)(t:M.Ty):L V->Hp->VK->Prop:=λxs H Q=>∃m st d n x,xs=[x,.ty t.name]/\Rel K m st H/\IsD K m H d x/\M.tyName st d=Y n/\Q (.bl (M.tyIs t n)) H
def qeu(t)(f:t≠.non):qqh X (.builtin "isinstance") (rIsi1 X.K t):=by
 intro pins s σ H xs k Q I r h;obtain⟨m,st,d,n,x,rfl,j,i,e,q⟩:=h;obtain⟨u,w,rfl,b,a⟩:=vals2 r;cases a;obtain⟨l,g,p,c⟩:=qiq I j i b e;exact PySem.W.kia_one g I.kIn p (qdi X.K n t f) c λtk=>⟨.bl _,H,I.tok tk,rfl,q⟩
def rIsiN(K:Qqq)(ts:L M.Ty):L V->Hp->VK->Prop:=λxs H Q=>∃m st d n x p,xs=[x,.ref p]/\H p=Y (.tup (ts.map λt=>V.ty t.name))/\Rel K m st H/\IsD K m H d x/\M.tyName st d=Y n/\Q (.bl (ts.any λt=>M.tyIs t n)) H
theorem qyc:∀{a:L M.Ty}{us:L Y9},Vals (a.map λt=>V.ty t.name) us->us=a.map λt=>Value.type t.name
 |[],_,.nil=>rfl
 |t::a,_,.cons r q=>by
  cases r;rw[qyc q]
  rfl
def qet(a)(v:∀t∈a,t≠.non):qqh X (.builtin "isinstance") (rIsiN X.K a):=by
 intro pins s σ H xs D Q I r h;obtain⟨m,st,d,n,x,p,rfl,y,C,i,e,q⟩:=h;obtain⟨u,w,rfl,j,b⟩:=vals2 r;cases b;obtain⟨F,A,k,o⟩:=qiq I C i j e;obtain⟨_,l,g,⟨cls,E,f,sl⟩,h1,h2,nn,c⟩:=I.hok p _ y;have z:=qyc g;subst z;simp only at h2 c;subst h2 c;exact PySem.W.kia_tup A I.kIn k h1 (qdl X.K n a v) o λtk=>⟨.bl _,H,I.tok tk,rfl,q⟩
end
end MS
end
section
namespace MS
open PySem PySem.Spec PyProof.Rows L2
noncomputable def qxi(cells:L (Y6×Y8)):L (Y6×Qn)->L (Y6×Y8)->L (Y6×Y8)
 |[],acc=>acc
 |(n,k)::r,acc=>qxi cells r (if k==.free then(match cells.lookup n with|some a=>(n,a)::acc|none=>acc) else acc)
def qeg:∀(names:L (Y6×Qn)) (b:L (Y6×Y8)),(∀x∈names,x.2=.free->∃c,env.cells.lookup x.1=Y c)->
  (forIn names b λx r=>match x,r with
   |(name,kind),cs=>if (kind==.free)=Z then do let a <- cellOf env name; pure (ForInStep.yield ((name,a)::cs)) else pure (ForInStep.yield cs):Sem (L (Y6×Y8)))=pure (qxi env.cells names b):=by
 intro names
 induction names with
 |nil=>intro b _; rfl
 |cons x r f=>
  intro b h;obtain⟨n,k⟩:=x;rw[List.forIn_cons];have hr:=λb=>f b λy g=>h y (Qqs _ g)
  by_cases e:k=.free
  ·subst e;obtain⟨c,hc⟩:=h (n,.free) Qq2 rfl;simp only[ cellOf,hc];simp only[pure_bind];refine(hr ((n,c)::b)).trans ?_;have d:=hc;simp[qxi,d]
  ·have hb:(k==NameKind.free)=false:=by simpa using e
   simp only[hb,pure_bind];refine(hr b).trans ?_;simp[qxi,hb]
def qvv(h:∀x∈a.names,x.2=.free->∃c,env.cells.lookup x.1=Y c):closureFor a env=pure (qxi env.cells a.names []):=by
 unfold closureFor;have:=qeg a.names [] h;simp only[this]
 rfl
theorem qvw(hc:a.lookup x=Y c):∀(names:L (Y6×Qn)) (b:L (Y6×Y8)),((x,NameKind.free)∈names\/b.lookup x=Y c)->(qxi a names b).lookup x=Y c
 |[],b,h=>by
  rcases h with h|h
  ·cases h
  ·exact h
 |(n,k)::r,b,h=>by
  unfold qxi;refine qvw hc r _ ?_
  by_cases d:k=.free
  ·subst d;simp only[beq_self_eq_true,if_true]
   by_cases hn:n=x
   ·subst hn;rw[hc];exact .inr (by simp)
   ·rcases h with h|h
    ·rcases Qqa.mp h with e|e
     ·cases e; exact absurd rfl hn
     ·exact .inl e
    ·refine .inr ?_
     split
     ·have:(x==n)=false:=by simpa using Ne.symm hn
      rw[Qzv,this]; exact h
     ·exact h
  ·have hb:(k==NameKind.free)=false:=by simpa using d
   rw[hb,Z7 Qq0];rcases h with h|h
   ·rcases Qqa.mp h with e|e
    ·cases e; exact absurd rfl d
    ·exact .inl e
   ·exact .inr h
theorem qz9:∀(names:L (Y6×Qn)) (f:L (Y6×Y8)),(∀x c,f.lookup x=Y c->b.lookup x=Y c)->∀x c,(qxi b names f).lookup x=Y c->b.lookup x=Y c
 |[],f,h,x,c,e=>h x c e
 |(n,k)::r,f,h,x,c,e=>by
  unfold qxi at e;refine qz9 r _ ?_ x c e;intro y d q
  by_cases i:(k==NameKind.free)=Z
  ·rw[Z8 i]at q
   split at q
   ·rename_i a j
    by_cases g:(y==n)=Z
    ·rw[Qzv,g]at q;rw[eq_of_beq g,j]; exact q
    ·have:(y==n)=false:=by simpa using g
     rw[Qzv,this]at q;exact h y d q
   ·exact h y d q
  ·rw[Z7 i]at q;exact h y d q
theorem qqk(env:Env):∀(names:L (Y6×Qn)) (x:Y6),(names.map λ(n,k)=>if (k==NameKind.free&&env.scope.kind==.function&&env.kindOf n==Y .cell) then(n,NameKind.cell) else(n,k)).lookup x =
  (names.lookup x).map λk=>if (k==NameKind.free&&env.scope.kind==.function&&env.kindOf x==Y .cell) then NameKind.cell else k
 |[],x=>rfl
 |(n,k)::r,x=>by
  have c:=qqk env r x;rw[Qqh]
  by_cases b:(x==n)=Z
  ·have e:=eq_of_beq b;subst e;dsimp only
   split
   ·rename_i hc;rw[Qzv,b,Qzv,b];dsimp only[oMs];rw[Z8 hc]
   ·rename_i hc;rw[Qzv,b,Qzv,b];dsimp only[oMs];rw[Z7 hc]
  ·have a:(x==n)=false:=by simpa using b
   dsimp only
   split
   ·rw[Qzv,a,Qzv,a]; exact c
   ·rw[Qzv,a,Qzv,a]; exact c
section
def qwc(E:∀e s',o e s'->notedBy (model prog w) A env (λe s'=>R (.error e) s') e s')(I:Y1->Qz->Prop)(turn:∀n s,I n s->wpAny (model prog w) A (pyNext it) (λr d=>match r with
   |none=>R (.ok .next) d
   |some v=>wpAny (model prog w) A (Zo a it v) (λ_ s₀=>wpAny (model prog w) A (assign a env v) (λ_ i=>
     wpAny (model prog w) A (forIn ifs Z λc r=>if r=Z then do let ok <- isTrue c env (Qb c env); pure (ForInStep.yield ok) else pure (ForInStep.yield r)) (λok b=>
      if ok=Z then wpAny (model prog w) A (Qb elt env) (λx g=>wpAny (model prog w) A (call (.builtin "list.append") [D,x]) (λ_ f=>∃m,m<n/\I m f) o g) o b
      else ∃m,m<n/\I m b) o i) o s₀) o d) o s)(n)(h:I n s):Ze (model prog w) A (.compLoop (.ListComp elt [⟨a,p,ifs,0⟩] l pos) 0 it D env) R s:=by
 refine codeAny_loop rfl I (λn s F=>?_) n h;refine wpAny_noted (Ql ?_ (λ_ _ q=>q) E);rw[compTurn_list];refine Qq (wpAny_standAt (Qq (Ql (turn n s F) (λr d k=>?_) λ_ _ z=>z)))
 cases r with
 |none=>exact Qx k
 |some v=>
  refine Qq (Ql k (λ_ s₀ C=>?_) λ_ _ z=>z);refine Qq (Ql C (λ_ i y=>Qq (Ql y (λok b j=>?_) λ_ _ z=>z)) λ_ _ z=>z)
  cases ok with
  |false=>exact Qx ⟨rfl,j⟩
  |true=>
   exact Qq (Qq (Ql j (λx g u=>Qq (Ql u (λ_ f t=>Qx (Qx ⟨rfl,t⟩)) λ_ _ z=>z)) λ_ _ z=>z))
end
def HOk.track(x:HOk P w H h)(d:H a=B)(new:ObjOk P w (upd H a o) h a o):HOk P w (upd H a o) h:=λb u e=>by
 by_cases hb:b=a
 ·subst hb; rw[qzk]at e; cases e; exact new
 ·rw[qzq hb]at e;exact(x b u e).stay (λc v _ q=>q) (λc q=>by rw[qzq (qzg q d)]; exact q) λc xs q=>by rw[qzq (qzg q d)]; exact q
theorem Inv.track(I:Inv X c f H s)(hf:FpOk X c H a)(new:ObjOk X.prog X.w (upd H a o) s.heap a o):Inv X c f (upd H a o) s:=by
 obtain⟨d,k,l,j,i,g⟩:=hf;refine I.step (ch:=[a]) (λb hb=>?_) (λb o _ _ _ e _=>e) (λb o _ _ _ e _=>⟨o.slots,e⟩) (λb o hb e n=>?_) (λb o _ e=>⟨o,e⟩)
  (λb xs e=>by rw[qzq (qzg e d)]; exact e) (λb o u e=>by rw[qzq (qzg e d)]; exact e) (λb ps e=>⟨#[],by rw[qzq (qzg e d),e]; simp⟩) (λm h=>h) (HOk.track I.hok d new) I.bare
 ·have e:b=a:=by simpa using hb
  subst e;exact⟨j,k,i,g⟩
 ·rw[qzq (by simpa using hb)]; exact n
noncomputable def qzn(X:Cx)(N:L Y6)(scope:Scope)(C:Y8)(fp:L Y8)(s:Qz)(H:Hp):Cx:=
 { X with N:=N,s₀:=s,H₀:=H,env:=compEnvC scope (qxi X.env.cells scope.names []) C X.env,outer:=X.stack,ex:=fp,fn:=λ_=>Y7,pn:=[],xe:=λ_ _=>False }
noncomputable def qq2(src:L (Y4 Y1))(σ:L2.St):L2.St:=src.map λo=>o.bind λi=>(σ[i]?).bind id
structure CompScope (X:Cx) (N:L Y6) (src:L (Y4 Y1)) (scope:Scope):Prop where
 kind:scope.kind=.function
 cell:∀y∈scope.names,y.2≠.cell
 free:∀y∈scope.names,y.2=.free->X.env.kindOf y.1=Y .cell\/X.env.kindOf y.1=Y .free
 loc:∀y∈scope.names,y.2=.local->scope.names.lookup y.1=Y .local
 len:src.length=N.length
 src:∀(j i:Y1),src[j]?=Y (Y i)->∃x,N[j]?=Y x/\X.N[i]?=Y x/\scope.names.lookup x=Y .free
section
def mem_lookup{names:L (Y6×Qn)}(h:names.lookup x=Y k):(x,k)∈names:=PySem.mem_of_lookup h
def qwb(S:CompScope X N src a)(I:Inv X pins σ H s):closureFor a X.env=pure (qxi X.env.cells a.names []):=
 qvv λx b c=>I.ok.has x.1 (S.free x b c)
def qnn(S:CompScope X N src a)(I:Inv X pins σ H s)(j:s.heap.objs.size<=C)(d:∀b∈fp,FpOk X pins H b)(g:∀b∈fp,b<s.heap.objs.size):(qzn X N a C fp s H).Ok where
 mod:=I.ok.mod
 kind:=S.kind
 glob:=I.ok.glob
 blt:=I.ok.blt
 above:=j
 inj:=λx y c h1 h2=>I.ok.inj x y c (qz9 _ [] (λ_ _ z=>nomatch z) x c h1) (qz9 _ [] (λ_ _ z=>nomatch z) y c h2)
 has:=λx h=>by
  have e:(qzn X N a C fp s H).env.kindOf x=(a.names.lookup x).map λk=>if (k==NameKind.free&&X.env.scope.kind==.function&&X.env.kindOf x==Y .cell) then NameKind.cell else k:=qqk X.env a.names x
  rw[e]at h
  cases q:a.names.lookup x with
  |none=>rw[q]at h; rcases h with h|h<;>cases h
  |some k=>
   have l:k=.free:=by
    rw[q]at h;simp only[oMs,Option.some.injEq]at h
    by_cases hc:(k==NameKind.free&&X.env.scope.kind==.function&&X.env.kindOf x==Y .cell)=Z
    ·simp only[Qqn]at hc;exact eq_of_beq hc.1.1
    ·rw[Z7 hc]at h;rcases h with h|h
     ·subst h; exact absurd rfl (S.cell _ (mem_lookup q))
     ·exact h
   subst l;have i:=mem_lookup q;obtain⟨c,hc⟩:=I.ok.has x (S.free _ i rfl);exact⟨c,qvw hc _ _ (.inl i)⟩
 cab:=λx c h=>by cases h
 hd:=I.ok.hd
 frames:=I.ok.frames
 stk:=.inl rfl
 exf:=λb hb=>⟨Qqr (Qq3 (g b hb) j),λx c e=>(d b hb).2.2.2.2.1 x c (qz9 _ [] (λ_ _ z=>nomatch z) x c e)⟩
 bs:=I.bs
 bsz:=Qz0 I.ok.bsz I.sz
 noex:=λb o e hb=>by
  rcases (d b hb).2.2.2.1 with z|z
  ·exact I.ok.noex b o e z
  ·exact absurd (Qq3 (Qqb e) (Qz0 I.ok.bsz z)) (Qzo _)
 exfs:=λb hb hf=>by
  have f:=d b hb;rcases Qqa.mp (I.stkSub b hf) with z|z
  ·exact f.2.1 z
  ·exact f.2.2.1 z
 funs:=I.stack
 frf:=I.stkFree
def qbd(S:CompScope X N src a)(I:Inv X pins σ H s)(E:s.heap.objs.size<=C)(n:∀b∈fp,FpOk X pins H b)(l:∀b∈fp,b<s.heap.objs.size)(kp:∀b o,s.heap.get? b=Y o->h'.get? b=Y o)(ns:h'.Ns C A):Inv (qzn X N a C fp s H) [] (qq2 src σ) H { s with heap:=h',toks:=G }:=by
 have U:=qnn S I E n l;refine⟨U,rfl,I.bare,Un.kept kp,⟨A,ns,λj x v r d hv=>?_⟩,λx c e=>?_,I.hok.fresh E,λx c e=>?_,λp P=>absurd (show p∈([]:L (Y8×Obj)) from P) (by simp),I.hok.kept kp,?_⟩
 ·unfold qq2 at d;rw[Qqw]at d
  cases q:src[j]? with
  |none=>rw[q]at d; cases d
  |some o=>
   rw[q]at d
   cases o with
   |none=>cases d
   |some i=>
    obtain⟨V,F,R,t⟩:=S.src j i q;have r:N[j]?=Y x:=r;rw[r]at F;cases F;have hi:σ[i]?=Y (Y v):=by
     cases z:σ[i]? with
     |none=>simp[z]at d
     |some w=>
      cases w with
      |none=>simp[z]at d
      |some w=>simpa[z] using d
    obtain⟨W,Q,m⟩:=I.loc;have D:=S.free _ (mem_lookup t) rfl;have g:Vis X.env.scope x:=by
     rcases D with z|z
     ·exact .inr (.inl z)
     ·exact .inr (.inr z)
    obtain⟨u,K,lk⟩:=m i x v R hi g;refine⟨u,K,?_⟩;rcases lk with⟨z,_⟩|⟨_,c,hc,f⟩
    ·rcases D with y|y
     ·rw[y]at z; cases z
     ·rw[y]at z; cases z
    ·refine .inr ⟨?_,c,qvw hc _ _ (.inl (mem_lookup t)),?_⟩
     ·have e:(qzn X N a C fp s H).env.kindOf x=(a.names.lookup x).map λk=>if (k==NameKind.free&&X.env.scope.kind==.function&&X.env.kindOf x==Y .cell) then NameKind.cell else k:=qqk X.env a.names x
      rw[e,t];simp only[oMs]
      by_cases hc:(NameKind.free==NameKind.free&&X.env.scope.kind==.function&&X.env.kindOf x==Y .cell)=Z
      ·rw[Z8 hc]; exact .inl rfl
      ·rw[Z7 hc]; exact .inr rfl
     ·obtain⟨o,h,hd⟩:=f;exact⟨o,kp c o h,hd⟩
 ·have T:=qz9 _ [] (λ_ _ z=>nomatch z) x c e;obtain⟨v,o,h,hd⟩:=I.cell x c T;exact⟨v,o,kp c o h,hd⟩
 ·exact I.freeC x c (qz9 _ [] (λ_ _ z=>nomatch z) x c e)
 ·unfold qq2;rw[Qqx];exact S.len
end
def qbp(X:Cx)(ifs:L Qj)(tt:TT):Prop:=∀(pins:L (Y8×Obj)) (s:Qz) (σ:L2.St) (H:Hp) (Q:Yc->Hp->Prop),Inv X pins σ H s->tt σ H Q->
 wpAny (model X.prog X.w) X.A (forIn ifs Z λc r=>if r=Z then do let ok <- isTrue c X.env (Qb c X.env); pure (ForInStep.yield ok) else pure (ForInStep.yield r)) (TP X pins σ Q) X.xe s
def qfo:qbp X [] (λ_ H Q=>Q Z H):=λpins s σ H Q I h=>by
 exact Qx ⟨H,I,h⟩
def qfn(hc:PT X c tc):qbp X [c] tc:=λpins s σ H Q I h=>by
 rw[List.forIn_cons];simp only[if_true];refine Qq (Qq (thn (hc pins s σ H Q I h) λb a q=>Qx ?_));exact Qx q
def qkl{c3:L V->Hp->Prop}{RR:Y9->Y8->Result->Qz->Prop}{Ex:Y8->Y8->Y9->Qz->Prop}(hc:X.calm=Z)(I:Inv X t σ H s)(T:Turn X.prog X.w X.K tg Jq fp it tn)(a5:tn 0 s.heap)(A:∀b∈fp,FpOk X t H b)(S:CompScope X N src scope)(hg:∀C,PG (qzn X N scope C fp s H) tg g)(ht:∀C,qbp (qzn X N scope C fp s H) ifs tt)(he:∀D C,PE ((qzn X N scope C fp s H).wish (Ex D C)) elt te)(c8:∀D C,s.heap.objs.size<=C->∀e s',Ex D C e s'->notedBy (model X.prog X.w) X.A (compEnvC scope (qxi X.env.cells scope.names []) C X.env) (λe s'=>RR (.ref D) C (.error e) s') e s')(W:Y1->Y1->L V->L2.St->Hp->Prop)(w0:∃k,W 0 k [] (qq2 src σ) H)(step:∀i k f σ H,W i k f σ H->(Jq.stop i H/\f.length<=sizeLine/\c3 f H)\/(Jq.go i H/\f.length<sizeLine/\∀x H',Jq.yld i H x H'->g x σ H' λU H2=>tt U H2 λb H3=>
   if b=Z then te U H3 λv H4=>∃k',k'<k/\W (i+1) k' (f++[v]) U H4 else ∃k',k'<k/\W (i+1) k' f U H3))(c7:∀D C s' H' f,c3 f H'->H' D=B->Inv X t σ (upd H' D (.lst f)) s'->FpOk X t (upd H' D (.lst f)) C->(∃m,s'.heap.Ns C m)->RR (.ref D) C (.ok .next) s'):
  wpAny (model X.prog X.w) X.A (newList []) (λf s₃=>wpAny (model X.prog X.w) X.A (newFunctionEnv scope X.env.globals (qxi X.env.cells scope.names []) [] X.env.qual B .none (Y X.env)) (λa3 b8=>
   Ze (model X.prog X.w) X.A (.compStart (.ListComp elt [⟨tg,a0,ifs,0⟩] scope pos) 0 (.ref it) f { a3 with scope:=relabel scope X.env }) (RR f a3.locals) b8) E s₃) E s:=by
 have c0:∀b∈fp,b<s.heap.objs.size:=λb hb=>by obtain⟨o,e,_⟩:=T.obj 0 _ a5 b hb; exact Qqb e
 refine Qm (wpAny_newFunctionEnv S.cell (by intro y hy; simp at hy) (λa1 l j=>?_) S.kind);generalize a8:s.heap.push { cls:=.type "list",dict:=B,data:=.seq ([]:L Y9).toArray }=H2 at l j ⊢;have hC:H2.objs.size=s.heap.objs.size+1:=by rw[<- a8,Qz9]
 have G:s.heap.objs.size≠H2.objs.size:=by rw[hC]; exact Qqr (Qzb _)
 have R:s.heap.objs.size<=H2.objs.size:=by rw[hC]; exact Qxv _
 have old:=λb o e=>j.extBut b o (by rw[hC]; exact Qqr (Qxl (Qqb e))) (Qqz _ (a8▸Qqz _ e));have a2:=j.extBut _ _ G (Qqz _ (a8▸Qqf _ rfl));generalize Q:s.heap.objs.size=Dd at G R a2;generalize d5:H2.objs.size=Cc at G R l j hC ⊢;have a9:=Nat.le_of_eq Q;have b0:s.heap.objs.size<=Cc:=by rw[Q]; exact R
 have fD:=I.hok.fresh a9;have I1:Inv (qzn X N scope Cc fp s H) [] (qq2 src σ) H { s with heap:=a1,toks:=s.toks+([]:L (Y6×Y9)).length }:=qbd S I b0 A c0 old l;have b9:∀b∈fp,b≠Dd:=λb hb=>by rw[<- Q]; exact Qqr (c0 b hb)
 have b5:∀x c,(qzn X N scope Cc fp s H).env.cells.lookup x=Y c->c≠Dd:=λx c e z=>by
  have e':=qz9 _ [] (λ_ _ z=>nomatch z) x c e;obtain⟨v,o,ho,_⟩:=I.cell x c e';rw[z,<- Q]at ho;exact Qzo _ (Qqb ho)
 have c9:Dd ∉ (qzn X N scope Cc fp s H).fs:=λz=>by
  obtain⟨_,o,ho,_⟩:=I1.ok.funs.mem z;rw[<- Q]at ho;exact Qzo _ (Qqb ho)
 have P:∀{pl:L (Y8×Obj)}{H':Hp},(∀p∈pl,p.1=Dd)->(∀b∈fp,H' b=B)->∀b∈fp,FpOk (qzn X N scope Cc fp s H) pl H' b:=λ{pl H'} c4 hn b hb=>
  ⟨hn b hb,(I1.ok.exf b hb).1,I1.ok.exfs b hb,.inl hb,(I1.ok.exf b hb).2,λp n=>by
   have c5:=n
   rw[c4 p c5]; exact(b9 b hb).symm⟩
 obtain⟨k0,w0⟩:=w0;have loop:∀s₃:Qz,s₃={ s with heap:=a1,toks:=s.toks+([]:L (Y6×Y9)).length }->
   Ze (model X.prog X.w) X.A (.compLoop (.ListComp elt [⟨tg,a0,ifs,0⟩] scope pos) 0 (.ref it) (.ref Dd) (compEnvC scope (qxi X.env.cells scope.names []) Cc X.env)) (RR (.ref Dd) Cc) s₃:=by
  rintro s₃ rfl;refine qwc (c8 Dd Cc b0) (λk s'=>∃i f h nn b7 H',Inv (qzn X N scope Cc fp s H) [] b7 H' s'/\tn i s'.heap/\(∀b∈fp,H' b=B)/\W i k f b7 H'/\Vals f h/\s'.heap.get? Dd=Y { cls:=.type "list",data:=.seq h.toArray nn }/\H' Dd=B) ?_ k0
   ⟨0,[],[],0,qq2 src σ,H,I1,T.keep _ _ _ a5 λb _ o e=>old b o e,λb hb=>(A b hb).1,w0,.nil,a2,fD⟩
  rintro k s3 ⟨i,f,h,nn,K,H3,I3,t3,c1,w3,rv,c6,a6⟩;have c2:Inv (qzn X N scope Cc fp s H) [(Dd,{ cls:=.type "list",data:=.seq h.toArray nn })] K H3 s3:=I3.pins_of λp n=>by
   have e:p=(Dd,{ cls:=.type "list",data:=.seq h.toArray nn }):=by simpa using n
   subst e
   exact⟨c6,a6,G,c9,λv z=>by
    have z':=z
    cases z'⟩
  rcases step i k f K H3 w3 with⟨stop,hz,d2⟩|⟨go,hz,next⟩
  ·refine thn (T.done (qzn X N scope Cc fp s H) rfl rfl rfl hc i _ s3 K H3 (Ex Dd Cc) c2 (P (λp n=>by rw[Qqy.mp n]) c1) t3 stop) λr s4 ⟨hr,I4⟩=>?_;subst hr;have p4:=I4.pin (Dd,{ cls:=.type "list",data:=.seq h.toArray nn }) (Qqu _ (by simp));have I5:=I.call' I4.os I4.base I4.hok I4.bare λb hb=>⟨(A b hb).2.2.2.1,(A b hb).2.1,(A b hb).2.2.2.2.1,(A b hb).2.2.2.2.2⟩
   have d1:=I.fpOk a9 a6;refine c7 Dd Cc s4 H3 f d2 a6 (Inv.track I5 d1 ⟨hz,h,nn,rv,p4.1⟩) (I.fpOk b0 (by rw[qzq (Ne.symm G)]; exact I4.free)) ?_;obtain⟨m4,n4,_⟩:=I4.loc;exact⟨m4,n4⟩
  ·refine thn (T.item (qzn X N scope Cc fp s H) rfl rfl rfl hc i _ s3 K H3 (Ex Dd Cc) c2 (P (λp n=>by rw[Qqy.mp n]) c1) t3 go) λr s4 ⟨u,hr,h4⟩=>?_;subst hr;refine thn h4 λ_ s5 ⟨x,H5,I5,r5,y5,t5,d0⟩=>?_;have d3:=I5.pinned (P (λp n=>by rw[Qqy.mp n]) d0) (T.obj _ _ t5);refine Ql (hg Cc _ s5 K H5 x u _ d3 r5 (next x H5 y5)) (λ_ s6 ⟨w,H6,I6,q6⟩=>?_) λ_ _ z=>z.elim;refine Ql (ht Cc _ s6 w H6 _ I6 q6) (λb s7 ⟨H7,I7,q7⟩=>?_) λ_ _ z=>z.elim;have a4:∀{b6:L2.St}{H8:Hp}{s8:Qz},Inv (qzn X N scope Cc fp s H) ([(Dd,{ cls:=.type "list",data:=.seq h.toArray nn })]++qvt fp s5.heap) b6 H8 s8->
     tn (i+1) s8.heap/\(∀b∈fp,H8 b=B)/\s8.heap.get? Dd=Y { cls:=.type "list",data:=.seq h.toArray nn }/\H8 Dd=none:=λ{b6 H8 s8} I8=>by
    refine⟨T.keep _ _ _ t5 λb hb o e=>(I8.pin (b,o) (Qqu _ (Qqu _ (qqt hb e)))).1,λb hb=>?_,?_,?_⟩
    ·obtain⟨o,e,d⟩:=T.obj _ _ t5 b hb;exact(I8.pin (b,o) (Qqu _ (Qqu _ (qqt hb e)))).2.1
    ·exact(I8.pin (Dd,_) (Qqu _ (Qzf _ (by simp)))).1
    ·exact(I8.pin (Dd,{ cls:=.type "list",data:=.seq h.toArray nn }) (Qqu _ (Qzf _ (by simp)))).2.1
   cases b with
   |false=>
    simp only[Qzw]at q7 ⊢;obtain⟨k',hk,w7⟩:=q7;obtain⟨b1,b2,b3,b4⟩:=a4 I7;exact⟨k',hk,i+1,f,h,nn,w,H7,I7.pins_of λp n=>absurd n (by simp),b1,b2,w7,rv,b3,b4⟩
   |true=>
    simp only[if_true]at q7 ⊢;refine thn (he Dd Cc _ s7 w H7 _ (I7.wish _) q7) λy s8 ⟨v8,H8,I8,r8,k',hk,w8⟩=>?_;have I8:=I8.unwish;obtain⟨b1,b2,b3,b4⟩:=a4 I8;have l1:=rv.length;refine Q0 F.slot_list_append ⟨_,b3,rfl⟩ F.entry_list_append (F.args_list_append_2 _ _) (PySem.list_append Dd h.toArray nn y (by rw[Qqc]; lia)) ⟨b3,?_⟩;have q:=PySem.IsL.update b3 (λa=>a.push y);have a7:h.toArray.push y=(h++[y]).toArray:=by simp
    rw[a7]at q;have I9:Inv (qzn X N scope Cc fp s H) [] w H8 s8:=I8.pins_of λp n=>absurd n (by simp);have d4:Inv (qzn X N scope Cc fp s H) [] w H8 { s8 with heap:=s8.heap.update Dd (Obj.mapSeq (·.push y)) }:=
     I9.turned (λb o hb e=>(Qjq s8.heap _ (Ne.symm hb)).trans e) b4 G (.inr a9) b5 λp n=>absurd (show p∈([]:L (Y8×Obj)) from n) (by simp)
    exact⟨k',hk,i+1,f++[v8],h++[y],_,w,H8,d4,T.keep _ _ _ b1 λb hb o e=>(Qjq s8.heap _ (Ne.symm (b9 b hb))).trans e,b2,w8,rv.append (.cons r8 .nil),q,b4⟩
 exact codeAny_compStart_list (loop _ rfl) (T.self _ 0 _ _ _ (T.keep _ _ _ a5 λb _ o e=>old b o e) (loop _ rfl))
noncomputable def qlj(src:L (Y4 Y1))(wi:TI)(g:TG)(tt:TT)(te:TE):TE:=λσ H Q=>wi σ H λJq H1=>∃W:Y1->Y1->L V->L2.St->Hp->Prop,(∃k,W 0 k [] (qq2 src σ) H1)/\
 ∀i k acc σ' H',W i k acc σ' H'->(Jq.stop i H'/\acc.length<=sizeLine/\∀p,H' p=B->Q (.ref p) (upd H' p (.lst acc)))\/(Jq.go i H'/\acc.length<sizeLine/\∀x H2,Jq.yld i H' x H2->g x σ' H2 λσ2 H3=>tt σ2 H3 λb H4=>
  if b=Z then te σ2 H4 λv H5=>∃k',k'<k/\W (i+1) k' (acc++[v]) σ2 H5 else ∃k',k'<k/\W (i+1) k' acc σ2 H4)
def qmx(hc:X.calm=Z)(S:CompScope X N src a)(y:PI X tg c l)(A:∀C fp s H,PG (qzn X N a C fp s H) tg g)(u:∀C fp s H,qbp (qzn X N a C fp s H) ifs m)(E:∀C fp s H,PE (qzn X N a C fp s H) elt n)(hs:∀x,foldedSetIterable c X.env x=pure x):PE X (.ListComp elt [⟨tg,c,ifs,0⟩] a pos) (qlj src l g m n):=by
 intro pins s σ H Q I h;rw[eval_ListComp];refine wpAny_comprehension_free rfl hs (qwb S I) S.kind S.loc (thn (y pins s σ H _ I h) λv U h1=>thn h1 λt i h2=>?_);obtain⟨it,fp,R,Jq,H2,e,K,T,f,G,W,p,d⟩:=h2;subst e;refine qkl hc K T f G S (λC=>A C fp i H2) (λC=>u C fp i H2) (λ_ C=>E C fp i H2) (λ_ _ _ _ _ z=>z.elim) W p d ?_;intro D C s' H' k j r P F w;obtain⟨m',hn⟩:=w;refine⟨m',hn,λh' q=>⟨.ref D,upd H' D (.lst k),?_,rfl,j D r⟩⟩;obtain⟨c0,c1,c2,c3,c4,c5⟩:=F;exact P.turned (λb o hb e=>(q.2 b hb).trans e) c0 c1 c3 c4 c5
def Inv.turnedL{ch:L Y8}(I:Inv X a f H s)(k:∀b o,b ∉ ch->s.heap.get? b=Y o->h'.get? b=Y o)(hf:∀b∈ch,FpOk X a H b):Inv X a f H { s with heap:=h',toks:=t' }:=by
 have d:∀b u,H b=Y u->b ∉ ch:=λb u e z=>by rw[(hf b z).1]at e; cases e
 refine I.step (λb hb=>?_) (λb o _ _ hc e _=>k b o hc e) (λb o _ _ hc e _=>⟨o.slots,k b o hc e⟩) (λ_ _ _ _ n=>n) (λb o hc e=>⟨o,k b o hc e⟩) (λ_ _ e=>e) (λ_ _ _ e=>e) (λb ps e=>⟨#[],by rw[e]; simp⟩) (λm h=>?_) (λb u e=>?_) I.bare
 ·obtain⟨x,p,w,l,j,i⟩:=hf b hb;exact⟨l,p,j,i⟩
 ·obtain⟨o,es,t,g,r⟩:=h;exact⟨o,es,t,k _ o (λz=>(hf _ z).2.1 rfl) g,r⟩
 ·refine(I.hok b u e).stay (λc v hc q=>k c v ?_ q) (λ_ q=>q) λ_ _ q=>q;rcases hc with z|z
  ·rw[z]; exact d b u e
  ·exact d c _ z
inductive RK where
 |lst|tup
noncomputable def RK.It:RK->Heap->Y8->Y8->Y1->Prop
 |.lst,h,it,a,i=>h.IsListIter it a i
 |.tup,h,it,a,i=>h.IsTupleIter it a i
noncomputable def RK.Sq:RK->Heap->Y8->Array Y9->Prop
 |.lst,h,a,xs=>h.IsList a xs
 |.tup,h,a,xs=>h.IsTuple a xs
def RK.It.on{k:RK}(x:k.It h it a i)(e:∀o,h.get? it=Y o->h'.get? it=Y o):k.It h' it a i:=by
 cases k with
 |lst=>exact Heap.IsListIter.at x e
 |tup=>obtain⟨o,b,r⟩:=x; exact⟨o,e o b,r⟩
def RK.Sq.on{k:RK}(x:k.Sq h a xs)(e:∀o,h.get? a=Y o->h'.get? a=Y o):k.Sq h' a xs:=by
 cases k with
 |lst=>exact Heap.IsList.at x e
 |tup=>obtain⟨o,b,r⟩:=x; exact⟨o,e o b,r⟩
def RK.It.obj{k:RK}(x:k.It h it a i):∃o,h.get? it=Y o/\∀v,o.data≠.cell v:=by
 cases k with
 |lst=>obtain⟨o,b,_,d⟩:=x; exact⟨o,b,λv z=>by rw[d]at z; cases z⟩
 |tup=>obtain⟨o,b,_,d⟩:=x; exact⟨o,b,λv z=>by rw[d]at z; cases z⟩
section
def qxh{k:RK}(d:k.It s.heap it a i)(hs:k.Sq s.heap a xs)(f:xs[i]?=Y x)(g:∀h',k.It h' it a (i+1)->(∀b o,b≠it->s.heap.get? b=Y o->h'.get? b=Y o)->h'.objs.size=s.heap.objs.size->Q x { s with heap:=h' }):wpAny (model prog w) A (Builtin.SmallTypes.nextOf (.ref it)) Q E s:=by
 cases k with
 |lst=>exact wpAny_nextOf_list_item d hs f λh' p h=>g h' p h.extBut h.1
 |tup=>
  obtain⟨o,e,n,c⟩:=id d;obtain⟨q,l,_,m,j⟩:=hs;unfold Builtin.SmallTypes.nextOf;refine Qq (Qc (Heap.IsTupleIter.typeIs d) F.slot_tuple_iterator_next (Qe F.slot_tuple_iterator_next (Heap.IsTupleIter.typeIs d) F.entry_tuple_iterator_next ?_ (F.args_tuple_iterator_next_1 _)));show wpAny _ _ (field (.ref it) 0 >>= _) _ _ _;refine Qq (Qw e c rfl ?_);rw[Z7 (λz=>nomatch z)];refine Qq (Qw e c rfl ?_);refine Qq (Qp l j ?_);simp only[Int.toNat_natCast,f];refine Qq (wpAny_setField e c (by simp) (Qx ⟨x,rfl,Qx (g _ ?_ (Heap.SameBut.update ..).extBut (Heap.SameBut.update ..).1)⟩));exact⟨_,Qxn _ e (Obj.isFreed_of_fields (Obj.data_mapFields c _)),(Obj.cls_mapFields ..).trans n,by rw[Obj.data_mapFields c]; simp[rawInt]⟩
def qju{k:RK}(d:A.handled=B)(c:k.It s.heap it a i)(hs:k.Sq s.heap a xs)(h:xs[i]?=B)(j:∀h' e,(∀b o,b≠it->s.heap.get? b=Y o->h'.get? b=Y o)->(∃o,h'.get? e=Y o/\o.cls=.type "StopIteration")->E (.ref e) { s with heap:=h' }):wpAny (model prog w) A (Builtin.SmallTypes.nextOf (.ref it)) Q E s:=by
 cases k with
 |lst=>exact wpAny_nextOf_list_end d c hs h λh' e r p=>j h' e r p
 |tup=>
  obtain⟨o,g,t,f⟩:=id c;obtain⟨q,n,_,m,l⟩:=hs;unfold Builtin.SmallTypes.nextOf;refine Qq (Qc (Heap.IsTupleIter.typeIs c) F.slot_tuple_iterator_next (Qe F.slot_tuple_iterator_next (Heap.IsTupleIter.typeIs c) F.entry_tuple_iterator_next ?_ (F.args_tuple_iterator_next_1 _)));show wpAny _ _ (field (.ref it) 0 >>= _) _ _ _;refine Qq (Qw g f rfl ?_);rw[Z7 (λz=>nomatch z)];refine Qq (Qw g f rfl ?_);refine Qq (Qp n l ?_);simp only[Int.toNat_natCast,h];refine Qq (Zx (Qq (wpAny_setField g f (by simp) ?_))); show wpAny _ _ (newExc (.type "StopIteration") [] >>= _) _ _ _;refine Qq ?_; simp only[newExc];refine Qq (Qm ?_ (by size_fits)); refine Qq (Zy (by first|rfl|(simp only[firstArgMember]; rfl)) ?_);refine Qm ?_ (by size_fits); simp only[raiseNew];refine Qq (wpAny_handled ?_)
  first|rw[show A.in1.handled=B from d]|(rw[d])
  refine Qq (Qx (wpAny_throw ?_));exact j _ _ (((Heap.SameBut.update ..).extBut.push _).push _) ⟨_,Qqf _ rfl,by rfl⟩
end
section
def qk4(e:IsPair s.heap T a b)(h:∀h',h'.get? T=Y { cls:=.type "tuple",data:=.seq ((#[a,b]:Array Y9).setIfInBounds j x) }->(∀c o,c≠T->s.heap.get? c=Y o->h'.get? c=Y o)->h'.objs.size=s.heap.objs.size->Q () { s with heap:=h' }):
  wpAny (model prog w) A (updateSeq T (·.setIfInBounds j x)) Q E s:=
 wpAny_updateSeq_pair e λh' f d=>h h' f d.extBut d.1
def zip_get{C z:RK}(n1:r<n)(n2:q<n)(f:IsZip s.heap (n+4) (n+2) (n+3) .none)(T:IsPair s.heap (n+2) (.ref n) (.ref (n+1)))(hO:IsPair s.heap (n+3) a b)(h1:C.It s.heap n r i)(h2:z.It s.heap (n+1) q i)(s1:C.Sq s.heap r xs)(X:z.Sq s.heap q ys)(hx:xs[i]?=Y x)(hy:ys[i]?=Y y)(hQ:∀h',IsZip h' (n+4) (n+2) (n+3) (rawInt s.heap.objs.size)->IsPair h' (n+2) (.ref n) (.ref (n+1))->IsPair h' (n+3) x y->C.It h' n r (i+1)->z.It h' (n+1) q (i+1)->IsPair h' s.heap.objs.size x y->
   (∀c o,c≠n+4->c≠n+3->c≠n->c≠n+1->s.heap.get? c=Y o->h'.get? c=Y o)->Q (Y (.ref s.heap.objs.size)) { s with heap:=h' }):
  wpAny (model prog w) A (pyNext (.ref (n+4))) Q E s:=by
 have S:s.TypeIs (.ref (n+4)) "zip":=⟨_,f,rfl⟩
 unfold pyNext;refine Qq (Q5 (Qc S F.slot_zip_next (Qe F.slot_zip_next S F.entry_zip_next ?_ (F.args_zip_next_1 _))));show wpAny _ _ (field (.ref (n+4)) 2 >>= _) _ _ _;refine Qq (Qw f rfl rfl ?_);refine Qq (Qw f rfl rfl ?_);refine Qq (Qp T rfl ?_);refine Qq ?_;unfold Builtin.SmallTypes.ownedTupleIsFree;refine Qq (Qw f rfl rfl (Qx ?_));simp only[if_true];refine Qq (Zx ?_);refine Qq (Qw f rfl rfl ?_);refine Qq (Qy f (by simp) λg1 v N=>?_)
 replace v:IsZip g1 (n+4) (n+2) (n+3) .ellipsis:=v
 have d:=N.extBut;refine Qq ?_;simp only[List.zipIdx_cons,List.forIn_nil];refine Qq (Qq (Z3 ?_)); show wpAny _ _ (Builtin.SmallTypes.nextOf (.ref n) >>= _) _ _ _;refine Qq (qxh (h1.on λo e=>d _ o (by show @Ne Y1 _ _; lia) e) (s1.on λo e=>d _ o (by show @Ne Y1 _ _; lia) e) hx λg2 i2 j c2=>Qx ?_);have V:=j _ _ (by show @Ne Y1 _ _; lia) (d _ _ (by show @Ne Y1 _ _; lia) hO);refine Qq (Qp V rfl ?_);refine Qq (qk4 V λg3 G h c3=>?_)
 replace G:IsPair g3 (n+3) x b:=G
 refine Qq (wpAny_letGo (Qx ?_));refine Qq (Qq (Z3 ?_)); show wpAny _ _ (Builtin.SmallTypes.nextOf (.ref (n+1)) >>= _) _ _ _;refine Qq (qxh (h2.on λo e=>h _ o (by show @Ne Y1 _ _; lia) (j _ o (by show @Ne Y1 _ _; lia) (d _ o (by show @Ne Y1 _ _; lia) e))) (X.on λo e=>h _ o (by show @Ne Y1 _ _; lia) (j _ o (by show @Ne Y1 _ _; lia) (d _ o (by show @Ne Y1 _ _; lia) e))) hy λg4 i4 p c4=>Qx ?_);have U:=p _ _ (by show @Ne Y1 _ _; lia) G;refine Qq (Qp U rfl ?_);refine Qq (qk4 U λg t m c5=>?_)
 replace t:IsPair g (n+3) x y:=t
 refine Qq (wpAny_letGo (Qx (Qx ?_)));refine Qq (Qp t rfl ?_);refine Qq (wpAny_newTuple ?_);have sz:=c5.trans (c4.trans (c3.trans (c2.trans N.1)));have H:=m _ _ (by show @Ne Y1 _ _; lia) (p _ _ (by show @Ne Y1 _ _; lia) (h _ _ (by show @Ne Y1 _ _; lia) (j _ _ (by show @Ne Y1 _ _; lia) v)));have k:∀c o,c≠n+4->c≠n+3->c≠n->c≠n+1->s.heap.get? c=Y o->g.get? c=Y o:=λc o c1 c2 c3 c4 e=>m _ _ c2 (p _ _ c4 (h _ _ c2 (j _ _ c3 (d _ _ c1 e))));have j1:=i2.on λo e=>m _ o (by show @Ne Y1 _ _; lia) (p _ o (by show @Ne Y1 _ _; lia) (h _ o (by show @Ne Y1 _ _; lia) e));have j2:=i4.on λo e=>m _ o (by show @Ne Y1 _ _; lia) e;have R:=Qqb H;refine Qq ?_;unfold Builtin.SmallTypes.ownedTupleHandOut;have W:IsZip (g.push { cls:=.type "tuple",data:=.seq #[x,y] }) (n+4) (n+2) (n+3) .ellipsis:=Qqz _ H;refine Qq (Qy W (by simp) λg7 u K=>?_)
 replace u:IsZip g7 (n+4) (n+2) (n+3) (rawInt g.objs.size):=u
 refine Qy u (by simp) λD l I=>?_
 replace l:IsZip D (n+4) (n+2) (n+3) (rawInt g.objs.size):=l
 have up:∀c o,c≠n+4->g.get? c=Y o->D.get? c=Y o:=λc o c1 e=>I.extBut _ _ c1 (K.extBut _ _ c1 (Qqz _ e));have P:=I.extBut _ _ (Qxw R) (K.extBut _ _ (Qxw R) (Qqf _ rfl));rw[sz]at l P;refine Qx ⟨_,rfl,Qx ?_⟩;rw[sz];exact hQ D l (up _ _ (by lia) (k _ _ (by lia) (by lia) (by lia) (by lia) T)) (up _ _ (by lia) t) (j1.on λo e=>up _ o (by lia) e) (j2.on λo e=>up _ o (by lia) e) P λc o c1 c2 c3 c4 e=>up c o c1 (k c o c1 c2 c3 c4 e)
def qfk{P N:RK}(R:A.handled=B)(n1:v<n)(n2:u<n)(j:IsZip s.heap (n+4) (n+2) (n+3) .none)(hI:IsPair s.heap (n+2) (.ref n) (.ref (n+1)))(hO:IsPair s.heap (n+3) a b)(T:P.It s.heap n v i)(h2:N.It s.heap (n+1) u i)(K:P.Sq s.heap v xs)(X:N.Sq s.heap u ys)(k:xs[i]?=B\/ys[i]?=B)(hQ:∀h',(∀c o,c≠n+4->c≠n+3->c≠n->c≠n+1->s.heap.get? c=Y o->h'.get? c=Y o)->Q B { s with heap:=h' }):
  wpAny (model prog w) A (pyNext (.ref (n+4))) Q E s:=by
 have S:s.TypeIs (.ref (n+4)) "zip":=⟨_,j,rfl⟩
 have m:∀(h':Heap) (e:Y8),(∀c o,c≠n+4->c≠n+3->c≠n->c≠n+1->s.heap.get? c=Y o->h'.get? c=Y o)->(∃o,h'.get? e=Y o/\o.cls=.type "StopIteration")->
   wpAny (model prog w) A (do if (<- isInstance (.ref e) (.type "StopIteration")) then pure B else(throw (Value.ref e):Sem (Y4 Y9))) Q E { s with heap:=h' }:=λh' e hk l=>by
  obtain⟨o,f,hc⟩:=l;refine Qq (Zj ⟨o,f,hc⟩ isSubtype_stop ?_);exact Qx (hQ _ hk)
 unfold pyNext;refine Qq (Q5 (Qc S F.slot_zip_next (Qe F.slot_zip_next S F.entry_zip_next ?_ (F.args_zip_next_1 _))));show wpAny _ _ (field (.ref (n+4)) 2 >>= _) _ _ _;refine Qq (Qw j rfl rfl ?_);refine Qq (Qw j rfl rfl ?_);refine Qq (Qp hI rfl ?_);refine Qq ?_;unfold Builtin.SmallTypes.ownedTupleIsFree;refine Qq (Qw j rfl rfl (Qx ?_));simp only[if_true];refine Qq (Zx ?_);refine Qq (Qw j rfl rfl ?_);refine Qq (Qy j (by simp) λg1 p W=>?_)
 replace p:IsZip g1 (n+4) (n+2) (n+3) .ellipsis:=p
 have d:=W.extBut;refine Qq ?_;simp only[List.zipIdx_cons,List.forIn_nil];refine Qq (Qq (Z3 ?_)); show wpAny _ _ (Builtin.SmallTypes.nextOf (.ref n) >>= _) _ _ _
 cases y:xs[i]? with
 |none=>
  refine Qq (qju R (T.on λo e=>d _ o (by show @Ne Y1 _ _; lia) e) (K.on λo e=>d _ o (by show @Ne Y1 _ _; lia) e) y λg2 e g l=>?_);obtain⟨t,f,hc⟩:=l;have D:=g _ _ (by show @Ne Y1 _ _; lia) p;have z:e≠n+4:=λq=>by subst q; rw[D]at f; cases f; simp at hc
  exact Qy D (by simp) λU _ I=>m U e (λc o c1 _ c3 _ q=>I.extBut _ _ c1 (g _ _ c3 (d _ _ c1 q))) ⟨t,I.extBut _ _ z f,hc⟩
 |some x=>
  have hy:ys[i]?=none:=by
   rcases k with h|h
   ·rw[y]at h; cases h
   ·exact h
  refine Qq (qxh (T.on λo e=>d _ o (by show @Ne Y1 _ _; lia) e) (K.on λo e=>d _ o (by show @Ne Y1 _ _; lia) e) y λg2 i2 g c2=>Qx ?_);have V:=g _ _ (by show @Ne Y1 _ _; lia) (d _ _ (by show @Ne Y1 _ _; lia) hO);refine Qq (Qp V rfl ?_);refine Qq (qk4 V λU O3 r c3=>Qq (wpAny_letGo (Qx ?_)));refine Qq (Qq (Z3 ?_)); show wpAny _ _ (Builtin.SmallTypes.nextOf (.ref (n+1)) >>= _) _ _ _;refine Qq (qju R (h2.on λo e=>r _ o (by show @Ne Y1 _ _; lia) (g _ o (by show @Ne Y1 _ _; lia) (d _ o (by show @Ne Y1 _ _; lia) e))) (X.on λo e=>r _ o (by show @Ne Y1 _ _; lia) (g _ o (by show @Ne Y1 _ _; lia) (d _ o (by show @Ne Y1 _ _; lia) e))) hy λg4 e G l=>?_);obtain⟨t,f,hc⟩:=l;have C:=G _ _ (by show @Ne Y1 _ _; lia) (r _ _ (by show @Ne Y1 _ _; lia) (g _ _ (by show @Ne Y1 _ _; lia) p));have z:e≠n+4:=λq=>by subst q; rw[C]at f; cases f; simp at hc
  exact Qy C (by simp) λg5 _ H=>m g5 e (λc o c1 c2 c3 c4 q=>H.extBut _ _ c1 (G _ _ c4 (r _ _ c2 (g _ _ c3 (d _ _ c1 q))))) ⟨t,H.extBut _ _ z f,hc⟩
end
noncomputable def RK.itO(k:RK)(a:Y8):Obj:=match k with
 |.lst=>{ cls:=.type "list_iterator",data:=.fields #[.ref a,.int 0 0] }
 |.tup=>{ cls:=.type "tuple_iterator",data:=.fields #[.ref a,.int 0 0] }
def qx9{k:RK}(hs:k.Sq s.heap a xs)(b:Q (.ref s.heap.objs.size) { s with heap:=s.heap.push (k.itO a) }):wpAny (model prog w) A (pyIter (.ref a)) Q E s:=by
 cases k with
 |lst=>exact Zg hs b
 |tup=>exact wpAny_pyIter_tuple hs b
def row_new{h:Heap}{k:RK}:k.It (h.push (k.itO a)) h.objs.size a 0:=by
 cases k with
 |lst=>exact⟨_,Qqf _ rfl,rfl,rfl⟩
 |tup=>exact⟨_,Qqf _ rfl,rfl,rfl⟩
noncomputable abbrev zh1(k1:RK)(h:Heap)(l1:Y8):Heap:=h.push (k1.itO l1)
noncomputable abbrev zh2(k1 k2:RK)(h:Heap)(l1 l2:Y8):Heap:=(zh1 k1 h l1).push (k2.itO l2)
noncomputable abbrev zh3(k1 k2:RK)(h:Heap)(l1 l2:Y8):Heap:=(zh2 k1 k2 h l1 l2).push { cls:=.type "tuple",data:=.seq #[.ref h.objs.size,.ref (zh1 k1 h l1).objs.size] }
noncomputable abbrev zh4(k1 k2:RK)(h:Heap)(l1 l2:Y8):Heap:=(zh3 k1 k2 h l1 l2).push { cls:=.type "tuple",data:=.seq #[.none,.none] }
noncomputable abbrev zh5(k1 k2:RK)(h:Heap)(l1 l2:Y8):Heap:=(zh4 k1 k2 h l1 l2).push { cls:=.type "zip",data:=.fields #[.none,.bool Y7,.bool Y7,.ref (zh2 k1 k2 h l1 l2).objs.size,.ref (zh3 k1 k2 h l1 l2).objs.size] }
def qfv(f c)(b a)(xs ys):Meets (Qs.«zip.__new__» ⟨[.type "zip",.ref b,.ref a],[]⟩) (λ_ R s=>f.Sq s.heap b xs/\c.Sq s.heap a ys/\R (.ok (.ret (.ref (zh4 f c s.heap b a).objs.size))) { s with heap:=zh5 f c s.heap b a }):=
 .of_wp λprog w A R s h=>by
  obtain⟨l,g,d,tk,os⟩:=s;obtain⟨k,j,h⟩:=h;have i:=sub_zip;have m:=k;have L2:c.Sq (Shared.heap ⟨l.push (f.itO b),g,d,tk,os⟩) a ys:=j.on λo e=>Qqz _ e
  wp_walk using qx9 m,qx9 L2
  exact⟨_,rfl,h⟩
def ZipAt(k1 k2:RK)(n l1 l2:Y1)(i:Y1)(h:Heap):Prop:=
 l1<n/\l2<n/\IsZip h (n+4) (n+2) (n+3) .none/\IsPair h (n+2) (.ref n) (.ref (n+1))/\(∃a b,IsPair h (n+3) a b)/\k1.It h n l1 i/\k2.It h (n+1) l2 i
def qel(r:d.Sq s.heap a xs)(q:f.Sq s.heap b ys)(b1:a<s.heap.objs.size)(b2:b<s.heap.objs.size)(h:∀h',ZipAt d f s.heap.objs.size a b 0 h'->(∀c o,s.heap.get? c=Y o->h'.get? c=Y o)->Q (.ref (s.heap.objs.size+4)) { s with heap:=h' }):wpAny (model prog w) A (call (.type "zip") [.ref a,.ref b]) Q E s:=by
 refine callType_new F.called_zip (by decide) (F.typeCall_zip_2 _ _) (F.newCall_zip_2 _ _) (λobj=>F.args_object_init_3 obj _ _) F.entry_zip_new (qfv d f a b xs ys) ⟨r,q,?_⟩;have j:(zh1 d s.heap a).objs.size=s.heap.objs.size+1:=Qz9 ..;have i:(zh2 d f s.heap a b).objs.size=s.heap.objs.size+2:=by rw[Qz9,j]
 have g:(zh3 d f s.heap a b).objs.size=s.heap.objs.size+3:=by rw[Qz9,i]
 have l:(zh4 d f s.heap a b).objs.size=s.heap.objs.size+4:=by rw[Qz9,g]
 have k:(zh5 d f s.heap a b).get? (zh4 d f s.heap a b).objs.size=Y _:=Qqf _ rfl;have m:(zh5 d f s.heap a b).get? (zh3 d f s.heap a b).objs.size=Y _:=Qqz _ (Qqf _ rfl);have n:(zh5 d f s.heap a b).get? (zh2 d f s.heap a b).objs.size=Y _:=Qqz _ (Qqz _ (Qqf _ rfl));have p:f.It (zh5 d f s.heap a b) (zh1 d s.heap a).objs.size b 0:=row_new.on λo e=>Qqz _ (Qqz _ (Qqz _ e));have t:d.It (zh5 d f s.heap a b) s.heap.objs.size a 0:=row_new.on λo e=>Qqz _ (Qqz _ (Qqz _ (Qqz _ e)));rw[i,g,l]at k;rw[j,i]at n;rw[g]at m;rw[j]at p;rw[l];exact⟨⟨_,k,rfl⟩,h _ ⟨b1,b2,k,n,⟨_,_,m⟩,t,p⟩ λc o x=>Qqz _ (Qqz _ (Qqz _ (Qqz _ (Qqz _ x))))⟩
def RK.sq(k:RK)(K:Qqq)(H:Hp)(a:Y8)(xs:L V):Prop:=match k with
 |.lst=>SqL K H a xs
 |.tup=>SqT K H a xs
noncomputable def Itz(K:Qqq)(k1 k2:RK)(a b:Y8):It:=
 ⟨λi H=>∃xs ys x y,k1.sq K H a xs/\k2.sq K H b ys/\xs[i]?=Y x/\ys[i]?=Y y,
  λi H v H'=>∃p x y,v=.ref p/\H p=B/\H'=upd H p (.tup [x,y])/\(∀xs,k1.sq K H a xs->xs[i]?=Y x)/\∀ys,k2.sq K H b ys->ys[i]?=Y y,
  λi H=>∃xs ys,k1.sq K H a xs/\k2.sq K H b ys/\(xs.length<=i\/ys.length<=i)⟩
section
def qq0{k:RK}(I:Inv X pins σ H s)(q:k.sq X.K H a xs):∃b,Vals xs b/\k.Sq s.heap a b.toArray:=by
 cases k with
 |lst=>obtain⟨b,c,p,d⟩:=I.list q; exact⟨b,c,p.isList⟩
 |tup=>obtain⟨b,c,p,d⟩:=I.tuple q; exact⟨b,c,show s.heap.IsTuple a b.toArray from p⟩
def qk2{k:RK}(I:Inv X pins σ H s)(q:k.sq X.K H a xs)(b:k.sq X.K H a ys):xs=ys:=by
 cases k with
 |lst=>exact I.list_inj q b
 |tup=>exact I.tuple_inj q b
end
noncomputable def fpZ(n:Y1):L Y8:=[n+4,n+2,n+3,n,n+1]
def qfy{K:Qqq}(W V)(n a b):Turn P w K (.Tuple p c pos) (Itz K W V a b) (fpZ n) (n+4) (ZipAt W V n a b) where
 mem:=by simp[fpZ]
 obj:=λi h st e he=>by
  obtain⟨b1,b2,f,j,⟨x,y,g⟩,h1,h2⟩:=st;simp only[fpZ,Qqa,Qq4,or_false]at he;rcases he with rfl|rfl|rfl|rfl|rfl
  ·exact⟨_,f,λv z=>nomatch z⟩
  ·exact⟨_,j,λv z=>nomatch z⟩
  ·exact⟨_,g,λv z=>nomatch z⟩
  ·exact h1.obj
  ·exact h2.obj
 keep:=λi h h' st k=>by
  obtain⟨b1,b2,f,j,⟨x,y,g⟩,h1,h2⟩:=st;exact⟨b1,b2,k _ (by simp[fpZ]) _ f,k _ (by simp[fpZ]) _ j,⟨x,y,k _ (by simp[fpZ]) _ g⟩,h1.on λo e=>k _ (by simp[fpZ]) o e,h2.on λo e=>k _ (by simp[fpZ]) o e⟩
 item:=by
  intro X T N U hc i pins s σ H E I hf st S;subst T N U;obtain⟨xs,ys,x,y,t,r,ex,ey⟩:=S;obtain⟨b1,b2,f,j,⟨ua,ub,g⟩,h1,h2⟩:=st;obtain⟨vx,D,A⟩:=qq0 I t;obtain⟨vy,C,u⟩:=qq0 I r;obtain⟨u1,R,G⟩:=D.get ex;obtain⟨u2,Q,F⟩:=C.get ey;refine zip_get b1 b2 f j g h1 h2 A u (by simpa using R) (by simpa using Q) λh' a1 a2 a3 a4 a5 a6 kp=>⟨_,rfl,?_⟩
  refine wpAny_letOwnedTupleGo_zip a1 λh9 c1 c2=>?_;have d:=c2.extBut;have lt:∀b∈fpZ n,b≠s.heap.objs.size:=λb hb z=>by
   have q:b<s.heap.objs.size:=by
    simp only[fpZ,Qqa,Qq4,or_false]at hb;rcases hb with rfl|rfl|rfl|rfl|rfl
    ·exact Qqb f
    ·exact Qqb j
    ·exact Qqb g
    ·obtain⟨o,e,_⟩:=h1.obj; exact Qqb e
    ·obtain⟨o,e,_⟩:=h2.obj; exact Qqb e
   rw[z]at q;exact Qzo _ q
  have nz:s.heap.objs.size≠n+4:=λz=>lt (n+4) (by simp[fpZ]) z.symm;have I1:Inv X pins σ H { s with heap:=h9,toks:=s.toks }:=Inv.turnedL I (λb o hb e=>d _ _ (λz=>hb (by simp[fpZ,z])) (kp b o (λz=>hb (by simp[fpZ,z])) (λz=>hb (by simp[fpZ,z])) (λz=>hb (by simp[fpZ,z])) (λz=>hb (by simp[fpZ,z])) e)) hf;have fr:=I.hok.fresh (Qqj _);have I2:Inv X pins σ (upd H s.heap.objs.size (.tup [x,y])) { s with heap:=h9,toks:=s.toks }:=Inv.track I1 (I.fpOk (Qqj _) fr) ⟨by show 2<=sizeLine; decide,[u1,u2],.cons G (.cons F .nil),⟨_,d _ _ nz a6,rfl,_,rfl⟩⟩;refine⟨.ref s.heap.objs.size,upd H s.heap.objs.size (.tup [x,y]),I2,rfl,⟨_,x,y,rfl,fr,rfl,λzs l=>?_,λzs l=>?_⟩,⟨b1,b2,c1,d _ _ (by show @Ne Y1 _ _; lia) a2,⟨_,_,d _ _ (by show @Ne Y1 _ _; lia) a3⟩,a4.on λo e=>d _ o (by show @Ne Y1 _ _; lia) e,a5.on λo e=>d _ o (by show @Ne Y1 _ _; lia) e⟩,λb hb=>?_⟩
  ·rw[qk2 I l t]; exact ex
  ·rw[qk2 I l r]; exact ey
  ·rw[qzq (lt b hb)]; exact(hf b hb).1
 done:=by
  intro X T N U hc i pins s σ H E I hf st S;subst T N U;obtain⟨xs,ys,t,r,m⟩:=S;obtain⟨b1,b2,f,j,⟨ua,ub,g⟩,h1,h2⟩:=st;obtain⟨vx,D,A⟩:=qq0 I t;obtain⟨vy,C,u⟩:=qq0 I r;have lx:=D.length;have ly:=C.length;refine qfk (I.ok.hd hc) b1 b2 f j g h1 h2 A u ?_ λh' kp=>⟨rfl,Inv.turnedL I (λb o hb e=>kp b o (λz=>hb (by simp[fpZ,z])) (λz=>hb (by simp[fpZ,z])) (λz=>hb (by simp[fpZ,z])) (λz=>hb (by simp[fpZ,z])) e) hf⟩
  rcases m with h|h
  ·exact .inl (by simp; lia)
  ·exact .inr (by simp; lia)
 self:=λ_ _ _ _ _ st h=>wpAny_pyIter_zip st.2.2.1 h
noncomputable def iZip(K:Qqq)(ta:TA):TI:=λσ H R=>ta σ H λvs H1=>∃(k1 k2:RK) (a b:Y8),vs=[.ref a,.ref b]/\(∃xs,k1.sq K H1 a xs)/\(∃ys,k2.sq K H1 b ys)/\R (Itz K k1 k2 a b) H1
def pi_zip(E:Gl X "zip")(D:X.mg "zip" = B)(F:PA X [a,b] m)(hs:starEach [a,b] X.env=[(Y7,Qb a X.env),(Y7,Qb b X.env)]:=by rfl)(i:starEach [b] X.env=[(Y7,Qb b X.env)]:=by rfl):
  PI X (.Tuple j c f) (.Call (.Name "zip" p) [a,b] [] pos) (iZip X.K m):=by
 intro pins s σ H R I h;refine Call_ (qx3 I E D boot_zip (PyProof.Rows.callWith_type1 (thn (F pos pins s σ H _ I h) λN g ⟨vs,H1,k,x,A⟩=>?_) (by rw[hs,i]) (by rw[i]; rfl)));obtain⟨w,v,a,b,e,⟨xs,z⟩,⟨ys,y⟩,q⟩:=A;subst e
 cases x with
 |cons r l=>
  cases l with
  |cons r' l=>
   cases l;cases r;cases r';obtain⟨K,Q,t⟩:=qq0 k z;obtain⟨G,P,n⟩:=qq0 k y;have la:a<g.heap.objs.size:=by
    cases w<;>(obtain⟨o,e,_⟩:=t; exact Qqb e)
   have C:b<g.heap.objs.size:=by
    cases v<;>(obtain⟨o,e,_⟩:=n; exact Qqb e)
   refine qel t n la C λh' st kp=>wpAny_pyIter_zip st.2.2.1 ?_;refine⟨g.heap.objs.size+4,fpZ g.heap.objs.size,_,_,H1,rfl,k.kept kp,qfy w v _ a b,st,λd hd=>?_,q⟩;have u:g.heap.objs.size<=d:=by
    simp only[fpZ,Qqa,Qq4,or_false]at hd;rcases hd with rfl|rfl|rfl|rfl|rfl<;>(show @LE.le Y1 _ _ _; lia)
   exact k.fpOk u (k.hok.fresh u)
section
end
inductive EntOk (prm:Qt):L Qo->L Y6->L Y9->Prop
 |nil:EntOk prm [] [] []
 |cons {k:Y6}{t:Tok}{u:Y9}{es:L Qo}{ks:L Y6}{us:L Y9}(h:EntOk prm es ks us):EntOk prm (⟨PyData.keyHash prm k,.str k t,u⟩::es) (k::ks) (u::us)
structure FDict (prm:Qt) (K:Qqq) (a:Y8) (ks:L Y6) (ds:L M.D):Prop where
 ex:∃(us:L Y9) (vs:L V) (es:Array Qo) (ep:Y1),K.lookup a=Y { cls:=.type "dict",data:=.dict es ep }/\EntOk prm es.toList ks us/\Vals vs us/\∀m H,IsDs K m H ds vs
 nd:ks.Nodup
 ne:(a==Qg)=Y7
noncomputable def kzip{α:Type}(ks:L Y6)(us:L α):L (Key×α):=(ks.map λk=>(Sum.inr k:Key)).zip us
theorem qae:∀{es}{ks}{us},EntOk w.params es ks us->(∀e∈es,∃k,(mixKind P w).is k e.key=Z/\e.hash=(mixKind P w).hash k)/\PySem.Pairs (mixKind P w) es (kzip ks us)/\(kzip ks us).map (·.1)=ks.map λk=>(Sum.inr k:Key)
 |_,_,_,.nil=>⟨(λe h=>nomatch h),.nil,rfl⟩
 |_,_,_,.cons (k:=k) (t:=t) h=>by
  obtain⟨h1,h2,b⟩:=qae h;refine⟨λe a=>?_,?_,?_⟩
  ·rcases Qqa.mp a with q|q
   ·subst q;exact⟨.inr k,qq5 P w k t,rfl⟩
   ·exact h1 e q
  ·exact .cons (qq5 P w k t) rfl h2
  ·exact congrArg (List.cons (Sum.inr k:Key)) b
def qex(I:Inv X b f H s)(h:FDict X.w.params X.K a ks ds):
  ∃(us:L Y9) (vs:L V),s.heap.DictOf (mixKind X.prog X.w) a (kzip ks us)/\Vals vs us/\(∀m H,IsDs X.K m H ds vs)/\ks.length=us.length:=by
 obtain⟨us,vs,es,l,p,d,o,n⟩:=h.ex;obtain⟨h1,h2,k⟩:=qae d;refine⟨us,vs,⟨_,es,l,I.kIn a _ p,⟨rfl,rfl,rfl⟩,rfl,λe j=>h1 e (by simpa using j),h2,?_⟩,o,n,?_⟩
 ·rw[k];exact(List.pairwise_map.mpr (h.nd.imp λc i=>c (Sum.inr.inj i)))
 ·have:∀{es:L Qo}{ks:L Y6}{us:L Y9},EntOk X.w.params es ks us->ks.length=us.length:=by
   intro es ks us q
   induction q with
   |nil=>rfl
   |cons _ g=>rw[Qqg,Qqg,g]
  exact this d
theorem qmu(z):∀(ks:L Y6) (us:L α),((kzip ks us).find? λp=>decide (p.1=Sum.inr z)).map (·.2)=((ks.zip us).find? λq=>q.1==z).map (·.2)
 |[],us=>rfl
 |k::ks,[]=>rfl
 |k::ks,u::us=>by
  have a:=qmu z ks us;show((((Sum.inr k:Key),u)::kzip ks us).find? λp=>decide (p.1=Sum.inr z)).map (·.2)=(((k,u)::ks.zip us).find? λq=>q.1==z).map (·.2);rw[Qzy,Qzy]
  by_cases h:k=z
  ·have h1:decide ((Sum.inr k:Key)=Sum.inr z)=true:=by rw[h]; simp
   have h2:(k==z)=true:=by rw[h]; simp
   simp only[h1,h2]
   rfl
  ·have h1:decide ((Sum.inr k:Key)=Sum.inr z)=false:=Z6 λq=>h (Sum.inr.inj q);have h2:(k==z)=false:=by simpa using h
   simp only[h1,h2];exact a
theorem qd5{K:Qqq}(z):∀{ks:L Y6}{ds:L M.D}{vs:L V}{us:L Y9},(∀m H,IsDs K m H ds vs)->Vals vs us->ks.length=us.length->
  (((ks.zip ds).find? λq=>q.1==z)=B/\((ks.zip us).find? λq=>q.1==z)=B/\ks.contains z=Y7)\/∃k d v u,((ks.zip ds).find? λq=>q.1==z)=Y (k,d)/\((ks.zip us).find? λq=>q.1==z)=Y (k,u)/\(∀m H,MS.IsD K m H d v)/\RelV v u/\ks.contains z=Z
 |[],ds,vs,us,i,r,h=>.inl ⟨rfl,rfl,rfl⟩
 |k::ks,[],vs,us,i,r,h=>by
  rw[(i [] λ_=>B).nil]at r;cases r;cases h
 |k::ks,d::ds,vs,us,i,r,h=>by
  obtain⟨v,vr,e,_,_⟩:=(i [] λ_=>B).cons;subst e;have n:∀m H,MS.IsD K m H d v:=λm H=>by
   obtain⟨c,a,e,q,_⟩:=(i m H).cons;cases e;exact q
  have l:∀m H,IsDs K m H ds vr:=λm H=>by
   obtain⟨c,a,e,_,q⟩:=(i m H).cons;cases e;exact q
  cases r with
  |cons g f=>
   rename_i u us
   by_cases b:k=z
   ·subst b;refine .inr ⟨k,d,v,u,by simp,by simp,n,g,by simp⟩
   ·have h2:(k==z)=false:=by simpa using b
    have o:(z==k)=false:=by simpa using Ne.symm b
    have j:=qd5 z l f (by simpa using h);rw[List.zip_cons_cons,List.zip_cons_cons,Qzy,Qzy,List.contains_cons];simp only[h2,o];exact j
section
def ql8(D:Gl X x)(A:X.mg x=Y (.ref a))(F:FDict X.w.params X.K a ks ds)(hd:(x==("__debug__" : Y6))=Y7)(hb:PE X b tb)(hs:NoSl b):
  PE X (.Subscript (.Name x p0) b pos) (λσ H Q=>tb σ H λy H2=>∃z d,y=.str z/\(∃k,((ks.zip ds).find? λq=>q.1==z)=Y (k,d))/\∀v,(∀m,MS.IsD X.K m H2 d v)->Q v H2):=by
 intro pins s σ H Q I h;refine qcx PySem.F.slot_dict_getitem.lookup hs (thn (qw1 D A (show RelV (.ref a) (.ref a) from rfl) hd pins s σ H (λx H1=>x=.ref a/\tb σ H1 _) I ⟨rfl,h⟩) λu j ⟨T,H1,S,n,ex,r⟩=>?_);subst ex;cases n;refine thn (hb pins j σ H1 _ S r) λW U ⟨y,H2,g,l,z,d,R,⟨k,c⟩,p⟩=>?_;subst R;obtain⟨i,vs,f,o,E,C⟩:=qex g F;refine⟨f.typeIs,?_⟩;rcases qd5 z E o C with⟨t,_,_⟩|⟨V,d',e,u',P,N,K,G,_⟩
 ·rw[t]at c; cases c
 ·rw[P]at c;cases c;have w:valueAt (kzip ks i) (Sum.inr z)=Y u':=by
   unfold valueAt;rw[qmu,N]
   rfl
  exact wpAny_getItem_of (qj9 (k:=.inr z) l) f.mapOf w ⟨e,H2,g.tok _,G,p e λm=>K m H2⟩
def gd_has(I:Inv X c e H s)(k:FDict X.w.params X.K a ks ds)(z):
  ∃d,s.heap.DictOf (mixKind X.prog X.w) a (kzip ks d)/\(valueAt (kzip ks d) (Sum.inr z)).isSome=ks.contains z:=by
 obtain⟨d,vs,n,f,j,i⟩:=qex I k;refine⟨d,n,?_⟩;unfold valueAt;rw[qmu];rcases qd5 z j f i with⟨_,h,g⟩|⟨q,v,o,p,u,m,t,r,l⟩
 ·rw[h,g]; rfl
 ·rw[m,l]; rfl
def pc_gin(neg)(n:Gl X x)(m:X.mg x=Y (.ref a))(c:FDict X.w.params X.K a ks ds)(hd:(x==("__debug__" : Y6))=Y7)(hb:PE X b tb):
  PC X (if neg then .NotIn else .In) b (.Name x p0) (λσ H Q=>tb σ H λy H2=>∃z,y=.str z/\Q (.bl (ks.contains z != neg)) H2):=by
 intro pins s σ H Q I h;refine thn (hb pins s σ H _ I h) λv i ⟨y,H1,p,e,z,o,l⟩=>?_;subst o;refine thn (qw1 n m (show RelV (.ref a) (.ref a) from rfl) hd pins i σ H1 (λx H2=>x=.ref a/\Q (.bl (ks.contains z != neg)) H2) p ⟨rfl,l⟩) λu t ⟨q,H2,d,j,ex,f⟩=>?_;subst ex;cases j;obtain⟨r,g,hs⟩:=gd_has d c z
 cases neg with
 |false=>
  refine wpAny_in_of (qj9 (k:=.inr z) e) c.ne g.mapOf ?_;rw[hs];refine⟨.bl _,H2,d.tok _,rfl,?_⟩;simpa using f
 |true=>
  refine wpAny_notIn_of (qj9 (k:=.inr z) e) c.ne g.mapOf ?_;rw[hs];refine⟨.bl _,H2,d.tok _,rfl,?_⟩;simpa using f
open M (D Yb Y2 Sl)
def qc3(neg)(i:Gl X x)(g:X.mg x=Y (.ref a))(j:FDict X.w.params X.K a ks ds)(hd:(x==("__debug__" : Y6))=Y7)(hb:PE X b (tD X.K c)):
  PC X (if neg then .NotIn else .In) b (.Name x p0) (tD X.K λτ st=>(c τ st).bind λp=>match p.1 with
   |.str z=>Y (.bl (ks.contains z != neg),p.2)
   |_=>B):=by
 intro pins s σ H Q I h;refine pc_gin neg i g j hd hb pins s σ H Q I ?_;refine h.el λm st τ d st' r n e q=>qzj e λl t k e=>rsI r n k λy m1 H1 b1 t1 o f=>?_
 cases l with
 |str z=>
  have q:=q.of e;exact⟨z,f.str,q _ m1 H1 b1 t1 o (mkBl _)⟩
 |_=>exact nn e
def qgb(i:Gl X x)(g:X.mg x=Y (.ref a))(j:FDict X.w.params X.K a ks ds)(hd:(x==("__debug__" : Y6))=Y7)(hb:PE X b (tD X.K c))(hs:NoSl b):
  PE X (.Subscript (.Name x p0) b pos) (tD X.K λτ st=>(c τ st).bind λp=>match p.1 with
   |.str z=>((ks.zip ds).find? λq=>q.1==z).map λq=>(q.2,p.2)
   |_=>B):=by
 refine(ql8 i g j hd hb hs).imp λσ H Q h=>h.el λm st τ d st' t r e q=>qzj e λo u n e=>rsI t r n λy m1 H1 b1 t1 s f=>?_
 cases o with
 |str z=>
  refine qzd e λw l k=>?_;cases k;exact⟨z,w.2,f.str,⟨w.1,l⟩,λv hv=>q _ m1 H1 b1 t1 s (hv m1)⟩
 |_=>exact nn e
def qyj{K:Qqq}(i:M.isKey e=Z)(f:IsKV K m H kvs xs)(j:Rd H a (.dK xs))(g:MS.IsD K m H e y):
  ∃o,DGet H a y o/\((M.dget kvs e=B/\o=B)\/∃d v,M.dget kvs e=Y d/\o=Y v/\MS.IsD K m H d v):=by
 obtain⟨k,c⟩:=qq1 i;have h:=qm0 c g;subst h;refine⟨valV xs k,.inl ⟨xs,k,j,rfl,rfl⟩,?_⟩;rcases f.get c with⟨h1,h2⟩|⟨d,v,h1,h2,l⟩
 ·exact .inl ⟨h1,h2⟩
 ·exact .inr ⟨d,v,h1,h2,l⟩
def qc4(k:X.A.units+1<cLine)(neg)(n:PE X a (tD X.K i))(hb:PE X b (tD X.K f)):
  PC X (if neg then .NotIn else .In) a b (tD X.K λτ st=>(i τ st).bind λp=>(f τ p.2).bind λq=>match q.1 with
   |.loc l=>(M.dicAt q.2 l).bind λkvs=>if M.isKey p.1 then Y (.bl ((M.dget kvs p.1).isSome != neg),q.2) else B
   |_=>B):=by
 have c:∀{σ:L2.St}{H:Hp}{Q:VK},tD X.K (λτ st=>(i τ st).bind λp=>(f τ p.2).bind λq=>match q.1 with
   |.loc l=>(M.dicAt q.2 l).bind λkvs=>if M.isKey p.1 then Y (.bl ((M.dget kvs p.1).isSome != neg),q.2) else B
   |_=>B) σ H Q->tD X.K i σ H λy H1=>tD X.K f σ H1 λx H2=>∃a o,x=.ref a/\DGet H2 a y o/\Q (.bl (o.isSome != neg)) H2:=by
  intro σ H Q h;refine h.el λm st τ d st' U r e q=>qzj e λR W N e=>qzj e λP V K e=>rsI U r N λy m1 H1 b1 t1 T w=>rsI T (r.mono b1 t1) K λz t H2 b2 t2 R2 u=>?_
  cases P with
  |loc l=>
   refine qzx e λkvs G e=>?_
   split at e
   ·rename_i A;have q:=q.of e;obtain⟨S,xs,_,rfl,E,j⟩:=R2.dict G u;obtain⟨o,g,C⟩:=qyj A j E (qzw b2 t2 _ _ w);refine⟨S,o,rfl,g,?_⟩;have F:o.isSome=(M.dget kvs R).isSome:=by
     rcases C with⟨h1,h2⟩|⟨d,v,h1,h2,_⟩
     ·rw[h1,h2]; rfl
     ·rw[h1,h2]; rfl
    rw[F];exact q _ t H2 (b1.trans b2) (t1.trans t2) R2 (mkBl _)
   ·exact nn e
  |_=>exact nn e
 cases neg with
 |false=>
  intro pins s σ H Q I h;refine qh5 k n hb pins s σ H Q I ?_;have:=c h;simpa only[tDIn,Bool.bne_false] using this
 |true=>
  intro pins s σ H Q I h;refine qvu k n hb pins s σ H Q I ?_;have:=c h;simpa only[qwp,Bool.bne_true] using this
def qgc(t:X.A.units+1<cLine)(C:PE X a (tD X.K j))(hb:PE X b (tD X.K i))(hs:NoSl b):
  PE X (.Subscript a b pos) (tD X.K λτ st=>(j τ st).bind λp=>(i τ p.2).bind λq=>match p.1 with
   |.loc l=>(M.dicAt q.2 l).bind λkvs=>if M.isKey q.1 then(M.dget kvs q.1).map λd=>(d,q.2) else B
   |_=>B):=by
 refine(qmq t C hb hs).imp λσ H Q h=>h.el λm st τ d st' T k e q=>qzj e λP V N e=>qzj e λW U K e=>rsI T k N λy m1 H1 b1 t1 S s=>rsI S (k.mono b1 t1) K λz n H2 b2 t2 R2 r=>?_
 cases P with
 |loc l=>
  refine qzx e λkvs I e=>?_
  split at e
  ·rename_i u;refine qzd e λw c G=>?_;cases G;obtain⟨R,xs,_,rfl,E,f⟩:=R2.dict I (qzw b2 t2 _ _ s);obtain⟨o,g,A⟩:=qyj u f E r;rcases A with⟨h1,h2⟩|⟨d,v,h1,h2,F⟩
   ·rw[h1]at c; cases c
   ·rw[h1]at c;cases c;subst h2;exact⟨R,v,rfl,g,q _ n H2 (b1.trans b2) (t1.trans t2) R2 F⟩
  ·exact nn e
 |_=>exact nn e
def qmz(E:X.A.units+1<cLine)(N:PE X a (tD X.K s))(hb:PE X b (tD X.K r))(F:M1 X a "get" f b c):
  PE X (.Call (.Attribute a "get" f) [b] [] c) (tD X.K λτ st=>(s τ st).bind λp=>match p.1 with
   |.loc l=>(M.dicAt p.2 l).bind λ_=>(r τ p.2).bind λq=>(M.dicAt q.2 l).bind λkvs=>if M.isKey q.1 then Y ((M.dget kvs q.1).getD .non,q.2) else B
   |_=>B):=by
 refine(qgd E N hb F).imp λσ H Q h=>h.el λm st τ d st' R0 t e q=>qzj e λd1 s1 V e=>rsI R0 t V λy m1 H1 b1 t1 u n=>?_
 cases d1 with
 |loc l=>
  refine qzx e λA W e=>qzj e λd2 s2 U e=>qzx e λkvs T e=>?_
  split at e
  ·rename_i G;have q:=q.of e;obtain⟨a0,w,K,rfl,j,_⟩:=u.dict W n;refine⟨a0,rfl,.inl ⟨_,j⟩,rsI u (t.mono b1 t1) U λz k H2 b2 t2 R2 C=>?_⟩;obtain⟨a',xs,_,S,P,i⟩:=R2.dict T (qzw b2 t2 _ _ n);cases S;obtain⟨o,g,I⟩:=qyj G i P C;refine⟨o,g,?_⟩;rcases I with⟨h1,h2⟩|⟨d,v,h1,h2,R⟩
   ·rw[h1]at q;subst h2;exact q _ k H2 (b1.trans b2) (t1.trans t2) R2 qk6
   ·rw[h1]at q;subst h2;exact q _ k H2 (b1.trans b2) (t1.trans t2) R2 R
  ·exact nn e
 |_=>exact nn e
end
section
end
section
open M (D Yb Y2 Sl)
end
end MS
end
section
namespace MS
open PySem PySem.Spec PyProof.Rows L2
open M (D Yb Y2 Sl)
section
variable {K:Qqq}{m m1:L Y8}{H1:Hp}
mutual
theorem qdt:∀(d:D) (v:V),M.noLoc d=Z->MS.IsD K m1 H1 d v->MS.IsD K m H1 d v
 |.non,_,_,h=>by rw[h.non]; exact qk6
 |.bl _,_,_,h=>by rw[h.bl]; exact mkBl _
 |.int _,_,_,h=>by rw[h.int]; exact mkInt _
 |.str _,_,_,h=>by rw[h.str]; exact mkStr _
 |.tup ds,_,n,h=>by
  obtain⟨a,xs,rfl,q,r⟩:=h.tup;unfold M.noLoc at n;exact qqu q (qjr ds xs n r)
 |.lst ds,_,n,h=>by
  obtain⟨a,xs,rfl,q,r⟩:=h.lst;unfold M.noLoc at n;exact qbz q (qjr ds xs n r)
 |.loc l,_,n,h=>by unfold M.noLoc at n; cases n
 |.fup ks,_,_,h=>by obtain⟨a,rfl,e⟩:=h.fup; exact qgo e
theorem qjr:∀(ds:L D) (xs:L V),M.noLocs ds=Z->IsDs K m1 H1 ds xs->IsDs K m H1 ds xs
 |[],_,_,h=>by rw[h.nil]; exact qqz
 |d::ds,_,n,h=>by
  obtain⟨x,r,rfl,q,t⟩:=h.cons;unfold M.noLocs at n;rw[Qqn]at n;exact qzm (qdt d x n.1 q) (qjr ds r n.2 t)
end
mutual
theorem qxe(s:Sub m m1):∀(d:D) (v g:V),MS.IsD K m H d v->MS.IsD K m1 H1 d g->MS.IsD K m H1 d g
 |.non,_,_,_,h=>by rw[h.non]; exact qk6
 |.bl _,_,_,_,h=>by rw[h.bl]; exact mkBl _
 |.int _,_,_,_,h=>by rw[h.int]; exact mkInt _
 |.str _,_,_,_,h=>by rw[h.str]; exact mkStr _
 |.tup ds,_,_,h0,h=>by
  obtain⟨a,xs,rfl,q,r⟩:=h.tup;obtain⟨f,b,_,_,c⟩:=h0.tup;exact qqu q (qqo s ds b xs c r)
 |.lst ds,_,_,h0,h=>by
  obtain⟨a,xs,rfl,q,r⟩:=h.lst;obtain⟨f,b,_,_,c⟩:=h0.lst;exact qbz q (qqo s ds b xs c r)
 |.loc l,_,_,h0,h=>by
  obtain⟨f,i,_⟩:=h0.loc;obtain⟨a,e,rfl⟩:=h.loc;have:=s l f i;rw[e]at this;cases this;exact qgn i
 |.fup ks,_,_,_,h=>by obtain⟨a,rfl,e⟩:=h.fup; exact qgo e
theorem qqo(s:Sub m m1):∀(ds:L D) (xs a:L V),IsDs K m H ds xs->IsDs K m1 H1 ds a->IsDs K m H1 ds a
 |[],_,_,_,h=>by rw[h.nil]; exact qqz
 |d::ds,_,_,h0,h=>by
  obtain⟨x,r,rfl,q,t⟩:=h.cons;obtain⟨b,e,rfl,f,c⟩:=h0.cons;exact qzm (qxe s d b x f q) (qqo s ds e r c t)
end
theorem qjo(s:Sub m m1):∀(kvs:L (D×D)) (xs a:L (Key×V)),IsKV K m H kvs xs->IsKV K m1 H1 kvs a->IsKV K m H1 kvs a
 |[],_,_,_,h=>h
 |p::r,_,_,⟨j,v0,d,l,g,b,c⟩,⟨k,v,f,e,i,hv,hr⟩=>⟨k,v,f,e,i,qxe s _ _ _ b hv,qjo s r _ _ c hr⟩
theorem qjp(s:Sub m m1):∀(kvs:L (L J×D)) (xs a:L (L Key×V)),IsKT K m H kvs xs->IsKT K m1 H1 kvs a->IsKT K m H1 kvs a
 |[],_,_,_,h=>h
 |p::r,_,_,⟨v0,d,g,b,c⟩,⟨v,f,e,hv,hr⟩=>⟨v,f,e,qxe s _ _ _ b hv,qjp s r _ _ c hr⟩
theorem qwq(s:Sub m m1):∀(fs:L (Y6×D)) (ys a:L (Y6×V)),IsFs K m H fs ys->IsFs K m1 H1 fs a->IsFs K m H1 fs a
 |[],_,_,_,h=>h
 |p::r,_,_,⟨v0,d,g,b,c⟩,⟨v,f,e,hv,hr⟩=>⟨v,f,e,qxe s _ _ _ b hv,qwq s r _ _ c hr⟩
def qgs(s:Sub m m1)(f:IsC K m H c a)(h:IsC K m1 H1 c a):IsC K m H1 c a:=by
 cases c with
 |lst w ds=>
  cases w with
  |true=>
   obtain⟨xs,e,q⟩:=h;obtain⟨d,_,b⟩:=f;exact⟨xs,e,qqo s _ _ _ b q⟩
  |false=>
   obtain⟨xs,e,q⟩:=h;obtain⟨d,_,b⟩:=f;exact⟨xs,e,qqo s _ _ _ b q⟩
 |dic w kvs=>
  cases w with
  |true=>
   obtain⟨xs,e,q⟩:=h;obtain⟨d,_,b⟩:=f;exact⟨xs,e,qjo s _ _ _ b q⟩
  |false=>
   obtain⟨o,xs,e,q⟩:=h;obtain⟨_,d,_,b⟩:=f;exact⟨o,xs,e,qjo s _ _ _ b q⟩
 |obj C fs=>
  obtain⟨dx,ys,e,q⟩:=h;obtain⟨_,g,_,b⟩:=f;exact⟨dx,ys,e,qwq s _ _ _ b q⟩
 |tdc w kvs=>
  cases w with
  |true=>
   obtain⟨xs,e,q⟩:=h;obtain⟨d,_,b⟩:=f;exact⟨xs,e,qjp s _ _ _ b q⟩
  |false=>
   obtain⟨o,xs,e,q⟩:=h;obtain⟨_,d,_,b⟩:=f;exact⟨o,xs,e,qjp s _ _ _ b q⟩
def pre_at{st a:Y2}(h:a.take st.length=st){l:Y1}(e:st[l]?=Y c):a[l]?=Y c:=by
 have b:=(Qqk.mp e).1;rw[<- h,Qx3,Z8 b]at e;exact e
def Rel.cutBack{st:Y2}(f:Rel K m st H)(i:Rel K m1 b H1)(s:Sub m m1)(h:b.take st.length=st)(t:Tr H1 H2)(g:∀(l:Y1) (c:Yb) (a:Y8),st[l]?=Y c->m[l]?=Y a->Wr c=Z->H2 a=H1 a):Rel K m st H2:=
 ⟨f.len,f.nd,λl c a e d=>qjq (Sub.refl m) t (qgs s (f.cell l c a e d) (i.cell l c a (pre_at h e) (s l a d))) λw=>g l c a e d w⟩
mutual
theorem qvx(s:Sub m m1):∀(d:D) (v:V),M.lt m.length d=Z->IsD K m1 H d v->IsD K m H d v
 |.non,_,_,h=>h
 |.bl _,_,_,h=>h
 |.int _,_,_,h=>h
 |.str _,_,_,h=>h
 |.tup ds,_,b,h=>by
  unfold M.lt at b;obtain⟨a,xs,rfl,q,r⟩:=h.tup;exact qqu q (qxc s ds xs b r)
 |.lst ds,_,b,h=>by
  unfold M.lt at b;obtain⟨a,xs,rfl,q,r⟩:=h.lst;exact qbz q (qxc s ds xs b r)
 |.loc l,_,b,h=>by
  unfold M.lt at b;obtain⟨a,e,rfl⟩:=h.loc;have b:l<m.length:=by simpa[Qkw] using b
  have f:m[l]?=Y m[l]:=by simp
  have c:=s l _ f;rw[e]at c;cases c;exact qgn f
 |.fup ks,_,_,h=>by obtain⟨a,rfl,e⟩:=h.fup; exact qgo e
theorem qxc(s:Sub m m1):∀(ds:L D) (xs:L V),M.lts m.length ds=Z->IsDs K m1 H ds xs->IsDs K m H ds xs
 |[],_,_,h=>h
 |d::ds,_,a,h=>by
  unfold M.lts at a;rw[Qqn]at a;obtain⟨x,r,rfl,q,t⟩:=h.cons;exact qzm (qvx s d x a.1 q) (qxc s ds r a.2 t)
end
theorem qvz(s:Sub m m1):∀(kvs:L (D×D)) (xs:L (Key×V)),(kvs.all λp=>M.lt m.length p.2)=Z->IsKV K m1 H kvs xs->IsKV K m H kvs xs
 |[],_,_,h=>h
 |p::r,_,a,⟨k,v,b,e,c,hv,hr⟩=>by
  rw[Qzi,Qqn]at a;exact⟨k,v,b,e,c,qvx s _ _ a.1 hv,qvz s r b a.2 hr⟩
theorem qvq(s:Sub m m1):∀(kvs:L (L J×D)) (xs:L (L Key×V)),(kvs.all λp=>M.lt m.length p.2)=Z->IsKT K m1 H kvs xs->IsKT K m H kvs xs
 |[],_,_,h=>h
 |p::r,_,a,⟨v,b,e,hv,hr⟩=>by
  rw[Qzi,Qqn]at a;exact⟨v,b,e,qvx s _ _ a.1 hv,qvq s r b a.2 hr⟩
theorem qay(s:Sub m m1):∀(fs:L (Y6×D)) (ys:L (Y6×V)),(fs.all λp=>M.lt m.length p.2)=Z->IsFs K m1 H fs ys->IsFs K m H fs ys
 |[],_,_,h=>h
 |p::r,_,a,⟨v,b,e,hv,hr⟩=>by
  rw[Qzi,Qqn]at a;exact⟨v,b,e,qvx s _ _ a.1 hv,qay s r b a.2 hr⟩
def qm8(s:Sub m m1)(b:M.ltC m.length c=Z)(h:IsC K m1 H c a):IsC K m H c a:=by
 cases c with
 |lst w ds=>
  cases w with
  |true=>obtain⟨xs,e,q⟩:=h; exact⟨xs,e,qxc s _ _ b q⟩
  |false=>obtain⟨xs,e,q⟩:=h; exact⟨xs,e,qxc s _ _ b q⟩
 |dic w kvs=>
  cases w with
  |true=>obtain⟨xs,e,q⟩:=h; exact⟨xs,e,qvz s _ _ b q⟩
  |false=>obtain⟨o,xs,e,q⟩:=h; exact⟨o,xs,e,qvz s _ _ b q⟩
 |obj C fs=>obtain⟨dx,ys,e,q⟩:=h; exact⟨dx,ys,e,qay s _ _ b q⟩
 |tdc w kvs=>
  cases w with
  |true=>obtain⟨xs,e,q⟩:=h; exact⟨xs,e,qvq s _ _ b q⟩
  |false=>obtain⟨o,xs,e,q⟩:=h; exact⟨o,xs,e,qvq s _ _ b q⟩
def GcOk(st st0:Y2):Prop:=(st0.take st.length).all (M.ltC st.length)=Z\/st0.take st.length=st
def gc_el{st:Y2}(e:M.gcD st p=q):p=q\/(GcOk st p.2/\M.gcX st.length p=q):=by
 unfold M.gcD at e
 split at e
 ·rename_i h; exact .inr ⟨.inl h,e⟩
 ·split at e
  ·rename_i h; exact .inr ⟨.inr h,e⟩
  ·exact .inl e
def qjv{a:Y2}(e:(a.take n)[l]?=Y c):l<n/\a[l]?=Y c:=by
 rw[Qx3]at e
 split at e
 ·rename_i h; exact⟨h,e⟩
 ·exact nn e
def Rel.cut{st:Y2}(j:Rel K m st H)(f:Rel K m1 b H1)(s:Sub m m1)(h:GcOk st b)(t:Tr H1 H2)(i:∀(l:Y1) (c:Yb) (a:Y8),(b.take st.length)[l]?=Y c->m[l]?=Y a->Wr c=Z->H2 a=H1 a):Rel K m (b.take st.length) H2:=by
 rcases h with h|h
 ·have o:=j.len;have p:m.length<=m1.length:=by
   rcases Qz7 m1.length m.length with z|z
   ·have g:m[m1.length]?=Y (m[m1.length]'z):=by simp
    have:=(Qqk.mp (s _ _ g)).1
    lia
   ·exact z
  have h1:=f.len;refine⟨by rw[Qzk]; lia,λl n a c v u g r q w k=>f.nd l n a c v (s _ _ u) (s _ _ g) (qjv r).2 (qjv q).2 w k,λl c a e d=>?_⟩;refine qjq (Sub.refl m) t (qm8 s ?_ (f.cell l c a (qjv e).2 (s l a d))) λw=>i l c a e d w;have:=Qzx.mp h c (Qqo e);rw[o]; exact this
 ·rw[h];exact j.cutBack f s h t λl c a e d w=>i l c a (by rw[h]; exact e) d w
end
section
def qkf(I:Inv X d g H s)(h:H a=Y (.lst xs)):∃o,Inv X d g (upd H a (.frz o (.lst xs))) s:=by
 obtain⟨z,f,n,r,e⟩:=id (I.hok a _ h);refine⟨{ cls:=.type "list",data:=.seq f.toArray n },I.un ⟨λb o q _ _ _=>q,λb o q _ _ _=>⟨o.slots,q⟩,λb o q hn _=>?_,λb o q _=>⟨o,q⟩,λb ys q=>?_,λb o u q=>?_,λb ps q=>⟨#[],?_⟩⟩ ?_⟩
 ·rw[qzq (λz=>by subst z; rw[h]at hn; cases hn)];exact hn
 ·rw[qzq (qzs q h (by intro z; cases z))]; exact q
 ·rw[qzq (qzs q h (by intro z; cases z))]; exact q
 ·rw[qzq (qzs q h (by intro z; cases z)),q]; simp
 ·intro b u q
  by_cases hb:b=a
  ·subst hb;rw[qzk]at q;cases q;exact⟨e,z,f,n,r,e⟩
  ·rw[qzq hb]at q;refine(I.hok b u q).stay (λc v _ w=>w) (λc w=>?_) λc ys w=>?_
   ·rw[qzq (qzs w h (by intro z; cases z))]; exact w
   ·rw[qzq (qzs w h (by intro z; cases z))]; exact w
inductive Di:HO->Prop
 |k (xs:L (Key×V)):Di (.dK xs)
 |t (xs:L (L Key×V)):Di (.dT xs)
def Di.ne(h:Di u):(∀ys,HO.tup ys≠u)/\(∀o v,HO.frz o v≠u)/\(∀p,HO.own p≠u)/\∀ps,HO.tbl ps≠u:=by
 cases h<;>exact⟨λ_ z=>(by cases z),λ_ _ z=>(by cases z),λ_ z=>(by cases z),λ_ z=>(by cases z)⟩
def qm9(i:Di u)(I:Inv X d f H s)(h:H a=Y u):∃o,s.heap.get? a=Y o/\Inv X d f (upd H a (.frz o u)) s:=by
 obtain⟨g,m,l,j⟩:=i.ne;have ok:=I.hok a _ h;obtain⟨o,e⟩:∃o,s.heap.get? a=Y o:=by
  cases i<;>(obtain⟨_,_,vs,_,o,es,n,e,_⟩:=ok; exact⟨o,e⟩)
 have st:∀{b:Y8}{v:HO},ObjOk X.prog X.w H s.heap b v->ObjOk X.prog X.w (upd H a (.frz o u)) s.heap b v:=λk=>k.stay (λc v _ w=>w) (λc w=>by rw[qzq (qzs w h (l _))]; exact w) λc ys w=>by rw[qzq (qzs w h (g _))]; exact w
 refine⟨o,e,I.un ⟨λb o q _ _ _=>q,λb o q _ _ _=>⟨o.slots,q⟩,λb o q hn _=>?_,λb o q _=>⟨o,q⟩,λb ys q=>?_,λb o u q=>?_,λb ps q=>⟨#[],?_⟩⟩ ?_⟩
 ·rw[qzq (λz=>by subst z; rw[h]at hn; cases hn)];exact hn
 ·rw[qzq (qzs q h (g _))]; exact q
 ·rw[qzq (qzs q h (m _ _))]; exact q
 ·rw[qzq (qzs q h (j _)),q]; simp
 ·intro b u q
  by_cases hb:b=a
  ·subst hb;rw[qzk]at q;cases q;exact⟨e,st ok⟩
  ·rw[qzq hb]at q;exact st (I.hok b u q)
def NoFz(X:Cx)(a:Y8):Prop:=∀o u,X.H₀ a≠Y (.frz o u)
def qmh(d:Di u)(I:Inv X b c H s)(h:H a=Y u):NoFz X a:=λo v z=>by
 have:=I.base.frzs a o v z;rw[h]at this;exact absurd (Option.some.inj this).symm (d.ne.2.1 o v)
def qaa(I:Inv X e f H s)(i:NoFz X a)(h:H a=Y (.frz o u)):Inv X e f (upd H a u) s:=by
 have ok:=I.hok a _ h;have d:∀{b:Y8},H b=B->(upd H a u) b=none:=λ{b} q=>by
  rw[qzq (λz=>by subst z; rw[h]at q; cases q)];exact q
 have st:∀{b:Y8}{v:HO},ObjOk X.prog X.w H s.heap b v->ObjOk X.prog X.w (upd H a u) s.heap b v:=λk=>k.stay (λc v _ w=>w) (λc w=>by rw[qzq (qzs w h (by intro z; cases z))]; exact w) λc ys w=>by rw[qzq (qzs w h (by intro z; cases z))]; exact w
 refine⟨I.ok,I.os,I.bare,⟨I.base.keep,I.base.slot,λb o q hn j=>d (I.base.free b o q hn j),I.base.there,λb ys q=>?_,λb o u q=>?_,λb ps q=>?_⟩,I.loc,I.cell,d I.free,λx c q=>d (I.freeC x c q),λp l=>?_,?_,I.len⟩
 ·have:=I.base.tups b ys q;rw[qzq (qzs this h (by intro z; cases z))]; exact this
 ·have:=I.base.frzs b o u q
  by_cases hb:b=a
  ·subst hb; exact absurd q (i o u)
  ·rw[qzq hb]; exact this
 ·obtain⟨more,this⟩:=I.base.tbls b ps q;exact⟨more,by rw[qzq (qzs this h (by intro z; cases z))]; exact this⟩
 ·obtain⟨p1,p2,g⟩:=I.pin p l;exact⟨p1,d p2,g⟩
 ·intro b u q
  by_cases hb:b=a
  ·subst hb;rw[qzk]at q;cases q;exact st ok.2
  ·rw[qzq hb]at q;exact st (I.hok b u q)
def Tr.lay(c:H a=Y (.lst xs)):Tr H (upd H a (.frz o (.lst xs))):=
 ⟨λb zs e=>by rw[qzq (qzs e c (by intro z; cases z))]; exact e,λb o u e=>by rw[qzq (qzs e c (by intro z; cases z))]; exact e⟩
def pe_gc(E:PE X p (tD X.K f)):PE X p (tD X.K λτ st=>(f τ st).map λq=>M.gcD st q):=by
 intro pins s σ H Q I h;refine h.el λm st τ d st' k P e q=>?_;obtain⟨⟨y,g⟩,N,K⟩:=mapD e;refine thn (E pins s σ H (λv H1=>∃m1,Sub m m1/\Tr H H1/\Rel X.K m1 g H1/\MS.IsD X.K m1 H1 y v) I (rsI k P N λv m1 H1 b1 t1 b i=>⟨m1,b1,t1,b,i⟩)) λv s1 ⟨x,H1,n,j,m1,b1,t1,b,i⟩=>?_;have plain:(y,g)=(d,st')->EP X pins σ Q v s1:=λz=>by
  cases z;exact⟨x,H1,n,j,q x m1 H1 b1 t1 b i⟩
 rcases gc_el K with z|⟨ok,z⟩
 ·exact plain z
 ·unfold M.gcX at z
  split at z
  ·rename_i hn;cases z;exact⟨x,H1,n,j,q x m H1 (Sub.refl m) t1 (k.cut b b1 ok (Tr.refl H1) λ_ _ _ _ _ _=>rfl) (qdt _ _ hn i)⟩
  ·split at z
   ·rename_i l hd;simp only at hd
    split at z
    ·rename_i S
     split at z
     ·rename_i ds hc
      split at z
      ·rename_i hn;cases z;subst hd;obtain⟨a,u,rfl⟩:=i.loc;obtain⟨xs,t,C⟩:=b.cell l _ a hc u;obtain⟨o,R⟩:=qkf n t;have t2:=Tr.lay (o:=o) t;refine⟨.ref a,_,R,j,q _ m _ (Sub.refl m) (t1.trans t2) (k.cut b b1 ok t2 λr c A e G w=>?_) ?_⟩
       ·refine qzq λz=>?_;subst z;have F:=qjv e;have:=b.nd r l A c _ (b1 r A G) u F.2 hc w rfl
        lia
       ·exact qbz (.inl ⟨o,qzk⟩) (qjr _ _ hn (qza (Sub.refl m1) t2 _ _ C))
      ·exact plain z
     ·exact plain z
    ·exact plain z
   ·exact plain z
end
end MS
end
section
namespace MS
open PySem PySem.Spec PyProof.Rows L2
open M (D Yb Y2 Sl)
def qv7(l)(a)(n)(b)(items2)(j)(f)(c)(o:¬(!a.isEmpty&&Builtin.List.listTooLong (a.size+items2.size))=Z)(m:a.size<=sizeLine)(e:a.size+items2.size<=sizeLine+1):
  Meets (Qs.«list.extend» ⟨[.ref l,.ref b],[]⟩) (λ_ R s=>s.heap.get? l=Y { cls:=.type "list",dict:=B,data:=.seq a n,slots:=#[] }/\s.heap.get? b=Y { cls:=.type "list",dict:=f,data:=.seq items2 j,slots:=c }/\R (.ok (.ret Value.none)) { s with heap:=s.heap.update l (Obj.mapSeq λx=>x++items2),toks:=s.toks }):=
 .of_wp λprog w A R s h=>by
  obtain⟨p,g,d,tk,os⟩:=s; obtain⟨i,hb,h⟩:=h; have v:=AutoSeq1.idx_int; have u:=AutoSeq1.sub_tuple_tuple; have t:=AutoSeq1.sub_list_list; have r:=AutoSeq1.sub_tuple_list; have q:=AutoSeq1.sub_list_tuple;have k:(a++items2).size<=sizeLine+1:=by rw[Qjr]; exact e
  wp_walk using (wpAny_updateSeq i rfl),Zb i,Zb hb; exact⟨_,rfl,h⟩
def qv8(l)(a)(n)(b)(items2)(j)(f)(c)(o:¬(!a.isEmpty&&Builtin.List.listTooLong (a.size+items2.size))=Z)(m:a.size<=sizeLine)(e:a.size+items2.size<=sizeLine+1):
  Meets (Qs.«list.extend» ⟨[.ref l,.ref b],[]⟩) (λ_ R s=>s.heap.get? l=Y { cls:=.type "list",dict:=B,data:=.seq a n,slots:=#[] }/\s.heap.get? b=Y { cls:=.type "tuple",dict:=f,data:=.seq items2 j,slots:=c }/\R (.ok (.ret Value.none)) { s with heap:=s.heap.update l (Obj.mapSeq λx=>x++items2),toks:=s.toks }):=
 .of_wp λprog w A R s h=>by
  obtain⟨p,g,d,tk,os⟩:=s; obtain⟨i,hb,h⟩:=h; have v:=AutoSeq1.idx_int; have u:=AutoSeq1.sub_tuple_tuple; have t:=AutoSeq1.sub_list_list; have r:=AutoSeq1.sub_tuple_list; have q:=AutoSeq1.sub_list_tuple;have k:(a++items2).size<=sizeLine+1:=by rw[Qjr]; exact e
  wp_walk using (wpAny_updateSeq i rfl),Zb i,Zb hb; exact⟨_,rfl,h⟩
section
def qa8:MtM X "list.extend" (λx xs H Q=>∃m st a ds d st',Rel X.K m st H/\MS.IsD X.K m H a x/\IsDs X.K m H ds xs/\M.mExtend st a ds=Y (d,st')/\Post X.K m H d st' Q):=by
 intro pins s σ H x xs v us Q I T U h;obtain⟨m,st,a,ds,d,st',D,i1,i2,e,q⟩:=h;unfold M.mExtend at e
 split at e
 ·refine qzx e λa1 e1 e=>qzx e λes N e=>?_
  split at e
  ·rename_i hl;have q:=q.of e;obtain⟨p,ys,S,rfl,j,G,hs⟩:=D.wlist e1 i1;obtain⟨y,rfl,R⟩:=i2.one;have l1:=G.length;have l2:=qqy;cases T;obtain⟨u,rfl,P⟩:=U.one;obtain⟨z,c,n,r,a0,o⟩:=I.lstM j
   split at N
   ·rename_i ts;cases N;obtain⟨b,zs,rfl,K,w⟩:=R.tup;cases P;obtain⟨its2,t,⟨⟨C,k,l,g⟩,h1,h2,E,A⟩,_⟩:=I.tuple K;simp only at h2 A;subst h2 A;have W:=w.length;have V:=t.length;have i:c.toArray.size+its2.toArray.size<=sizeLine:=by rw[Qqc,Qqc]; lia
    have f:¬ (!c.toArray.isEmpty&&Builtin.List.listTooLong (c.toArray.size+its2.toArray.size))=true:=by
     rw[qy4 i,Bool.and_false];exact Qq0
    refine Q0 F.slot_list_extend ⟨_,o,rfl⟩ F.entry_list_extend (F.args_list_extend_2 _ _) (qv8 p c.toArray n b its2.toArray E k g f (by rw[Qqc]; lia) (by lia)) ⟨o,h1,?_⟩;refine⟨.non,_,I.lset j o (by simp) (r.append t) ?_,rfl,?_⟩
    ·rw[Qqe]; lia
    ·exact q _ m _ (Sub.refl m) (Tr.put j) (D.put hs S j (G.append w)) qk6
   ·obtain⟨b,zs,_,rfl,K,w⟩:=D.seq N R;cases P;obtain⟨its2,t,⟨⟨C,k,l,g⟩,E,h1,h2,h4,A⟩,_⟩:=I.list K;simp only at h2 A;subst h2 A;have W:=w.length;have V:=t.length;have i:c.toArray.size+its2.toArray.size<=sizeLine:=by rw[Qqc,Qqc]; lia
    have f:¬ (!c.toArray.isEmpty&&Builtin.List.listTooLong (c.toArray.size+its2.toArray.size))=true:=by
     rw[qy4 i,Bool.and_false];exact Qq0
    refine Q0 F.slot_list_extend ⟨_,o,rfl⟩ F.entry_list_extend (F.args_list_extend_2 _ _) (qv7 p c.toArray n b its2.toArray E k g f (by rw[Qqc]; lia) (by lia)) ⟨o,h1,?_⟩;refine⟨.non,_,I.lset j o (by simp) (r.append t) ?_,rfl,?_⟩
    ·rw[Qqe]; lia
    ·exact q _ m _ (Sub.refl m) (Tr.put j) (D.put hs S j (G.append w)) qk6
  ·exact nn e
 ·exact nn e
def qdk(hu:X.A.units+64<cLine):MtM X "list.index" (λx xs H Q=>∃m st a ds d st',Rel X.K m st H/\MS.IsD X.K m H a x/\IsDs X.K m H ds xs/\M.mIndex st a ds=Y (d,st')/\Post X.K m H d st' Q):=by
 intro pins s σ H x xs v us Q I K P h;obtain⟨m,st,a,ds,d,st',E,i1,W,e,q⟩:=h;unfold M.mIndex at e
 split at e
 ·rename_i x0;refine qzx e λf e1 e=>?_
  split at e
  ·rename_i hf;rw[Qqn]at hf;refine qzd e λj e2 e3=>?_;cases e3;obtain⟨y,rfl,V⟩:=W.one;obtain⟨u,rfl,N⟩:=P.one;obtain⟨b,zs,_,rfl,hq,g⟩:=E.seq e1 i1;cases K;obtain⟨c,r,⟨⟨cls,dd,D,sl⟩,n,h1,h2,h4,z⟩,hz⟩:=I.list hq;simp only at h2 z;subst h2 z;have l3:=g.length;have l4:=r.length;obtain⟨hj,l,o⟩:=List.findIdx?_eq_some_iff_getElem.mp e2;have a0:(sizeLine:Y1)<2 ^ 40:=by decide
   have i:X.A.in1.units+9<cLine:=by have hz:X.A.in1.units=X.A.units+1:=rfl; lia
   obtain⟨C,w⟩:=qfq I X.A.in1 i hf.1 V N;obtain⟨U,k2⟩:=w f zs c hf.2 g r;have at_:∀k (t:k<c.length),C c[k]=M.eqT f[k] x0:=λk t=>by
    have A:f[k]?=Y f[k]:=by simp
    obtain⟨G,w1,S⟩:=g.get A;obtain⟨u1,w2,R⟩:=r.get w1;have e5:c[k]=u1:=by
     have:c[k]?=Y c[k]:=by simp
     rw[w2]at this;exact(Option.some.inj this).symm
    rw[e5];obtain⟨_,T⟩:=w [f[k]] [G] [u1] (by simp[Qzx.mp hf.2 _ (Qqo A)]) (qzm S qqz) (.cons R .nil);simpa using T
   refine Q0 F.slot_list_index ⟨_,h1,rfl⟩ F.entry_list_index (F.args_list_index_2 _ _) (SeqAt.list_indexAt b c.toArray n dd sl u C j (by rw[Qqc]; lia) (by lia) ?_ ?_) ⟨h1,λy hy=>U y (by simpa using hy),?_⟩
   ·rw[Qjc,at_ j (by lia)];exact l
   ·intro k t p;rw[Qjc,at_ k (by simpa using t)];simpa using o k p
   ·exact⟨.int j,H,I.tok _,⟨_,rfl⟩,q.here E (mkInt _)⟩
  ·exact nn e
 ·exact nn e
def qa7:MtM X "list.insert" (λx xs H Q=>∃m st a ds d st',Rel X.K m st H/\MS.IsD X.K m H a x/\IsDs X.K m H ds xs/\M.mInsert st a ds=Y (d,st')/\Post X.K m H d st' Q):=by
 intro pins s σ H x xs v us Q I A C h;obtain⟨m,st,a,ds,d,st',y,E,D,e,q⟩:=h;unfold M.mInsert at e
 split at e
 ·rename_i l i d0;refine qzx e λU T e=>?_
  split at e
  ·rename_i P;have q:=q.of e;obtain⟨p,ys,K,rfl,f,u,hs⟩:=y.wlist T E;obtain⟨W,V,rfl,o,k⟩:=D.two;cases o.int;have l1:=u.length;have l2:=qqy;cases A;obtain⟨u1,u2,rfl,j,g⟩:=C.two;obtain⟨t,rfl⟩:=j;obtain⟨z,b,n,r,N,w⟩:=I.lstM f;have G:(sizeLine:Y1)<2 ^ 40:=by decide
   have c:¬ (!Builtin.List.listFitsIndex i)=true:=by
    have h1:=P.1;have h2:i<2 ^ 62:=by lia
    simp only[Builtin.List.listFitsIndex,Bool.not_eq_true',Bool.not_eq_false];have:i<9223372036854775808:=by lia
    have:(-9223372036854775808:J)<=i:=by lia
    simp[*]
   refine Q0 F.slot_list_insert ⟨_,w,rfl⟩ F.entry_list_insert (F.args_list_insert_3 _ _ _) (AutoSeq1.list_insert_list_int_val_1 p b.toArray n i t u2 c (by rw[Qqc]; lia)) ⟨w,?_⟩;refine⟨.non,_,I.lset (its':=b.take i.toNat++u2::b.drop i.toNat) f w ?_ ((r.take _).append (.cons g (r.drop _))) ?_,rfl,?_⟩
   ·have S:¬ i<0:=by lia
    have R:min i.toNat b.length=i.toNat:=by lia
    rw[Z7 S,Qqc,R];apply Array.ext';simp;exact Qxi (by rw[Qjx]; lia)
   ·rw[Qqe,Qqg,Qzk,Qjx]; lia
   ·exact q _ m _ (Sub.refl m) (Tr.put f) (y.put hs K f ((u.take _).append (qzm k (u.drop _)))) qk6
  ·exact nn e
 ·exact nn e
end
section
noncomputable def Itd(a:Y8)(o:Obj)(xs:L (Key×V)):It:=
 ⟨λi H=>H a=Y (.frz o (.dK xs))/\i<xs.length,λi H x H'=>H'=H/\∃p,xs[i]?=Y p/\x=kV p.1,λi H=>H a=Y (.frz o (.dK xs))/\xs.length<=i⟩
def qad(I:Inv X b d H s)(h:H a=Y (.frz o (.dK xs)))(hd:o.data=.dict es ep):∃vs,KV xs vs/\s.heap.DictAt (mixKind X.prog X.w) a vs ep:=by
 obtain⟨h1,_,_,vs,e,o',g,i,h2,f,c,r⟩:=I.hok a _ h;rw[h1]at h2;cases h2;rw[hd]at c;cases c;exact⟨vs,e,o,es,h1,f,hd,r⟩
def qb1{K:Qqq}(a it)(o)(xs)(hd:o.data=.dict es ep):Turn P w K tg (Itd a o xs) [it] it (λi h=>h.IsKeyIter it a i xs.length ep) where
 mem:=by simp
 obj:=λi h st b hb=>by
  have e:b=it:=by simpa using hb
  subst e;obtain⟨o,e,c,d⟩:=st;exact⟨o,e,λv z=>by rw[d]at z; cases z⟩
 keep:=λi h h' st k=>st.at λo e=>k it (by simp) o e
 item:=by
  intro X y r A hc i pins s σ H E I hf st x;subst y r A;obtain⟨C,hi⟩:=x;obtain⟨vs,m,S⟩:=qad I C hd;obtain⟨Q,N,f2,G,F,D⟩:=hf it (by simp);have n:=m.length;obtain⟨⟨k,u⟩,T⟩:∃q,vs[i]?=Y q:=⟨vs[i]'(by lia),by simp⟩
  have U:xs[i]?=Y xs[i]:=by simp
  have hk:xs[i].1=k:=by
   have f:=congrArg (λl:L Key=>l[i]?) m.keys;simp only[Qqw,T,U,oMs,Option.some.injEq]at f;exact f
  rw[n]at st;refine wpAny_pyNext_dict_item st S T λp h' g st' W=>?_;have I1:=I.turned (t':=s.toks) (λb o hb e=>(W.2 b hb).trans e) Q N G F D;obtain⟨o1,e,c,d⟩:=id st';rw[<- n]at st';refine⟨p,rfl,qd8 e c d (by decide) ⟨kV xs[i].1,H,I1,?_,⟨rfl,xs[i],U,rfl⟩,st',λb hb=>(hf b hb).1⟩⟩;rw[hk];rcases qzh g with⟨j,t,f,R⟩|⟨z,t,f,R⟩
  ·subst f R; exact⟨t,rfl⟩
  ·subst f R; exact⟨t,rfl⟩
 done:=by
  intro X y r A hc i pins s σ H E I hf st x;subst y r A;obtain⟨C,hi⟩:=x;obtain⟨vs,m,S⟩:=qad I C hd;obtain⟨Q,N,f2,G,F,D⟩:=hf it (by simp);have n:=m.length;rw[n]at st;exact wpAny_pyNext_dict_end (I.ok.hd hc) st S (Qzg.mpr (by lia)) λh' eb=>⟨rfl,I.turned (λb o hb e=>eb b o hb e) Q N G F D⟩
 self:=λ_ _ _ _ _ st h=>wpAny_pyIter_keyiter st h
noncomputable def iDict(X:Cx)(tl:TE):TI:=λσ H R=>tl σ H λx H1=>∃a xs,x=.ref a/\H1 a=Y (.dK xs)/\∀o,NoFz X a->R (Itd a o xs) (upd H1 a (.frz o (.dK xs)))
def ql3(m:PE X l tl):PI X tg l (iDict X tl):=by
 intro pins s σ H R I h;refine thn (m pins s σ H _ I h) λv c ⟨x,H1,g,j,a,xs,e,d,q⟩=>?_;subst e;cases j;obtain⟨o,i,f⟩:=qm9 (.k _) g d;obtain⟨_,lo,vs,k,o',es,p,h2,n,hd,r⟩:=g.hok a _ d;rw[i]at h2;cases h2;have hn:=k.length;refine wpAny_pyIter_dict lo ⟨o,es,i,n,hd,r⟩ ?_;refine⟨c.heap.objs.size,[c.heap.objs.size],_,_,_,rfl,f.kept λb o e=>Qqz _ e,qb1 a _ o xs hd,⟨_,Qqf _ rfl,rfl,by rw[hn]; rfl⟩,λb hb=>?_,q o (qmh (.k _) g d)⟩;have e:b=c.heap.objs.size:=by simpa using hb
 subst e;exact f.fpOk (Qqj _) (f.hok.fresh (Qqj _))
noncomputable def thawE(X:Cx)(Dn:Ends):Ends:=
 ⟨λσ H=>∃a o xs,NoFz X a/\H a=Y (.frz o (.dK xs))/\Dn.nx σ (upd H a (.dK xs)),λv H=>∃a o xs,NoFz X a/\H a=Y (.frz o (.dK xs))/\Dn.rt v (upd H a (.dK xs)),λ_ _=>False,λ_ _=>False⟩
def qlr(i:PassesOwn (model X.prog X.w) X.A X.env X.xe)(hc:X.calm=Z)(j:PE X l tl)(k:PG X tg g)(hb:PSs X body tb)(hs:∀x,foldedSetIterable l X.env x=pure x):
  PS X (.For tg l body [] pos) (λf σ H=>tFor (iDict X tl) g tb (thawE X f) σ H):=by
 intro pins s σ H f I h;refine thn (qh1 i hc (ql3 j) k hb hs pins s σ H (thawE X f) I h) λm n q=>?_
 cases m with
 |next=>
  obtain⟨b,H1,d,a,o,xs,c,e,q⟩:=q;exact⟨b,_,qaa d c e,q⟩
 |ret u=>
  obtain⟨v,b,H1,d,r,a,o,xs,c,e,q⟩:=q;exact⟨v,b,_,qaa d c e,r,q⟩
 |brk=>obtain⟨_,_,_,z⟩:=q; exact z.elim
 |cont=>obtain⟨_,_,_,z⟩:=q; exact z.elim
end
end MS
end
section
namespace MS
open PySem PySem.Spec PyProof.Rows L2
section
def qg8{k:RK}{i:Y1}(z:IsEnum s.heap (n+1) n i old)(V:k.It s.heap n l i)(P:k.Sq s.heap l xs)(T:xs[i]?=Y x)(U:∀h',IsEnumOut h' (n+1) n ((i:J)+1) x s.heap.objs.size->k.It h' n l (i+1)->IsPair h' s.heap.objs.size (.int i s.toks) x->
   (∀c o,c≠n+1->c≠n->s.heap.get? c=Y o->h'.get? c=Y o)->Q (Y (.ref s.heap.objs.size)) { s with heap:=h',toks:=s.toks+1 }):
  wpAny (model prog w) A (pyNext (.ref (n+1))) Q E s:=by
 have N:s.TypeIs (.ref (n+1)) "enumerate":=⟨_,z,rfl⟩
 have d:=Qqr (Qzb n);unfold pyNext;refine Qq (Q5 (Qc N F.slot_enumerate_next (Qe F.slot_enumerate_next N F.entry_enumerate_next ?_ (F.args_enumerate_next_1 _))));show wpAny _ _ (field (.ref (n+1)) 2 >>= _) _ _ _;refine Qq (Qw z rfl rfl ?_);refine Qq (qxh V P T λg1 S D c1=>?_);have r:=D _ _ d.symm z;refine Qq (Qw r rfl rfl ?_);refine Qq (Qw r rfl rfl ?_);refine Qq (wpAny_mkInt ?_);refine Qq (Qy r (by simp) λg2 q v=>?_)
 replace q:IsEnum g2 (n+1) n ((i:J)+1) old:=q
 refine Qq (Qy q (by simp) λf h u=>?_)
 replace h:IsEnum f (n+1) n ((i:J)+1) old:=h
 refine Qq (wpAny_newTuple ?_);have sz:=u.1.trans (v.1.trans c1);have t:∀c o,c≠n+1->c≠n->s.heap.get? c=Y o->f.get? c=Y o:=λc o a b e=>u.extBut _ _ a (v.extBut _ _ a (D _ _ b e));have R:=S.on λo e=>u.extBut _ _ d (v.extBut _ _ d e);have y:=Qqb h;have p:IsEnum (f.push { cls:=.type "tuple",data:=.seq #[.int i s.toks,x] }) (n+1) n ((i:J)+1) old:=Qqz _ h;refine Qq ?_;unfold Builtin.SmallTypes.ownedTupleIsFree;refine Qq (Qw p rfl rfl (Qx ?_));simp only[if_true];refine Qq (Zx ?_);refine Qq (Qw p rfl rfl ?_);refine Qq (Qy p (by simp) λX m I=>?_)
 replace m:IsEnum X (n+1) n ((i:J)+1) x:=m
 refine Qq ?_;unfold Builtin.SmallTypes.ownedTupleHandOut;refine Qq (Qy m (by simp) λW j H=>?_)
 replace j:IsEnumOut W (n+1) n ((i:J)+1) x f.objs.size:=j
 refine Qy j (by simp) λC g G=>?_
 replace g:IsEnumOut C (n+1) n ((i:J)+1) x f.objs.size:=g
 have up:∀c o,c≠n+1->f.get? c=Y o->C.get? c=Y o:=λc o a e=>G.extBut _ _ a (H.extBut _ _ a (I.extBut _ _ a (Qqz _ e)));have K:=G.extBut _ _ (Qxw y) (H.extBut _ _ (Qxw y) (I.extBut _ _ (Qxw y) (Qqf _ rfl)));rw[sz]at g K;refine Qq (wpAny_letGo (Qx ⟨_,rfl,Qx ?_⟩));rw[sz];exact U C g (R.on λo e=>up _ o d e) K λc o a b e=>up c o a (t c o a b e)
def qey{k:RK}{i:Y1}(j:A.handled=B)(b:IsEnum s.heap (n+1) n i old)(p:k.It s.heap n l i)(g:k.Sq s.heap l xs)(h:xs[i]?=B)(m:∀h',(∀c o,c≠n->s.heap.get? c=Y o->h'.get? c=Y o)->Q B { s with heap:=h' }):wpAny (model prog w) A (pyNext (.ref (n+1))) Q E s:=by
 have d:s.TypeIs (.ref (n+1)) "enumerate":=⟨_,b,rfl⟩
 unfold pyNext;refine Qq (Q5 (Qc d F.slot_enumerate_next (Qe F.slot_enumerate_next d F.entry_enumerate_next ?_ (F.args_enumerate_next_1 _))));show wpAny _ _ (field (.ref (n+1)) 2 >>= _) _ _ _;refine Qq (Qw b rfl rfl ?_);refine Qq (qju j p g h λq e f a=>?_);obtain⟨o,a,hc⟩:=a;exact Qq (Zj ⟨o,a,hc⟩ isSubtype_stop (Qx (m _ f)))
end
noncomputable abbrev eh1(k:RK)(h:Heap)(l:Y8):Heap:=h.push (k.itO l)
noncomputable abbrev eh2(k:RK)(h:Heap)(l:Y8):Heap:=(eh1 k h l).push { cls:=.type "enumerate",data:=.fields #[.none,.bool Y7,.ref h.objs.size,rawInt 0,.none,.none] }
def wp_two[Decidable c]{p q:Sem α}{Q:α->Qz->Prop}(b:wpAny M A p Q E s)(a:wpAny M A q Q E s):wpAny M A (if c then p else q) Q E s:=by
 split
 ·exact b
 ·exact a
def qea(k)(l)(xs):Meets (Qs.«enumerate.__new__» ⟨[.type "enumerate",.ref l],[]⟩) (λ_ R s=>k.Sq s.heap l xs/\R (.ok (.ret (.ref (eh1 k s.heap l).objs.size))) { s with heap:=eh2 k s.heap l }):=
 .of_wp λprog w A R s h=>by
  obtain⟨e,g,d,tk,os⟩:=s;obtain⟨c,h⟩:=h;have a:=sub_enumerate;have b:=c
  wp_walk using qx9 b
  refine wpAny_stack_any λz=>Qx ?_;refine wp_two ?_ ?_<;>(wp_walk using qx9 b; exact⟨_,rfl,h⟩)
def EnAt(k:RK)(n l:Y1)(i:Y1)(h:Heap):Prop:=l<n/\(∃old,IsEnum h (n+1) n i old)/\k.It h n l i
def qbf(d:k.Sq s.heap l xs)(b1:l<s.heap.objs.size)(h:∀h',EnAt k s.heap.objs.size l 0 h'->(∀c o,s.heap.get? c=Y o->h'.get? c=Y o)->Q (.ref (s.heap.objs.size+1)) { s with heap:=h' }):wpAny (model prog w) A (call (.type "enumerate") [.ref l]) Q E s:=by
 refine callType_new F.called_enumerate (by decide) (F.typeCall_enumerate_1 _) (F.newCall_enumerate_1 _) (λobj=>F.args_object_init_2 obj _) F.entry_enumerate_new (qea k l xs) ⟨d,?_⟩;have b:(eh1 k s.heap l).objs.size=s.heap.objs.size+1:=Qz9 ..;have a:(eh2 k s.heap l).get? (eh1 k s.heap l).objs.size=Y _:=Qqf _ rfl;have f:k.It (eh2 k s.heap l) s.heap.objs.size l 0:=row_new.on λo e=>Qqz _ e;rw[b]at a;rw[b];exact⟨⟨_,a,rfl⟩,h _ ⟨b1,⟨_,a⟩,f⟩ λc o x=>Qqz _ (Qqz _ x)⟩
noncomputable def Ite(K:Qqq)(k:RK)(a:Y8):It:=
 ⟨λi H=>∃xs x,k.sq K H a xs/\xs[i]?=Y x,
  λi H v H'=>∃p x,v=.ref p/\H p=B/\H'=upd H p (.tup [.int i,x])/\∀xs,k.sq K H a xs->xs[i]?=Y x,
  λi H=>∃xs,k.sq K H a xs/\xs.length<=i⟩
noncomputable def fpE(n:Y1):L Y8:=[n+1,n]
def qb0{K:Qqq}(k)(n a):Turn P w K (.Tuple g c pos) (Ite K k a) (fpE n) (n+1) (EnAt k n a) where
 mem:=by simp[fpE]
 obj:=λi h st e F=>by
  obtain⟨b1,⟨old,d⟩,h1⟩:=st;simp only[fpE,Qqa,Qq4,or_false]at F;rcases F with rfl|rfl
  ·exact⟨_,d,λv z=>nomatch z⟩
  ·exact h1.obj
 keep:=λi h h' st q=>by
  obtain⟨b1,⟨old,d⟩,h1⟩:=st;exact⟨b1,⟨old,q _ (by simp[fpE]) _ d⟩,h1.on λo e=>q _ (by simp[fpE]) o e⟩
 item:=by
  intro X A t C hc i pins s σ H E I hf st y;subst A t C;obtain⟨xs,x,j,ex⟩:=y;obtain⟨b1,⟨old,d⟩,h1⟩:=st;obtain⟨Q,m,l⟩:=qq0 I j;obtain⟨R,u,p⟩:=m.get ex;refine qg8 d h1 l (by simpa using u) λh' U T S kp=>⟨_,rfl,?_⟩
  refine wpAny_letOwnedTupleGo_enum U λG c1 c2=>?_;have f:=c2.extBut;have lt:∀b∈fpE n,b≠s.heap.objs.size:=λb hb z=>by
   have q:b<s.heap.objs.size:=by
    simp only[fpE,Qqa,Qq4,or_false]at hb;rcases hb with rfl|rfl
    ·exact Qqb d
    ·obtain⟨o,e,_⟩:=h1.obj; exact Qqb e
   rw[z]at q;exact Qzo _ q
  have nz:s.heap.objs.size≠n+1:=λz=>lt (n+1) (by simp[fpE]) z.symm;have W:Inv X pins σ H { s with heap:=G,toks:=s.toks+1 }:=Inv.turnedL I (λb o hb e=>f _ _ (λz=>hb (by simp[fpE,z])) (kp b o (λz=>hb (by simp[fpE,z])) (λz=>hb (by simp[fpE,z])) e)) hf;have N:=I.hok.fresh (Qqj _);have V:Inv X pins σ (upd H s.heap.objs.size (.tup [.int i,x])) { s with heap:=G,toks:=s.toks+1 }:=Inv.track W (I.fpOk (Qqj _) N) ⟨by show 2<=sizeLine; decide,[.int i s.toks,R],.cons ⟨_,rfl⟩ (.cons p .nil),⟨_,f _ _ nz S,rfl,_,rfl⟩⟩;refine⟨.ref s.heap.objs.size,upd H s.heap.objs.size (.tup [.int i,x]),V,rfl,⟨_,x,rfl,N,rfl,λzs r=>?_⟩,⟨b1,⟨_,c1⟩,T.on λo e=>f _ o (Qqr (Qzb n)) e⟩,λb hb=>?_⟩
  ·rw[qk2 I r j]; exact ex
  ·rw[qzq (lt b hb)]; exact(hf b hb).1
 done:=by
  intro X A t C hc i pins s σ H E I hf st y;subst A t C;obtain⟨xs,j,D⟩:=y;obtain⟨b1,⟨old,d⟩,h1⟩:=st;obtain⟨Q,m,l⟩:=qq0 I j;have lx:=m.length;exact qey (I.ok.hd hc) d h1 l (by simp; lia) λh' kp=>⟨rfl,Inv.turnedL I (λb o hb e=>kp b o (λz=>hb (by simp[fpE,z])) e) hf⟩
 self:=λ_ _ _ _ _ st h=>by
  obtain⟨_,⟨old,d⟩,_⟩:=st;exact wpAny_pyIter_enum d h
noncomputable def iEnum(K:Qqq)(ta:TA):TI:=λσ H R=>ta σ H λvs H1=>∃(k:RK) (a:Y8),vs=[.ref a]/\(∃xs,k.sq K H1 a xs)/\R (Ite K k a) H1
def ql2(y:Gl X "enumerate")(x:X.mg "enumerate" = B)(z:PA X [a] j)(hs:starEach [a] X.env=[(Y7,Qb a X.env)]:=by rfl):
  PI X (.Tuple f c b) (.Call (.Name "enumerate" p) [a] [] pos) (iEnum X.K j):=by
 intro pins s σ H R I h;refine Call_ (qx3 I y x boot_enumerate (PyProof.Rows.callWith_type1 (thn (z pos pins s σ H _ I h) λC g ⟨vs,H1,i,t,v⟩=>?_) hs rfl));obtain⟨k,a,e,⟨xs,u⟩,q⟩:=v;subst e
 cases t with
 |cons r n=>
  cases n;cases r;obtain⟨A,D,l⟩:=qq0 i u;have la:a<g.heap.objs.size:=by
   cases k<;>(obtain⟨o,e,_⟩:=l; exact Qqb e)
  refine qbf l la λh' st kp=>?_;obtain⟨b1,⟨old,w⟩,h1⟩:=id st;refine wpAny_pyIter_enum w ?_;refine⟨g.heap.objs.size+1,fpE g.heap.objs.size,_,_,H1,rfl,i.kept kp,qb0 k _ a,st,λd hd=>?_,q⟩;have m:g.heap.objs.size<=d:=by
   simp only[fpE,Qqa,Qq4,or_false]at hd;rcases hd with rfl|rfl
   ·exact Qxv _
   ·exact Qqj _
  exact i.fpOk m (i.hok.fresh m)
def rv_next:Slot "reversed" "__next__" "reversed.__next__":=.of (owner:="reversed") (n:="__next__") (by rw[Zr,Zz]; kernel_rfl) (by decide +kernel) (by decide +kernel) (by decide +kernel) (.inl (by decide +kernel)) (by rw[Zf]; kernel_rfl)
def qch:Slot "reversed" "__iter__" "reversed.__iter__":=.of (owner:="reversed") (n:="__iter__") (by rw[Zr,Zz]; kernel_rfl) (by decide +kernel) (by decide +kernel) (by decide +kernel) (.inl (by decide +kernel)) (by rw[Zf]; kernel_rfl)
def qlh:Slot "reversed" "__init__" "object.__init__":=.of (owner:="object") (n:="__init__") (by rw[Zr,Zz]; kernel_rfl) (by decide +kernel) (by decide +kernel) (by decide +kernel) (.inl (by decide +kernel)) (by rw[Zf]; kernel_rfl)
def qyp:entryFor table "reversed.__next__" = Y Qs.«reversed.__next__»:=entryFor_of_tree (by kernel_rfl)
def qf3:entryFor table "reversed.__iter__" = Y Qs.«dict_keyiterator.__iter__»:=entryFor_alias (id':="dict_keyiterator.__iter__") (by kernel_rfl) (by first|rfl|decide +kernel) (by decide +kernel) (by kernel_rfl)
def qyr(a):argsOk "reversed.__next__" ⟨[a],[]⟩:=by unfold argsOk; kernel_rfl
def qf4(a):argsOk "reversed.__iter__" ⟨[a],[]⟩:=by unfold argsOk; kernel_rfl
def qci:TypeCalled "reversed" "reversed.__new__" "object.__init__":=⟨by decide +kernel,by decide +kernel,⟨_,_,F.mro_reversed⟩,F.made_reversed,by decide +kernel,F.sub_reversed_self,qlh⟩
def qb2:typeLookup (.type "tuple") "__reversed__" = pure none:=by rw[Zr,Zz]; kernel_rfl
abbrev IsRv(h:Heap)(it a:Y8)(i:J):Prop:=h.get? it=Y { cls:=.type "reversed",data:=.fields #[.ref a,rawInt i] }
def qf7(a)(xs)(i:(xs.size:J)<2 ^ 63):Meets (Qs.«reversed.__new__» ⟨[.type "reversed",.ref a],[]⟩) (λ_ R s=>s.heap.IsTuple a xs/\∀t,R (.ok (.ret (.ref s.heap.objs.size))) { s with heap:=s.heap.push { cls:=.type "reversed",data:=.fields #[.ref a,rawInt ((xs.size:J) - 1)] },toks:=t }):=
 .of_wp λprog w A R s h=>by
  obtain⟨j,g,d,tk,os⟩:=s;obtain⟨f,h⟩:=h;have b:Shared.TypeIs ⟨j,g,d,tk,os⟩ (.ref a) "tuple":=by obtain⟨o,e,c,_⟩:=f; exact⟨o,e,c⟩
  unfold Qs.«reversed.__new__»;refine Qq (Zy (newClass_reversed _) ?_)
  try dsimp only
  refine Qq (Zy (by first|rfl|kernel_rfl) ?_);refine Qq (Zy (by first|rfl|kernel_rfl) ?_)
  try dsimp only
  refine Qq (Qu b qb2 ?_)
  try dsimp only
  refine Qq ?_;refine Qq (Zj b PySem.F.sub_tuple_dict ?_);refine Qq (Qu b PySem.F.slot_tuple_getitem.lookup ?_);refine Zy (by rfl) ?_;refine Qq (PyProof.Rows.len_tuple f i ?_);refine Qq (Zy (by rfl) ?_)
  wp_walk
  exact⟨_,rfl,h _⟩
def RvAt(n l:Y1)(m i:Y1)(h:Heap):Prop:=l<n/\IsRv h n l ((m:J) - 1 - i)
section
def qen(a:s.heap.IsTuple l xs)(b:(xs.size:J)<2 ^ 63)(b1:l<s.heap.objs.size)(h:∀h' t,RvAt s.heap.objs.size l xs.size 0 h'->(∀c o,s.heap.get? c=Y o->h'.get? c=Y o)->Q (.ref s.heap.objs.size) { s with heap:=h',toks:=t }):wpAny (model prog w) A (call (.type "reversed") [.ref l]) Q E s:=by
 refine callType_new qci (by decide) (F.typeCall_reversed_1 _) (F.newCall_reversed_1 _) (λobj=>F.args_object_init_2 obj _) F.entry_reversed_new (qf7 l xs b) ⟨a,λt=>?_⟩;have g:IsRv (s.heap.push { cls:=.type "reversed",data:=.fields #[.ref l,rawInt ((xs.size:J) - 1)] }) s.heap.objs.size l ((xs.size:J) - 1):=Qqf _ rfl;exact⟨⟨_,g,rfl⟩,h _ t ⟨b1,by rw[show((xs.size:J) - 1 - ((0:Y1):J))=(xs.size:J) - 1 by lia]; exact g⟩ λc o x=>Qqz _ x⟩
def qlm{i:Y1}(a:IsRv s.heap n l i)(b:s.heap.IsTuple l xs)(k:(xs.size:J)<2 ^ 63)(d:xs[i]?=Y x)(j:∀h' t,IsRv h' n l ((i:J) - 1)->(∀c o,c≠n->s.heap.get? c=Y o->h'.get? c=Y o)->Q (Y x) { s with heap:=h',toks:=t }):wpAny (model prog w) A (pyNext (.ref n)) Q E s:=by
 have f:s.TypeIs (.ref n) "reversed":=⟨_,a,rfl⟩
 have h:s.TypeIs (.ref l) "tuple":=by obtain⟨o,e,c,_⟩:=b; exact⟨o,e,c⟩
 have hi:=(Qze.mp d).1;unfold pyNext;refine Qq (Q5 (Qc f rv_next (Qe rv_next f qyp ?_ (qyr _))));show wpAny _ _ (field (.ref n) 0 >>= _) _ _ _;refine Qq (Qw a rfl rfl ?_);refine Qq (Qw a rfl rfl ?_);show wpAny _ _ (if (i:J)<0 then _ else _) _ _ _;rw[Z7 (by lia)];refine Qq (Qu h PySem.F.slot_tuple_getitem.lookup ?_);refine Qq (wpAny_mkInt ?_);refine Qq (Q5 (getItem_tuple b (by lia) (by lia) (seqIndex_of (by lia) (by lia)) d ?_));refine Qq (Qw a rfl rfl ?_);refine Qq (Qy a (by simp) λg z u=>?_);exact Qx ⟨_,rfl,Qx (j g _ z u.extBut)⟩
def qf6(d:A.handled=B)(b:IsRv s.heap n l (-1))(j:∀h',(∀c o,c≠n->s.heap.get? c=Y o->h'.get? c=Y o)->Q B { s with heap:=h' }):wpAny (model prog w) A (pyNext (.ref n)) Q E s:=by
 have f:s.TypeIs (.ref n) "reversed":=⟨_,b,rfl⟩
 unfold pyNext;refine Qq (Q5 (Qc f rv_next (Qe rv_next f qyp ?_ (qyr _))));show wpAny _ _ (field (.ref n) 0 >>= _) _ _ _;refine Qq (Qw b rfl rfl ?_);refine Qq (Qw b rfl rfl ?_);show wpAny _ _ (if (-1:J)<0 then _ else _) _ _ _;rw[Z8 (by decide)];refine Qq (Zx ?_);refine Qq ?_;refine Qq (Qy b (by simp) λp g i=>?_);refine Qy g (by simp) λm k h=>?_;refine Qq ?_;refine Qq ?_; simp only[ newTuple];refine Qq (Qm ?_ (by size_fits)); refine Qq (Zy (by first|rfl|(simp only[firstArgMember]; rfl)) ?_);refine Qm ?_ (by size_fits); simp only[raiseNew];refine Qq (wpAny_handled ?_)
 first|rw[show A.in1.handled=B from d]|(rw[d])
 refine Qq (Qx (wpAny_throw ?_));refine Qq (Zj ⟨_,Qqf _ rfl,rfl⟩ isSubtype_stop ?_);exact Qx (j _ λc o a e=>Qqz _ (Qqz _ (h.extBut _ _ a (i.extBut _ _ a e))))
end
noncomputable def Itv(K:Qqq)(a:Y8)(m:Y1):It:=
 ⟨λi H=>∃xs x,SqT K H a xs/\xs.length=m/\i<m/\xs[m - 1 - i]?=Y x,
  λi H v H'=>H'=H/\∀xs,SqT K H a xs->xs[m - 1 - i]?=Y v,
  λi H=>m<=i⟩
def qfa{K:Qqq}(n a m:Y1)(hz:(m:J)<2 ^ 63):Turn P w K tg (Itv K a m) [n] n (λi h=>i<=m/\RvAt n a m i h) where
 mem:=by simp
 obj:=λi h st e c=>by
  simp only[Qqy]at c;subst c;exact⟨_,st.2.2,λv z=>nomatch z⟩
 keep:=λi h h' st q=>⟨st.1,st.2.1,q _ (by simp) _ st.2.2⟩
 item:=by
  intro X p f r hc i pins s σ H E I hf st j;subst p f r;obtain⟨xs,x,G,el,lt,ex⟩:=j;obtain⟨S,b1,c⟩:=st;obtain⟨W,F,R⟩:=qq0 (k:=.tup) I G;obtain⟨Q,g,d⟩:=F.get ex;have lx:=F.length;obtain⟨D,C,U,A,y,u⟩:=hf n (by simp);rw[show(m:J) - 1 - (i:J)=((m - 1 - i:Y1):J) by lia]at c;refine qlm c R (by simp; lia) (by simpa using g) λh' t z kp=>⟨Q,rfl,?_⟩
  have N:IsRv h' n a ((m:J) - 1 - ((i+1:Y1):J)):=by
   rw[show(m:J) - 1 - ((i+1:Y1):J)=((m - 1 - i:Y1):J) - 1 by lia];exact z
  have V:Inv X pins σ H { s with heap:=h',toks:=t }:=I.turned (λb o hb e=>kp b o hb e) D C A y u;refine qd8 z rfl rfl (by decide) ⟨x,H,V,d,⟨rfl,λys T=>by rw[qk2 (k:=.tup) I T G]; exact ex⟩,⟨by lia,b1,N⟩,λb hb=>(hf b hb).1⟩
 done:=by
  intro X p f r hc i pins s σ H E I hf st j;subst p f r;obtain⟨S,b1,c⟩:=st;have hi:m<=i:=j;obtain⟨D,C,U,A,y,u⟩:=hf n (by simp);rw[show(m:J) - 1 - (i:J)=-1 by lia]at c;exact qf6 (I.ok.hd hc) c λh' kp=>⟨rfl,I.turned (λb o hb e=>kp b o hb e) D C A y u⟩
 self:=λ_ _ s _ _ st h=>by
  have l:s.TypeIs (.ref n) "reversed":=⟨_,st.2.2,rfl⟩
  refine wpAny_pyIter_slot l qch (Qe qch l qf3 ?_ (qf4 _));exact Qx ⟨_,rfl,"reversed",_,l,rv_next.lookup,h⟩
noncomputable def iRev(K:Qqq)(ta:TA):TI:=λσ H R=>ta σ H λvs H1=>∃(a:Y8) (xs:L V),vs=[.ref a]/\SqT K H1 a xs/\R (Itv K a xs.length) H1
def pi_rev(z:Gl X "reversed")(y:X.mg "reversed" = B)(A:PA X [a] g)(hs:starEach [a] X.env=[(Y7,Qb a X.env)]:=by rfl):
  PI X tg (.Call (.Name "reversed" p) [a] [] pos) (iRev X.K g):=by
 intro pins s σ H R I h;refine Call_ (qx3 I z y boot_reversed (PyProof.Rows.callWith_type1 (thn (A pos pins s σ H _ I h) λC b ⟨vs,H1,c,m,u⟩=>?_) hs rfl));obtain⟨a,xs,e,n,q⟩:=u;subst e
 cases m with
 |cons r l=>
  cases l;cases r;obtain⟨f,k,i,x⟩:=c.tuple n;have la:a<b.heap.objs.size:=by obtain⟨o,e,_⟩:=i; exact Qqb e
  have v:=k.length;have j:(f.toArray.size:J)<2 ^ 63:=by simp; unfold sizeLine at x; lia
  refine qen (i) j la λh' t st kp=>?_;have st':RvAt b.heap.objs.size a xs.length 0 h':=by rw[v]; simpa using st
  have T:=qfa (P:=X.prog) (w:=X.w) (K:=X.K) (tg:=tg) b.heap.objs.size a xs.length (by simp at j; lia);refine T.self _ 0 { b with heap:=h',toks:=t } _ _ ⟨Qq8 _,st'⟩ ?_;refine⟨b.heap.objs.size,[b.heap.objs.size],_,_,H1,rfl,c.kept kp,T,⟨Qq8 _,st'⟩,λd hd=>?_,q⟩;simp only[Qqy]at hd;subst hd;exact c.fpOk (Qqj _) (c.hok.fresh (Qqj _))
end MS
end
section
namespace MS
open PySem PySem.Spec PyProof.Rows L2
open M (D Yb Y2 Sl)
def qdr(k:L J):(k.map (Sum.inl:J->Key)).map kV=k.map V.int:=by rw[Qq7]; rfl
theorem qh8{K:Qqq}:∀k:L J,IsDs K m H (k.map .int) (k.map V.int)
 |[]=>qqz
 |_::r=>qzm (mkInt _) (qh8 r)
def qi7{K:Qqq}(c:IsKT K m H kvs xs)(f:Rd H a (.dT xs))(e:MS.IsD K m H (.fup k) y):
  ∃o,DGet H a y o/\((M.tget kvs k=B/\o=B)\/∃d v,M.tget kvs k=Y d/\o=Y v/\MS.IsD K m H d v):=by
 obtain⟨b,rfl,hb⟩:=e.fup;refine⟨valV xs (k.map Sum.inl),.inr ⟨xs,k.map Sum.inl,b,f,rfl,by rw[qdr]; exact hb,rfl⟩,?_⟩;rcases c.get k with⟨h1,h2⟩|⟨d,v,h1,h2,g⟩
 ·exact .inl ⟨h1,h2⟩
 ·exact .inr ⟨d,v,h1,h2,g⟩
def Tr.putT(a:H p=Y (.dT xs)):Tr H (upd H p (.dT ys)):=
 ⟨λb zs e=>by rw[qzq (qzs e a (by intro z; cases z))]; exact e,λb o u e=>by rw[qzq (qzs e a (by intro z; cases z))]; exact e⟩
section
def qc2(r:X.A.units+1<cLine)(neg)(t:PE X a (tD X.K i))(hb:PE X b (tD X.K f)):
  PC X (if neg then .NotIn else .In) a b (tD X.K λτ st=>(i τ st).bind λp=>(f τ p.2).bind λq=>match p.1,q.1 with
   |.fup k,.loc l=>(M.tdcAt q.2 l).map λkvs=>(.bl ((M.tget kvs k).isSome != neg),q.2)
   |_,_=>B):=by
 have c:∀{σ:L2.St}{H:Hp}{Q:VK},tD X.K (λτ st=>(i τ st).bind λp=>(f τ p.2).bind λq=>match p.1,q.1 with
   |.fup k,.loc l=>(M.tdcAt q.2 l).map λkvs=>(.bl ((M.tget kvs k).isSome != neg),q.2)
   |_,_=>B) σ H Q->tD X.K i σ H λy H1=>tD X.K f σ H1 λx H2=>∃a o,x=.ref a/\DGet H2 a y o/\Q (.bl (o.isSome != neg)) H2:=by
  intro σ H Q h;refine h.el λm st τ d st' U u e q=>qzj e λR W N e=>qzj e λP V K e=>rsI U u N λy m1 H1 b1 t1 T C=>rsI T (u.mono b1 t1) K λz w H2 b2 t2 R2 A=>?_
  cases R with
  |fup k=>
   cases P with
   |loc l=>
    refine qzd e λkvs G n=>?_;cases n;obtain⟨S,xs,_,rfl,F,j⟩:=R2.tdict G A;obtain⟨o,g,E⟩:=qi7 j F (qzw b2 t2 _ _ C);refine⟨S,o,rfl,g,?_⟩;have n:o.isSome=(M.tget kvs k).isSome:=by
     rcases E with⟨h1,h2⟩|⟨d,v,h1,h2,_⟩
     ·rw[h1,h2]; rfl
     ·rw[h1,h2]; rfl
    rw[n];exact q _ w H2 (b1.trans b2) (t1.trans t2) R2 (mkBl _)
   |_=>exact nn e
  |_=>exact nn e
 cases neg with
 |false=>
  intro pins s σ H Q I h;refine qh5 r t hb pins s σ H Q I ?_;have:=c h;simpa only[tDIn,Bool.bne_false] using this
 |true=>
  intro pins s σ H Q I h;refine qvu r t hb pins s σ H Q I ?_;have:=c h;simpa only[qwp,Bool.bne_true] using this
def ql5(g:PE X b (tD X.K c)):PE X b (tD X.K λτ st=>(c τ st).bind λp=>match p.1 with
   |.fup ks=>Y (.tup (ks.map .int),p.2)
   |_=>B):=by
 refine g.imp λσ H Q h=>h.el λm st τ d st' o l e q=>qzj e λk r j e=>rsI o l j λy m1 H1 b1 t1 n f=>?_
 cases k with
 |fup ks=>
  have q:=q.of e;obtain⟨a,rfl,i⟩:=f.fup;exact q _ m1 H1 b1 t1 n (qqu (SqT.of i) (qh8 ks))
 |_=>exact nn e
def rSlT'(K:Qqq):V->Y4 J->Y4 J->Hp->VK->Prop:=λx lo hi H Q=>∃m st ds ks,Rel K m st H/\MS.IsD K m H (.tup ds) x/\M.asInts (M.cut ds lo hi)=Y ks/\ks.length<ds.length/\Post K m H (.fup ks) st Q
def sl_T:SlR X (rSlT' X.K):=by
 intro pins s σ H x v vl g lo hi sl Q I i hs pl j h;obtain⟨m,st,ds,ks,w,n,e,z,q⟩:=h;obtain⟨p,xs,rfl,r,d⟩:=n.tup;have l:=qef d lo hi;obtain⟨a,_⟩:=ints_of e l;have k:=d.length;refine qht pins s σ H _ v vl g lo hi sl Q I i hs pl j ⟨p,xs,rfl,r,λf=>?_,λy t=>?_⟩
 ·have u:cutV xs lo hi=xs:=by
   unfold cutV;rw[f.1,f.2];simp
  rw[u]at a;rw[a,Qqx]at k
  lia
 ·rw[a];have c:=qzv (o:=.tup (ks.map V.int)) t;exact q _ m _ (Sub.refl m) (Tr.of_same c) (w.same c) (qgo qzk)
end
end MS
end
section
namespace MS
open PySem
noncomputable def nd:Y1->L J->Yc
 |0,l=>decide (l.length<=1)
 |k+1,l=>match l with
  |[]=>Z
  |[_]=>Z
  |l=>nd k (l.filter λa=>decide (a % 2 ^ (k+1)<2 ^ k))&&nd k (l.filter λa=>!decide (a % 2 ^ (k+1)<2 ^ k))
def nd_ok:∀{k}{l},nd k l=Z->l.Nodup:=λ{k}=>by
 have one:∀{l:L J},l.length<=1->l.Nodup:=λ{l} h=>by
  cases l with
  |nil=>exact .nil
  |cons a r=>
   cases r with
   |nil=>exact Qzj.mpr ⟨Qq4,.nil⟩
   |cons=>simp at h
 induction k with
 |zero=>exact λ{l} h=>one (of_decide_eq_true h)
 |succ k e=>
  intro l h;have d:(nd k (l.filter λa=>decide (a % 2 ^ (k+1)<2 ^ k))&&nd k (l.filter λa=>!decide (a % 2 ^ (k+1)<2 ^ k)))=Z->l.Nodup:=λh=>by
   rw[Qqn]at h;have h1:=e h.1;have h2:=e h.2;rw[List.nodup_iff_count]at h1 h2 ⊢;intro a
   by_cases c:decide (a % 2 ^ (k+1)<2 ^ k)=Z
   ·have:=h1 a; rwa [List.count_filter (p:=λa=>decide (a % 2 ^ (k+1)<2 ^ k)) c]at this
   ·have:=h2 a; rwa [List.count_filter (p:=λa=>!decide (a % 2 ^ (k+1)<2 ^ k)) (by rw[Bool.not_eq_true]at c; show(!decide (a % 2 ^ (k+1)<2 ^ k))=Z; rw[c]; rfl)]at this
  match l,h,d with
  |[],_,_=>exact .nil
  |[_],_,_=>exact one (Qqj _)
  |a::b::r,h,d=>exact d h
noncomputable def spQ(p:Y1×Y1×Y1):Bool:=(Nat.blt p.1 24&&Nat.blt p.2.1 3&&Nat.blt p.2.2 3)||(Nat.blt p.1 3&&Nat.blt p.2.1 24&&Nat.blt p.2.2 3)||(Nat.blt p.1 3&&Nat.blt p.2.1 3&&Nat.blt p.2.2 13)||(Nat.blt p.1 6&&Nat.blt p.2.1 6&&Nat.blt p.2.2 6)
noncomputable def hS(p:Y1×Y1×Y1):Int:=Zs (Builtin.Tuple.tupleHashOf [(p.1:J),(p.2.1:J),(p.2.2:J)])
noncomputable def allK:L (Y1×Y1×Y1):=((List.range 24).flatMap λx=>(List.range 24).flatMap λy=>(List.range 13).map λz=>(x,y,z)).filter spQ
def qnu:(allK.map hS).Nodup:=nd_ok (k:=64) (by decide +kernel)
theorem qd1{α d:Type}{g:α->d}:∀{l:L α},(l.map g).Nodup->∀{a b:α},a∈l->b∈l->g a=g b->a=b
 |[],_,_,_,h,_,_=>(Qq4 h).elim
 |c::r,n,a,b,f,hb,e=>by
  rw[Qqh,Qzj]at n;rcases Qqa.mp f with h1|h1
  ·rcases Qqa.mp hb with h2|h2
   ·rw[h1,h2]
   ·exact absurd (Qqv.mpr ⟨b,h2,by rw[<- e,h1]⟩) n.1
  ·rcases Qqa.mp hb with h2|h2
   ·exact absurd (Qqv.mpr ⟨a,h1,by rw[e,h2]⟩) n.1
   ·exact qd1 n.2 h1 h2 e
def qhs(h:spQ p=Z):p∈allK:=by
 refine Qxa.mpr ⟨?_,h⟩;obtain⟨x,y,z⟩:=p;unfold spQ at h;simp only[Qza,Qqn,Qkw]at h;exact List.mem_flatMap.mpr ⟨x,Qzl.mpr (by lia),List.mem_flatMap.mpr ⟨y,Qzl.mpr (by lia),Qqv.mpr ⟨z,Qzl.mpr (by lia),rfl⟩⟩⟩
def hS_inj(h:spQ p=Z)(k:spQ q=Z)(e:hS p=hS q):p=q:=qd1 qnu (qhs h) (qhs k) e
end MS
end
section
namespace MS
open PySem PySem.Spec PyProof.Rows L2
section
def mergeH(g:d≠o)(hs:(o==Qg)=Y7)(l:s.heap.get? o=Y ob)(c:ob.data=.dict es ep)(hd:s.heap.get? d=Y j)(f:j.data=.dict #[] 0)(k:∀e∈es.toList,∃b,e.key=.ref b/\s.TypeIs (.ref b) "tuple")(r:∀e∈es.toList,(es.filter λx=>x.hash==e.hash).size<=1)(a:0<es.size)(p:es.size<=sizeLine)(t:Q () { s with heap:=s.heap.update d (Obj.mapDictKeys λ_=>es) }):wpAny (model prog w) A (Builtin.Dict.mergeDict n d o) Q E s:=by
 unfold Builtin.Dict.mergeDict;rw[Z7 (by simpa using g)];refine Qq ?_;unfold Builtin.Dict.showsAll;rw[Z7 (by rw[hs]; nofun)];refine Qx (Qq (wpAny_dictEntries l c ?_));have few:(decide (es.size<=8)&&es.all λe=>(keyPart e.key).isSome)=false:=by
  rw[Bool.and_eq_false_iff];refine .inr ?_;rw[Bool.eq_false_iff];intro h;have m:=Array.all_eq_true.mp h 0 a;obtain⟨b,i,_⟩:=k es[0] (by simp);rw[i]at m;cases m
 simp only[few];rw[Z8 (show(!Y7)=Z from rfl)];refine Qq (wpAny_dictEntries hd f ?_);rw[Z8 (show(#[]:Array Qo).isEmpty=Z from rfl)];refine Qq ?_;unfold Builtin.Dict.entriesForEmpty;refine Qq (wpAny_dictEntries l c ?_);refine Qq (wpAny_forIn_array' _ (λrest _ s'=>s'=s/\∀e∈rest,e∈es.toList) _ (λe rest b s' h=>?_) (λb s' h=>?_) es PUnit.unit ⟨rfl,λe h=>h⟩)
 ·obtain⟨rfl,h⟩:=h;obtain⟨b,i,u⟩:=k e (h e (Qq2 ..));refine Qq ?_;rw[i];unfold Builtin.Dict.quietEq;refine Qq (Qu u F.slot_tuple_eq.lookup ?_);refine Qx ?_;rw[Z8 (show(!Y (Value.builtin "tuple.__eq__")==Y (Value.builtin "object.__eq__"))=Z by decide),Z7 (Nat.not_lt.mpr (r e (h e (Qq2 ..))))];exact Qx ⟨rfl,λx q=>h x (Qqs _ q)⟩
 ·obtain⟨rfl,_⟩:=h;refine Qx ?_;rw[Z8 (by rw[Bool.not_eq_true',Array.isEmpty_eq_false_iff]; exact λz=>by rw[z]at a; exact absurd a (Qzo 0))];exact Qq (wpAny_updateDictKeysTo hd f (Qx t) (Qxj p))
end
section
def newH(a):Meets (Qs.«dict.__new__» ⟨[.type "dict",.ref a],[]⟩) (λ_ R s=>R (.ok (.ret (.ref s.heap.objs.size))) { s with heap:=s.heap.push { cls:=.type "dict",data:=.dict #[] } }):=
 .of_wp λprog w A R s h=>by
  obtain⟨c,g,d,tk,os⟩:=s;have b:=F.kt_sub_dict
  wp_walk
  exact⟨_,rfl,h⟩
def initH(d o)(k ob)(es)(ep):Meets (Qs.«dict.__init__» ⟨[.ref d,.ref o],[]⟩) (λ_ R s=>s.TypeIs (.ref d) "dict"/\d≠o/\(o==Qg)=Y7/\s.heap.get? o=Y ob/\ob.cls=.type "dict"/\ob.data=.dict es ep/\s.heap.get? d=Y k/\k.data=.dict #[] 0/\
  (∀e∈es.toList,∃b,e.key=.ref b/\s.TypeIs (.ref b) "tuple")/\(∀e∈es.toList,(es.filter λx=>x.hash==e.hash).size<=1)/\0<es.size/\es.size<=sizeLine/\R (.ok (.ret .none)) { s with heap:=s.heap.update d (Obj.mapDictKeys λ_=>es) }):=
 .of_wp λprog w A R s h=>by
  obtain⟨tD,i,hs,l,f,c,hd,j,n,p,g,m,q⟩:=h;have a:s.TypeIs (.ref o) "dict":=⟨ob,l,f⟩
  unfold Qs.«dict.__init__»;refine Qq ?_;unfold Builtin.Dict.selfAndRest;refine Qq (wpAny_notOrdered_dict tD ?_);refine Qq (Qx (Qx ?_));show wpAny _ _ (Builtin.Dict.updateCommon "dict.__init__" "dict" d [.ref o] []) _ _ s;unfold Builtin.Dict.updateCommon;show wpAny _ _ (Builtin.Dict.updateFrom "dict.__init__" d (.ref o) [] .none) _ _ s;unfold Builtin.Dict.updateFrom;refine Qq (Zp a ?_);rw[Z7 (by decide)];refine Qq ?_;unfold Builtin.Dict.merge;refine Qq ?_;unfold Builtin.Dict.readDirectly;refine Qq (Zj a F.sub_dict_dict ?_);rw[Z7 (by decide)];refine Qq (Qu a F.slot_dict_iter.lookup (Qx ?_));rw[Z8 (by decide)];refine Qq (Qx (mergeH i hs l c hd j n p g m ?_));refine Qq ?_;unfold Builtin.Dict.addKeywords;exact Qq (Qx (Qx (Qx ⟨_,rfl,q⟩)))
def callH(hs:(o==Qg)=Y7)(g:s.heap.get? o=Y ob)(d:ob.cls=.type "dict")(c:ob.data=.dict es ep)(j:∀e∈es.toList,∃b,e.key=.ref b/\s.TypeIs (.ref b) "tuple")(k:∀e∈es.toList,(es.filter λx=>x.hash==e.hash).size<=1)(f:0<es.size)(i:es.size<=sizeLine)(m:Q (.ref s.heap.objs.size) { s with heap:=(s.heap.push { cls:=.type "dict",data:=.dict #[] }).update s.heap.objs.size (Obj.mapDictKeys λ_=>es) }):wpAny (model prog w) A (call (.type "dict") [.ref o]) Q E s:=
 callType_meets (Q₁:=λv a=>v=.ref s.heap.objs.size/\a={ s with heap:=s.heap.push { cls:=.type "dict",data:=.dict #[] } }) F.kt_called_dict (F.kt_typeCall_dict_1 _) (F.kt_newCall_dict_1 _) F.kt_entry_dict_new F.entry_dict_init (newH o) ⟨rfl,rfl⟩ λobj a h=>by
  obtain⟨rfl,rfl⟩:=h;have hn:(s.heap.push { cls:=.type "dict",data:=.dict #[] }).get? s.heap.objs.size=Y { cls:=.type "dict",data:=.dict #[] }:=Qqf _ rfl;have keep:∀{b:Y8}{x:Obj},s.heap.get? b=Y x->(s.heap.push { cls:=.type "dict",data:=.dict #[] }).get? b=Y x:=λe=>Qqz _ e;refine⟨⟨_,hn,rfl⟩,F.args_dict_init_2 _ _,_,initH s.heap.objs.size o _ ob es ep,⟨_,hn,rfl⟩,λz=>Qzo _ (z▸Qqb g),hs,keep g,d,c,hn,rfl,λe l=>?_,k,f,i,rfl,m⟩;obtain⟨b,q,x,p,n⟩:=j e l;exact⟨b,q,x,keep p,n⟩
end
section
def qn2(w:Qk)(kvs:L (L Key×V)):Prop:=(kvs.map λp=>Zs (Builtin.Tuple.tupleHashOf (p.1.map (keyH w)))).Nodup
def qiz(h:KT H kvs xs):xs.map (·.1)=kvs.map (·.1):=by
 induction h with
 |nil=>rfl
 |cons r _ b=>rw[Qqh,Qqh,b,r.1]
def qg6{α:Type}(g:α->J):∀{l:L α},(l.map g).Nodup->∀x∈l,(l.filter λy=>g y==g x).length<=1:=λ{l} h x b=>by
 rw[<- List.countP_eq_length_filter,show(λy=>g y==g x)=(λz=>z==g x)∘g from rfl,<- List.countP_map];exact List.nodup_iff_count.mp h (g x)
def qnl(I:Inv X pins σ H s)(e:Rd H a (.dT kvs))(w:qn2 X.w kvs)(T:0<kvs.length)(h:∀p s',H p=B->Inv X pins σ (upd H p (.dT kvs)) s'->Q (.ref p) s'):wpAny (model X.prog X.w) A (call (.type "dict") [.ref a]) Q E s:=by
 obtain⟨z,hs,xs,g,o,es,F,R,P,N,f,K,G⟩:=qkq I.hok e;have j:xs.length=kvs.length:=(Paired.length g).symm;have S:es.size=kvs.length:=by rw[<- Qzd,f,Qqx,j]
 have fresh:=I.hok.fresh (Qqj s.heap.objs.size);have c:(es.toList.map (·.hash)).Nodup:=by
  rw[f,Qq7];have:(xs.map ((λx:Qo=>x.hash)∘entryOfKey (tupleKind (mixKind X.prog X.w))))=kvs.map λp=>Zs (Builtin.Tuple.tupleHashOf (p.1.map (keyH X.w))):=by
   have:=congrArg (List.map λk:L Key=>Zs (Builtin.Tuple.tupleHashOf (k.map (keyH X.w)))) (qiz g);rw[Qq7,Qq7]at this;exact this
  rw[this];exact w
 refine callH (ob:=o) (es:=es) (ep:=F) hs R P.1 N (λx d=>?_) (λx d=>?_) (by lia) (by lia) ?_
 ·rw[f]at d;obtain⟨y,v,rfl⟩:=Qqv.mp d;obtain⟨o',t,n,D,C,_⟩:=K y v;exact⟨y.2.1,rfl,o',D,C⟩
 ·have:=qg6 (λx:Qo=>x.hash) c x d;rwa [<- Array.toList_filter,Qzd]at this
 ·refine h _ _ fresh (I.laid (a:=s.heap.objs.size) (o:=.dT kvs) (t':=s.toks) (λb q i=>?_) (Qqj _) ⟨z,beq_eq_false_iff_ne.mpr (Ne.symm (Qqr I.big)),xs,?_,_,es,1,Qxn _ (Qqf _ rfl) rfl,⟨rfl,rfl,rfl⟩,rfl,f,G⟩)
  ·exact((Heap.SameBut.update ..).2 b (Qqr (Qqb i))).trans (Qqz _ i)
  ·have:∀{l:L (L Key×V)}{m:L (L Key×Y8×Y9)},KT H l m->Paired (λ(p:L Key×V) (q:L Key×Y8×Y9)=>p.1=q.1/\upd H s.heap.objs.size (.dT kvs) q.2.1=Y (.tup (p.1.map kV))/\RelV p.2 q.2.2) l m:=λh=>by
    induction h with
    |nil=>exact .nil
    |cons r _ u=>exact .cons ⟨r.1,by rw[qzq (qzg r.2.1 fresh)]; exact r.2.1,r.2.2⟩ u
   exact this g
end
section
def qnm(I:Inv X pins σ H s)(e:Rd H a (.dT []))(h:∀p s',H p=B->Inv X pins σ (upd H p (.dT [])) s'->Q (.ref p) s'):wpAny (model X.prog X.w) A (call (.type "dict") [.ref a]) Q E s:=by
 obtain⟨z,hs,xs,m,o,es,v,C,y,x,w,F,D⟩:=qkq I.hok e;cases m;have fresh:=I.hok.fresh (Qqj s.heap.objs.size);refine kt_call_dict (knd:=mixKind X.prog X.w) (more:=[]) hs ?_ (Qq8 _) λh' f l=>?_
 ·have k:es.toList=[]:=w;refine⟨o,es,v,C,y,x,λe i=>?_,?_,.nil⟩
  ·rw[<- Array.mem_toList_iff,k]at i; cases i
  ·rw[k]; exact .nil
 ·refine h _ _ fresh (I.laid (a:=s.heap.objs.size) (o:=.dT []) (t':=s.toks) (λb q g=>?_) (Qqj _) ⟨z,beq_eq_false_iff_ne.mpr (Ne.symm (Qqr I.big)),[],.nil,?_⟩)
  ·exact(l.2 b (Qqr (Qqb g))).trans (Qqz _ g)
  ·obtain⟨o',c,d,u,t,r,_,j,_⟩:=f;refine⟨o',c,d,u,t,r,?_,.nil⟩
   cases n:c.toList with
   |nil=>rfl
   |cons=>rw[n]at j; cases j
end
def qcb(h:M.spotK k=Z):∃p:Y1×Y1×Y1,spQ p=Z/\k=[(p.1:J),(p.2.1:J),(p.2.2:J)]:=by
 unfold M.spotK at h
 split at h
 ·rename_i x y z;simp only[Qza,Qqn,decide_eq_true_eq]at h;refine⟨(x.toNat,y.toNat,z.toNat),?_,?_⟩
  ·unfold spQ;simp only[Qza,Qqn,Qkw]
   lia
  ·rw[Int.toNat_of_nonneg h.1.1.1,Int.toNat_of_nonneg h.1.1.2,Int.toNat_of_nonneg h.1.2]
 ·cases h
def qwt:∀k:Y1,k<24->hashInt (k:J)=k:=by decide +kernel
def th_of(h:spQ p=Z):Zs (Builtin.Tuple.tupleHashOf (([(p.1:J),(p.2.1:J),(p.2.2:J)].map (Sum.inl:J->Key)).map (keyH w)))=hS p:=by
 have:p.1<24/\p.2.1<24/\p.2.2<24:=by
  unfold spQ at h;simp only[Qza,Qqn,Qkw]at h
  lia
 show Zs (Builtin.Tuple.tupleHashOf [hashInt p.1,hashInt p.2.1,hashInt p.2.2])=_;rw[qwt _ this.1,qwt _ this.2.1,qwt _ this.2.2]
 rfl
def qbw(c:(xs.map (·.1)).Nodup)(d:∀p∈xs,∃k:L J,p.1=k.map Sum.inl/\M.spotK k=Z):qn2 w xs:=by
 unfold qn2
 induction xs with
 |nil=>exact .nil
 |cons a r j=>
  rw[Qqh,Qzj]at c ⊢;refine⟨λz=>?_,j c.2 λp l=>d p (.tail _ l)⟩;obtain⟨b,hb,e⟩:=Qqv.mp z;obtain⟨n,g,i⟩:=d a (.head _);obtain⟨m,f,h⟩:=d b (.tail _ hb);obtain⟨p,sp,rfl⟩:=qcb i;obtain⟨q,sq,rfl⟩:=qcb h;rw[g,f,th_of sp,th_of sq]at e;have:=hS_inj sq sp e;subst this;exact c.1 (Qqv.mpr ⟨b,hb,f.trans g.symm⟩)
end MS
end
section
namespace MS
open PySem PySem.Spec PyProof.Rows L2
open M (D Yb Y2 Sl)
theorem qdh{K:Qqq}:∀{kvs}{xs},IsKT K m H kvs xs->(kvs.all λp=>M.spotK p.1)=Z->∀p∈xs,∃k:L J,p.1=k.map Sum.inl/\M.spotK k=Z
 |[],_,h,_,p,b=>by cases h; cases b
 |q::r,_,⟨v,c,rfl,_,hr⟩,a,p,b=>by
  rw[Qzi,Qqn]at a;rcases Qqa.mp b with rfl|b
  ·exact⟨q.1,rfl,a.1⟩
  ·exact qdh hr a.2 p b
def qbg:qqh X (.type "dict") (rC X.K M.bDict):=by
 intro pins s σ H xs A Q I r h;refine h.el λm st ds d st' b t e q=>?_;unfold M.bDict at e
 split at e
 ·rename_i l;obtain⟨x,rfl,i⟩:=t.one;obtain⟨u,rfl,n⟩:=vals1 r
  split at e
  ·rename_i w kvs hc;have q:=q.of e;obtain⟨p,ys,_,rfl,c,j⟩:=b.dict (kvs:=kvs) (by unfold M.dicAt; rw[hc]) i;cases n;exact qhv I c λl s' a k=>⟨.ref l,_,k,rfl,q _ (m++[l]) _ (Sub.app m [l]) (Tr.of_same (qzv a)) (b.newD a j) b.newLoc⟩
  ·rename_i w kvs hc
   split at e
   ·rename_i v;have q:=q.of e;obtain⟨p,ys,_,rfl,c,f⟩:=b.tdict (kvs:=kvs) (by unfold M.tdcAt; rw[hc]) i;cases n;have g:∀l s',H l=B->Inv X pins σ (upd H l (.dT ys)) s'->∃x H',Inv X pins σ H' s'/\RelV x (.ref l)/\Q x H':=λl s' a k=>⟨.ref l,_,k,rfl,q _ (m++[l]) _ (Sub.app m [l]) (Tr.of_same (qzv a)) (b.newC a (λ_=>trivial) ⟨ys,qzk,qqb (Sub.app m [l]) (Tr.of_same (qzv a)).w kvs ys f⟩) b.newLoc⟩
    obtain⟨_,_,zs,o,_,_,_,_,_,_,_,_,nd⟩:=qkq I.hok c;rw[qiz o]at nd
    cases ys with
    |nil=>exact qnm I c g
    |cons y z=>exact qnl I c (qbw nd (qdh f v)) (Qxo _) g
   ·exact nn e
  ·exact nn e
 ·exact nn e
end MS
end
section
namespace ST
open PySem SetTable
noncomputable def adv(m:Y1)(p:Probe):Probe:=
 if p.more > 0 then { p with j:=p.j+1,more:=p.more - 1 } else
 { p with j:=(leap m p.i p.perturb).1,more:=runEnd m (leap m p.i p.perturb).1 - (leap m p.i p.perturb).1,i:=(leap m p.i p.perturb).1,perturb:=(leap m p.i p.perturb).2 }
noncomputable def qzp(m:Y1)(h:J):Probe:={ j:=bits h % (m+1),more:=runEnd m (bits h % (m+1)) - bits h % (m+1),i:=bits h % (m+1),perturb:=bits h,dummy:=B }
noncomputable def stp(m:Y1):Y1->Probe->Probe
 |0,p=>p
 |n+1,p=>stp m n (adv m p)
theorem qqc(m):∀(a b:Y1) (p:Probe),stp m (a+b) p=stp m b (stp m a p)
 |0,b,p=>by rw[Qx4]; rfl
 |a+1,b,p=>by rw[Nat.add_right_comm]; exact qqc m a b (adv m p)
def qfs(m n)(p):stp m (n+1) p=adv m (stp m n p):=by rw[qqc]; rfl
noncomputable def runP(m i pt:Y1)(d:Y4 Y1):Probe:={ j:=i,more:=runEnd m i - i,i:=i,perturb:=pt,dummy:=d }
theorem qka(m):∀(k:Y1) (p:Probe),p.more=k->stp m (k+1) p=runP m (leap m p.i p.perturb).1 (leap m p.i p.perturb).2 p.dummy
 |0,p,h=>by
  show adv m p=_;unfold adv;rw[Z7 (by lia)]; rfl
 |k+1,p,h=>by
  show stp m (k+1) (adv m p)=_;have e:adv m p={ p with j:=p.j+1,more:=p.more - 1 }:=by unfold adv; rw[Z8 (by lia)]
  rw[e,qka m k _ (by show p.more - 1=k; lia)]
noncomputable def lp(m:Y1):Y1->Y1×Y1->Y1×Y1
 |0,q=>q
 |n+1,q=>lp m n (leap m q.1 q.2)
def more_le(m i):runEnd m i - i<=9:=by unfold runEnd; split<;>lia
theorem qys(m)(d):∀(n i pt:Y1),∃N,N<=10*n/\stp m N (runP m i pt d)=runP m (lp m n (i,pt)).1 (lp m n (i,pt)).2 d
 |0,i,pt=>⟨0,Qqj _,rfl⟩
 |n+1,i,pt=>by
  obtain⟨N,a,e⟩:=qys m d n (leap m i pt).1 (leap m i pt).2;refine⟨(runP m i pt d).more+1+N,?_,?_⟩
  ·have:=more_le m i;show runEnd m i - i+1+N<=_
   lia
  ·rw[qqc,qka m _ _ rfl];exact e
theorem lp_pt(m):∀(n i pt:Y1),(lp m n (i,pt)).2=pt / 32 ^ n
 |0,i,pt=>by simp[lp]
 |n+1,i,pt=>by
  show(lp m n (leap m i pt)).2=_;have:leap m i pt=((leap m i pt).1,pt / 32):=rfl;rw[this,lp_pt m n,Nat.div_div_eq_div_mul,Nat.pow_succ,Nat.mul_comm]
theorem qh9(m):∀(a b:Y1) (q:Y1×Y1),lp m (a+b) q=lp m b (lp m a q)
 |0,b,q=>by rw[Qx4]; rfl
 |a+1,b,q=>by rw[Nat.add_right_comm]; exact qh9 m a b _
theorem lp_le(m):∀(n i pt:Y1),i<=m->(lp m n (i,pt)).1<=m
 |0,i,pt,h=>h
 |n+1,i,pt,h=>by
  exact lp_le m n _ _ (Qxk (Qjd _ (Qxo _)))
noncomputable def lcg(m:Y1):Y1->Y1->Y1
 |0,i=>i
 |n+1,i=>lcg m n ((i*5+1) % (m+1))
theorem qda(m):∀(n i:Y1),(lp m n (i,0)).1=lcg m n i
 |0,i=>rfl
 |n+1,i=>by
  show(lp m n (leap m i 0)).1=_;have:leap m i 0=((i*5+1) % (m+1),0):=by simp[leap]
  rw[this,qda m n]; rfl
def onto7:∀i,i<8->∀e,e<8->∃r,r<8/\lcg 7 r i=e:=by decide +kernel
def onto31:∀i,i<32->∀e,e<32->∃r,r<32/\lcg 31 r i=e:=by decide +kernel
def onto(a:m=7\/m=31)(b:i<=m)(c:e<=m):∃r,r<=m/\lcg m r i=e:=by
 rcases a with rfl|rfl
 ·obtain⟨r,h,q⟩:=onto7 i (by lia) e (by lia); exact⟨r,by lia,q⟩
 ·obtain⟨r,h,q⟩:=onto31 i (by lia) e (by lia); exact⟨r,by lia,q⟩
def qyt(g:m=7\/m=31)(d)(h:i<=m)(f:pt<2 ^ 64)(j:e<=m):∃n N,n<=m+13/\N<=10*n/\stp m N (runP m i pt d)=runP m e (lp m n (i,pt)).2 d/\(lp m n (i,pt)).1=e:=by
 have c:(lp m 13 (i,pt)).2=0:=by
  rw[lp_pt]; exact Nat.div_eq_of_lt (Qq3 f (by decide))
 obtain⟨r,hr,l⟩:=onto g (lp_le m 13 i pt h) j;have b:(lp m (13+r) (i,pt)).1=e:=by
  rw[qh9];have:lp m 13 (i,pt)=((lp m 13 (i,pt)).1,0):=by rw[<- c]
  rw[this,qda]; exact l
 obtain⟨N,k,a⟩:=qys m d (13+r) i pt;rw[b]at a;exact⟨13+r,N,by lia,k,a,b⟩
structure Okp (m:Y1) (p:Probe):Prop where
 i:p.i<=m
 pt:p.perturb<2 ^ 64
 more:p.more<=9
 dm:p.dummy=B
def Okp.start(h):Okp m (qzp m h):=by
 refine⟨Qxk (Qjd _ (Qxo _)),?_,more_le _ _,rfl⟩;show bits h<2 ^ 64;unfold bits
 lia
def Okp.next(h:Okp m p):Okp m (adv m p):=by
 unfold adv
 split
 ·exact⟨h.i,h.pt,by have:=h.more; show p.more - 1<=9; lia,h.dm⟩
 ·refine⟨by unfold leap; exact Qxk (Qjd _ (Qxo _)),?_,more_le _ _,h.dm⟩;exact Nat.lt_of_le_of_lt (Nat.div_le_self _ _) h.pt
theorem Okp.stp:∀(n:Y1){p:Probe},Okp m p->Okp m (stp m n p)
 |0,_,h=>h
 |n+1,_,h=>Okp.stp n h.next
def hits(a:m=7\/m=31)(h:Okp m p)(b:e<=m):∃N,N<10*turns m/\(stp m N p).j=e:=by
 have h1:=(h.stp (p.more+1))
 rw[qka m _ p rfl]at h1;obtain⟨n,N,hn,d,c,_⟩:=qyt a p.dummy h1.i h1.pt b;refine⟨p.more+1+N,?_,?_⟩
 ·have:=h.more;unfold turns; lia
 ·rw[qqc,qka m _ p rfl];exact congrArg Probe.j c
def Up(xs:Array Y1):Prop:=∀(i k a b:Y1),i<k->xs[i]?=Y a->xs[k]?=Y b->a<b
theorem qvb(hs:Up xs):∀(b lo hi:Y1),hi<=xs.size->lo<=hi->hi - lo<=b->(∀(i a:Y1),i<lo->xs[i]?=Y a->a<j)->(∀(i a:Y1),hi<=i->xs[i]?=Y a->j<=a)->
  (∀(i a:Y1),i<below.go xs j b lo hi->xs[i]?=Y a->a<j)/\(∀(i a:Y1),below.go xs j b lo hi<=i->xs[i]?=Y a->j<=a)/\below.go xs j b lo hi<=xs.size
 |0,lo,hi,h1,h2,m,g,f=>by
  have:lo=hi:=by lia
  subst this;exact⟨g,f,h1⟩
 |b+1,lo,hi,h1,h2,m,g,f=>by
  unfold below.go
  by_cases d:lo<hi
  ·rw[Z8 d];have l:(lo+hi) / 2<xs.size:=by lia
   have e:=Qq9 l;have n:xs.getD ((lo+hi) / 2) j=xs[(lo+hi) / 2]:=by rw[Qz4,e]; rfl
   simp only[n]
   split
   ·rename_i hc;refine qvb hs b _ _ h1 (by lia) (by lia) (λi a k c=>?_) f;rcases Qz7 i ((lo+hi) / 2) with h|h
    ·exact Nat.lt_trans (hs i _ a _ h c e) hc
    ·have:i=(lo+hi) / 2:=by lia
     subst this;rw[e]at c; cases c; exact hc
   ·rename_i hc;refine qvb hs b _ _ (by lia) (by lia) (by lia) g (λi a k c=>?_);rcases Qz7 ((lo+hi) / 2) i with h|h
    ·have:=hs _ i _ a h e c; lia
    ·have:i=(lo+hi) / 2:=by lia
     subst this;rw[e]at c; cases c; lia
  ·rw[Z7 d];have:lo=hi:=by lia
   subst this;exact⟨g,f,h1⟩
def qxs(hs:Up xs):(∀(i a:Y1),i<below xs j->xs[i]?=Y a->a<j)/\(∀(i a:Y1),below xs j<=i->xs[i]?=Y a->j<=a)/\below xs j<=xs.size:=
 qvb hs xs.size 0 xs.size (Qqj _) (Qq8 _) (by lia) (λi a h=>by lia) λi a h e=>by
  have:=(Qze.mp e).1; lia
def below_at(hs:Up xs)(h:xs[i]?=Y j):below xs j=i:=by
 obtain⟨b1,b2,b3⟩:=qxs hs;rcases Qjs (below xs j) i with h1|h1|h1
 ·have hb:=Nat.lt_trans h1 (Qze.mp h).1;have e:=Qq9 hb;have:=b2 _ _ (Qqj _) e;have:=hs _ _ _ _ h1 e h
  lia
 ·exact h1
 ·have:=b1 _ _ h1 h; lia
structure Tb (t:Qa):Prop where
 mask:t.mask=7\/t.mask=31
 dum:t.dummies=#[]
 up:Up t.place
 le:∀(i j:Y1),t.place[i]?=Y j->j<=t.mask
 few:t.place.size<=t.mask
def Occ(t:Qa)(j:Y1):Prop:=∃i:Y1,t.place[i]?=Y j
def qjc(T:Tb t)(h:t.place[i]?=Y j):t.slot j=.live i:=by
 unfold slot;simp only[below_at T.up h,h,beq_self_eq_true,if_true]
def qa0(T:Tb t)(h:¬ Occ t j):t.slot j=.empty:=by
 unfold slot;have:(t.place[below t.place j]?==Y j)=false:=by
  cases e:t.place[below t.place j]?==Y j with
  |false=>rfl
  |true=>exact absurd ⟨_,beq_iff_eq.mp e⟩ h
 have hd:has t.dummies j=false:=by rw[T.dum]; unfold has; simp
 simp[this,hd]
theorem qkg:∀(l:L Y1) (lo:Y1),l.Pairwise (· < ·)->(∀a∈l,lo<=a)->(∀e,lo<=e->e<=m->e∈l)->lo<=m+1->m+1<=lo+l.length
 |[],lo,_,_,c,f=>by
  rcases Qz7 m lo with h|h
  ·simp; lia
  ·exact absurd (c lo (Qqj _) h) (by simp)
 |a::l,lo,h1,h2,c,f=>by
  rcases Qz7 m lo with h|h
  ·lia
  ·obtain⟨p1,p2⟩:=Qxg.mp h1;have d:a=lo:=by
    rcases Qqa.mp (c lo (Qqj _) h) with e|e
    ·exact e.symm
    ·have:=p1 lo e;have:=h2 a Qq2
     lia
   subst d
   have:=qkg l (a+1) p2 (λb hb=>p1 b hb) (λe i g=>by
    rcases Qqa.mp (c e (by lia) g) with q|q
    ·lia
    ·exact q) (by lia)
   simp only[Qqg]
   lia
def Up.pairwise(h:Up xs):xs.toList.Pairwise (· < ·):=by
 rw[Qxu];intro i j hi hj a;exact h i j _ _ a (by rw[<- Qq1,Qqi hi]) (by rw[<- Qq1,Qqi hj])
def some_free(T:Tb t):∃e,e<=t.mask/\¬ Occ t e:=by
 apply Classical.byContradiction;intro hn;have all:=λe b=>Classical.byContradiction λhc=>hn ⟨e,b,hc⟩
 have:=qkg t.place.toList 0 T.up.pairwise (λa _=>Qq8 _) (λe _ b=>by
  obtain⟨i,hi⟩:=all e b
  exact Qqo (by rw[Qq1]; exact hi)) (Qq8 _)
 have:=T.few;rw[Qzd]at *
 lia
theorem qd7(T:Tb t):∀(b:Y1) (p:Probe) (N:Y1),p.dummy=B->N<b->¬ Occ t (stp t.mask N p).j->
  ∃n,(∀m,m<n->∃i:Y1,t.place[i]?=Y (stp t.mask m p).j/\a i≠h)/\
   ((¬ Occ t (stp t.mask n p).j/\probe.go t a h b p=Y (.empty (stp t.mask n p).j B))\/
    (∃i:Y1,t.place[i]?=Y (stp t.mask n p).j/\a i=h/\probe.go t a h b p=Y (.candidate (stp t.mask n p).j i (stp t.mask (n+1) p))))
 |0,p,N,_,l,_=>by lia
 |b+1,p,N,hd,l,g=>by
  by_cases d:Occ t p.j
  ·obtain⟨i,hi⟩:=d
   by_cases c:a i=h
   ·refine⟨0,λm f=>by lia,.inr ⟨i,hi,c,?_⟩⟩;unfold probe.go;rw[qjc T hi];simp only[c,beq_self_eq_true]
    rfl
   ·cases N with
    |zero=>exact absurd ⟨i,hi⟩ g
    |succ N=>
     have e:(adv t.mask p).dummy=none:=by unfold adv; split<;>exact hd
     obtain⟨n,k,j⟩:=qd7 T b (adv t.mask p) N e (by lia) g;have o:probe.go t a h (b+1) p=probe.go t a h b (adv t.mask p):=by
      conv=>lhs; unfold probe.go
      rw[qjc T hi];have:(a i==h)=false:=by simpa using c
      simp only[this,if_false]
      rfl
     refine⟨n+1,λm f=>?_,?_⟩
     ·cases m with
      |zero=>exact⟨i,hi,c⟩
      |succ m=>exact k m (by lia)
     ·rw[o];exact j
  ·refine⟨0,λm f=>by lia,.inl ⟨d,?_⟩⟩;unfold probe.go;rw[qa0 T d];rw[hd]; rfl
def qa5(T:Tb t)(b:Okp t.mask p):
  ∃n,(∀m,m<n->∃i:Y1,t.place[i]?=Y (stp t.mask m p).j/\a i≠h)/\
   ((¬ Occ t (stp t.mask n p).j/\t.probe a h p=Y (.empty (stp t.mask n p).j B))\/
    (∃i:Y1,t.place[i]?=Y (stp t.mask n p).j/\a i=h/\t.probe a h p=Y (.candidate (stp t.mask n p).j i (stp t.mask (n+1) p)))):=by
 obtain⟨e,c,hf⟩:=some_free T;obtain⟨N,d,f⟩:=hits T.mask b c;exact qd7 T _ p N b.dm d (by rw[f]; exact hf)
section
def qqv(xs:Array α)(p)(x)(b:p<=xs.size)(i):(insertAt xs p x)[i]?=if i<p then xs[i]? else if i=p then Y x else xs[i - 1]?:=by
 unfold insertAt;rw[Array.getElem?_append,Array.getElem?_push,Qkz,Qkz];simp only[Array.size_push,Array.size_extract];have e:min p xs.size=p:=by lia
 simp only[e,Nat.sub_zero,Qx4]
 by_cases h1:i<p
 ·rw[Z8 (by lia),Z7 (by lia),Z8 h1,Z8 h1]
 ·by_cases h2:i=p
  ·subst h2;rw[Z8 (by lia),Z8 rfl,Z7 h1,Z8 rfl]
  ·rw[Z7 (by lia),Z7 h1,Z7 h2]
   by_cases a:i - (p+1)<min xs.size xs.size - p
   ·rw[Z8 a]; congr 1; lia
   ·rw[Z7 a];exact(Qkx (by lia)).symm
def qjx(xs:Array α)(p)(x)(a:p<=xs.size):(insertAt xs p x).size=xs.size+1:=by
 unfold insertAt;simp only[Qjr,Array.size_push,Array.size_extract]
 lia
def qnq(b:p<=xs.size):y∈(insertAt xs p x).toList↔y∈xs.toList\/y=x:=by
 unfold insertAt;simp only[Array.toList_append,Array.toList_push,Array.toList_extract,Qql,Qqy,List.extract_eq_drop_take,Nat.sub_zero,List.drop_zero];have e:xs.toList.take p++xs.toList.drop p=xs.toList:=Qjw p _;have a:(xs.toList.drop p).take (xs.size - p)=xs.toList.drop p:=Qxi (by simp);rw[a]
 conv=>rhs; rw[<- e,Qql]
 constructor
 ·rintro ((h|h)|h)
  ·exact .inl (.inl h)
  ·exact .inr h
  ·exact .inl (.inr h)
 ·rintro ((h|h)|h)
  ·exact .inl (.inl h)
  ·exact .inr h
  ·exact .inl (.inr h)
end
def Reach(t:Qa)(h:J)(j:Y1):Prop:=∃n,(stp t.mask n (qzp t.mask h)).j=j/\∀m,m<n->Occ t (stp t.mask m (qzp t.mask h)).j
structure SI {α:Type}(t:Qa) (es:Array (J×α)):Prop where
 tb:Tb t
 sz:t.place.size=es.size
 reach:∀(i j:Y1) (e:J×α),t.place[i]?=Y j->es[i]?=Y e->Reach t e.1 j
def qcn(T:Tb t)(j):t.put j=({ t with place:=insertAt t.place (below t.place j) j },below t.place j):=by
 unfold put;have hd:has t.dummies j=false:=by rw[T.dum]; unfold has; simp
 simp only[hd,Qzw,if_false]
def put_ok{es:Array (J×α)}(I:SI t es){x:α}(hj:j<=t.mask)(hf:¬ Occ t j)(hr:Reach t h j)(hs:es.size+1<=t.mask):
  SI (t.put j).1 (insertAt es (t.put j).2 (h,x)):=by
 obtain⟨b1,b2,b3⟩:=qxs I.tb.up;have l:below t.place j<=es.size:=by rw[<- I.sz]; exact b3
 rw[qcn I.tb];have s:∀j',Occ t j'->Occ { t with place:=insertAt t.place (below t.place j) j } j':=λj' ⟨i,hi⟩=>by
  by_cases h1:i<below t.place j
  ·exact⟨i,by rw[qqv _ _ _ b3,Z8 h1]; exact hi⟩
  ·exact⟨i+1,by rw[qqv _ _ _ b3,Z7 (by lia),Z7 (by lia)]; exact hi⟩
 have o:∀h' j',Reach t h' j'->Reach { t with place:=insertAt t.place (below t.place j) j } h' j':=λh' j' ⟨n,e,q⟩=>⟨n,e,λm u=>s _ (q m u)⟩
 refine⟨⟨I.tb.mask,I.tb.dum,?_,?_,?_⟩,?_,?_⟩
 ·intro i k a b r d hb;have d:=d;have hb:=hb;rw[qqv _ _ _ b3]at d hb;have ne:∀(p c:Y1),t.place[p]?=Y c->c≠j:=λp c e z=>hf ⟨p,by rw[<- z]; exact e⟩
  split at d
  ·split at hb
   ·exact I.tb.up _ _ _ _ r d hb
   ·split at hb
    ·cases hb; exact b1 _ _ (by assumption) d
    ·exact I.tb.up _ _ _ _ (by lia) d hb
  ·split at d
   ·cases d;rw[Z7 (by lia),Z7 (by lia)]at hb;have:=b2 _ _ (by lia) hb;have:=ne _ _ hb
    lia
   ·rw[Z7 (by lia),Z7 (by lia)]at hb;exact I.tb.up _ _ _ _ (by lia) d hb
 ·intro i j' e;have e:=e;rw[qqv _ _ _ b3]at e
  split at e
  ·exact I.tb.le _ _ e
  ·split at e
   ·cases e; exact hj
   ·exact I.tb.le _ _ e
 ·rw[qjx _ _ _ b3,I.sz]; exact hs
 ·rw[qjx _ _ _ b3,qjx _ _ _ l,I.sz]
 ·intro i j' e g f;have g:=g;have f:=f;rw[qqv _ _ _ b3]at g;rw[qqv _ _ _ l]at f
  split at g
  ·rename_i h1;rw[Z8 h1]at f;exact o _ _ (I.reach _ _ _ g f)
  ·rename_i h1;rw[Z7 h1]at f
   split at g
   ·rename_i h2;rw[Z8 h2]at f;cases g; cases f;exact o _ _ hr
   ·rename_i h2;rw[Z7 h2]at f;exact o _ _ (I.reach _ _ _ g f)
def qfj{es:Array (J×α)}(I:SI t es){bad:Y1->Prop}(hb:∀m,m<n->∃i:Y1,t.place[i]?=Y (stp t.mask m (qzp t.mask h)).j/\bad i)(g:¬ Occ t (stp t.mask n (qzp t.mask h)).j):
  ∀(i:Y1) (e:J×α),es[i]?=Y e->e.1=h->bad i:=λi e j o=>by
 have hi:i<t.place.size:=by rw[I.sz]; exact(Qze.mp j).1
 have c:=Qq9 hi;obtain⟨f,a,d⟩:=I.reach _ _ _ c j;rw[o]at a d;rcases Qjs n f with h1|h1|h1
 ·exact absurd (d n h1) g
 ·subst h1; exact absurd ⟨i,by rw[a]; exact c⟩ g
 ·obtain⟨l,k,b⟩:=hb f h1;rw[a]at k;have:l=i:=(below_at I.tb.up k).symm.trans (below_at I.tb.up c);rw[<- this]; exact b
def qg4(c):SI (α:=α) (PySem.SetTable.fresh 0 0 c) #[]:=
 ⟨⟨.inl rfl,rfl,λi k a b _ h=>by simp[PySem.SetTable.fresh]at h,λi j h=>by simp[PySem.SetTable.fresh]at h,by simp[PySem.SetTable.fresh]⟩,rfl,λi j e h=>by simp[PySem.SetTable.fresh]at h⟩
def OcO(ow:Array (Y4 Y1))(j:Y1):Prop:=∃k,ow[j]?=Y (Y k)
def getD_none(hj:j<ow.size):(ow.getD j (Y 0)).isNone=Z↔¬ OcO ow j:=by
 have e:=Qq9 hj;rw[Qz4,e]
 cases h:ow[j] with
 |none=>simp[OcO,e,h]
 |some k=>simp[OcO,e,h]
theorem qk1(m i pt)(d):∀k,k<=runEnd m i - i->(stp m k (runP m i pt d)).j=i+k/\(stp m k (runP m i pt d)).more=runEnd m i - i - k
 |0,_=>⟨rfl,rfl⟩
 |k+1,h=>by
  obtain⟨h1,h2⟩:=qk1 m i pt d k (by lia);rw[qfs];have e:adv m (stp m k (runP m i pt d))={ stp m k (runP m i pt d) with j:=(stp m k (runP m i pt d)).j+1,more:=(stp m k (runP m i pt d)).more - 1 }:=by
   conv=>lhs; unfold adv
   rw[Z8 (by lia)]
  rw[e];exact⟨by show(stp m k (runP m i pt d)).j+1=_; lia,by show(stp m k (runP m i pt d)).more - 1=_; lia⟩
def qjd(h:i<=m):i<=runEnd m i/\runEnd m i<=m:=by unfold runEnd; split<;>lia
def qba(h:(List.range n).find? p=Y k):k<n/\p k=Z/\∀a,a<k->p a=false:=by
 have h1:=Qx0 h;have h2:=Qzu h;refine⟨Qzl.mp h2,h1,λa b=>?_⟩;rw[List.find?_range_eq_some]at h;have:=h.2.2 a b;simpa using this
theorem qd9(hs:ow.size=m+1):∀(a i pt b:Y1),i<=m->b<a->¬ OcO ow (lp m b (i,pt)).1->
  ∃n j,layClean.free m ow a i pt=Y j/\(stp m n (runP m i pt B)).j=j/\j<=m/\¬ OcO ow j/\∀k,k<n->OcO ow (stp m k (runP m i pt B)).j
 |0,i,pt,b,_,hn,_=>by lia
 |a+1,i,pt,b,hi,hn,he=>by
  unfold layClean.free;obtain⟨u,t⟩:=qjd hi
  cases hf:(List.range (runEnd m i+1 - i)).find? λk=>(ow.getD (i+k) (Y 0)).isNone with
  |some k=>
   obtain⟨v,s,r⟩:=qba hf;refine⟨k,i+k,rfl,(qk1 m i pt B k (by lia)).1,by lia,(getD_none (by lia)).mp s,λd c=>?_⟩;rw[(qk1 m i pt B d (by lia)).1];have:=r d c;apply Classical.byContradiction;intro hc;rw[(getD_none (by lia)).mpr hc]at this;cases this
  |none=>
   have all:=λk c=>by
    have:=Qxh.mp hf k (Qzl.mpr c);apply Classical.byContradiction;intro hc;exact this ((getD_none (by lia)).mpr hc)
   cases b with
   |zero=>exact absurd (all 0 (by lia)) he
   |succ b=>
    have q:(leap m i pt).1<=m:=Qxk (Qjd _ (Qxo _));obtain⟨n,j,p,o,l,g,f⟩:=qd9 hs a (leap m i pt).1 (leap m i pt).2 b q (by lia) he;refine⟨(runEnd m i - i)+1+n,j,p,?_,l,g,λk c=>?_⟩
    ·rw[qqc,qka m (runEnd m i - i) (runP m i pt B) rfl]; exact o
    ·rcases Qz7 k (runEnd m i - i+1) with h|h
     ·rw[(qk1 m i pt B k (by lia)).1]; exact all k (by lia)
     ·have e:k=(runEnd m i - i)+1+(k - (runEnd m i - i+1)):=by lia
      rw[e,qqc,qka m (runEnd m i - i) (runP m i pt B) rfl];exact f _ (by lia)
structure FI (m:Y1) (ow:Array (Y4 Y1)) (hs:L J):Prop where
 size:ow.size=m+1
 val:∀(j k:Y1),ow[j]?=Y (Y k)->k<hs.length
 sur:∀k,k<hs.length->∃j:Y1,ow[j]?=Y (Y k)
 reach:∀(j k:Y1) (h:J),ow[j]?=Y (Y k)->hs[k]?=Y h->∃n,(stp m n (qzp m h)).j=j/\∀q,q<n->OcO ow (stp m q (qzp m h)).j
 cnt:ow.toList.countP Option.isSome=hs.length
def FI.zero(m):FI m (Array.replicate (m+1) B) [] where
 size:=by simp
 val:=λj k h=>by
  rw[Qj3]at h
  split at h<;>simp at h
 sur:=λk h=>by simp at h
 reach:=λj k x h=>by
  rw[Qj3]at h
  split at h<;>simp at h
 cnt:=by rw[Array.toList_replicate]; simp
def FI.some_free(I:FI m ow hs)(h:hs.length<=m):∃e,e<=m/\¬ OcO ow e:=by
 apply Classical.byContradiction;intro hn;have all:∀x∈ow.toList,Option.isSome x=true:=λx c=>by
  obtain⟨j,hj,e⟩:=Qz5 c;have a:j<ow.size:=by simpa using hj
  have:OcO ow j:=Classical.byContradiction λhc=>hn ⟨j,by have:=I.size; lia,hc⟩;obtain⟨k,b⟩:=this;rw[Qq9 a]at b;rw[Array.getElem_toList]at e;rw[<- e,Option.some.inj b]; rfl
 have:=List.countP_eq_length.mpr all;have f:=I.cnt;have d:=(Qzd).trans I.size
 lia
def FI.more(y:m=7\/m=31)(I:FI m ow hs)(A:hs.length<=m)(h):
  ∃j,layClean.free m ow (turns m) (bits h % (m+1)) (bits h)=Y j/\FI m (ow.setIfInBounds j (Y hs.length)) (hs++[h]):=by
 obtain⟨e,C,hf⟩:=I.some_free A;have ok:=Okp.start (m:=m) h;obtain⟨s,_,x,_,_,o⟩:=qyt y B ok.i ok.pt C;have o:(lp m s (bits h % (m+1),bits h)).1=e:=o;obtain⟨n,j,v,u,F,p,t⟩:=qd9 I.size (turns m) (bits h % (m+1)) (bits h) s ok.i (by unfold turns; lia) (by rw[o]; exact hf);refine⟨j,v,?_⟩;have hj:j<ow.size:=by rw[I.size]; lia
 have d:∀j',(ow.setIfInBounds j (Y hs.length))[j']?=if j=j' then Y (Y hs.length) else ow[j']?:=λj'=>by
  rw[Array.getElem?_setIfInBounds]
  by_cases h:j=j'
  ·subst h; rw[Z8 rfl,Z8 hj,Z8 rfl]
  ·rw[Z7 h,Z7 h]
 have r:∀j',OcO ow j'->OcO (ow.setIfInBounds j (Y hs.length)) j':=λj' ⟨k,a⟩=>by
  unfold OcO;rw[d]
  by_cases h:j=j'
  ·exact⟨_,Z8 h⟩
  ·rw[Z7 h]; exact⟨k,a⟩
 refine⟨by rw[Array.size_setIfInBounds]; exact I.size,λj' k a=>?_,λk a=>?_,λj' k h' a f=>?_,?_⟩
 ·rw[d]at a;rw[Qqe,Qxq]
  split at a
  ·cases a; lia
  ·have:=I.val _ _ a; lia
 ·rw[Qqe,Qxq]at a;rcases Qz7 k hs.length with h1|h1
  ·obtain⟨j',c⟩:=I.sur k h1;refine⟨j',?_⟩;rw[d,Z7 (λz=>p (by rw[z]; exact⟨k,c⟩))]; exact c
  ·have:k=hs.length:=by lia
   subst this;exact⟨j,by rw[d,Z8 rfl]⟩
 ·rw[d]at a
  split at a
  ·rename_i l;cases a;rw[Qzp (Qqj _),Nat.sub_self]at f;cases f;exact⟨n,by rw[<- l]; exact u,λq g=>r _ (t q g)⟩
  ·have i:=I.val _ _ a;rw[Qq6 i]at f;obtain⟨w,E,D⟩:=I.reach _ _ _ a f;exact⟨w,E,λq g=>r _ (D q g)⟩
 ·rw[Array.toList_setIfInBounds,List.countP_set (by simpa using hj)];have b:(ow.toList[j]'(by simpa using hj)).isSome=false:=by
   cases e:ow.toList[j]'(by simpa using hj) with
   |none=>rfl
   |some k=>exact absurd ⟨k,by rw[<- Qq1,Qqi (by simpa using hj),e]⟩ p
  simp only[b,I.cnt];simp
theorem qax(d:m=7\/m=31):∀(l:L J) (ow:Array (Y4 Y1)) (hs:L J),FI m ow hs->hs.length+l.length<=m+1->
  ∃a,l.foldl (λb h=>do let (owner,k) <- b; let j <- layClean.free m owner (turns m) (bits h % (m+1)) (bits h); pure (owner.setIfInBounds j (Y k),k+1)) (Y (ow,hs.length))=Y (a,hs.length+l.length)/\FI m a (hs++l)
 |[],ow,hs,I,_=>⟨ow,rfl,by rw[Qq5]; exact I⟩
 |h::l,ow,hs,I,f=>by
  simp only[Qqg]at f;obtain⟨j,e,i⟩:=I.more d (by lia) h;obtain⟨a,g,c⟩:=qax d l _ _ i (by simp; lia);refine⟨a,?_,by simpa using c⟩;rw[Qjb];have:(do let (owner,k) <- (Y (ow,hs.length):Y4 (Array (Y4 Y1)×Y1)); let j <- layClean.free m owner (turns m) (bits h % (m+1)) (bits h); pure (owner.setIfInBounds j (Y k),k+1))=Y (ow.setIfInBounds j (Y hs.length),hs.length+1):=by
   show(layClean.free m ow (turns m) (bits h % (m+1)) (bits h)).bind _=_;rw[e]; rfl
  rw[this];have el:hs.length+1=(hs++[h]).length:=by simp
  rw[el,g];simp; lia
def lay_ok(a:m=7\/m=31)(hs)(b:hs.size<=m+1):∃ow,layClean m hs=Y ow/\FI m ow hs.toList:=by
 obtain⟨ow,e,I⟩:=qax a hs.toList _ [] (FI.zero m) (by simpa using b);refine⟨ow,?_,by simpa using I⟩;unfold layClean;rw[<- Array.foldl_toList];exact congrArg (Option.map (·.1)) e
noncomputable def qz3(m:Y1)(ow:Array (Y4 Y1)):L (Y1×Y1):=(List.range (m+1)).filterMap λj=>(ow.getD j B).map (j,·)
def qxy(I:FI m ow hs):q∈qz3 m ow↔ow[q.1]?=Y (Y q.2):=by
 unfold qz3;rw[Qz8];constructor
 ·rintro⟨j,hj,e⟩;have a:j<ow.size:=by rw[I.size]; exact Qzl.mp hj
  rw[Qz4,Qq9 a]at e
  cases h:ow[j] with
  |none=>rw[h]at e; cases e
  |some k=>
   rw[h]at e;cases e;rw[Qq9 a,h]
 ·intro e;have hj:=(Qze.mp e).1;refine⟨q.1,Qzl.mpr (by rw[<- I.size]; exact hj),?_⟩;rw[Qz4,e]
  rfl
def qmo(m)(ow):(qz3 m ow).Pairwise λa b=>a.1<b.1:=by
 unfold qz3;refine List.Pairwise.filterMap _ (λa f h b hb i c=>?_) (List.pairwise_lt_range)
 cases e:ow.getD a B with
 |none=>rw[e]at hb; cases hb
 |some k=>
  cases d:ow.getD f B with
  |none=>rw[d]at c; cases c
  |some g=>
   rw[e]at hb; rw[d]at c;cases hb; cases c;exact h
def qk7(I:FI m ow hs):(qz3 m ow).length=hs.length:=by
 unfold qz3;rw[List.length_filterMap_eq_countP,<- I.cnt];have e:ow.toList=(List.range (m+1)).map λj=>ow.getD j none:=by
  apply Qjt;intro j;rw[Qq1,Qqw];rcases Qz7 j (m+1) with h|h
  ·rw[Qxs h];have hj:j<ow.size:=by rw[I.size]; exact h
   rw[Qq9 hj];show _=Y (ow.getD j B);rw[Qz4,Qq9 hj]; rfl
  ·rw[Qkx (by rw[I.size]; exact h),Qzm (by simpa using h)]; rfl
 rw[e,List.countP_map];refine List.countP_congr λj _=>?_;simp
theorem qy1{α:Type}(es:Array α):∀(l:L Y1),(∀k∈l,k<es.size)->(l.filterMap λk=>es[k]?).length=l.length/\∀i:Y1,(l.filterMap λk=>es[k]?)[i]?=l[i]?.bind λk=>es[k]?
 |[],_=>⟨rfl,λi=>by simp⟩
 |k::l,h=>by
  obtain⟨h1,h2⟩:=qy1 es l λb a=>h b (Qqs _ a);have a:=h k Qq2;have e:=Qq9 a;rw[Qzh,e];refine⟨by simp[h1],λi=>?_⟩
  cases i with
  |zero=>simp[e]
  |succ i=>simp only[Qj7]; exact h2 i
def qmt{led plain:Yc}(r:m=7\/m=31)(es:Array (J×α))(D:es.size<=m):
  ∃t c,laid m f mv led plain (es.map (·.1))=Y (t,c)/\SI t (c.filterMap (es[·]?))/\(c.filterMap (es[·]?)).size=es.size/\(∀e,e∈(c.filterMap (es[·]?)).toList↔e∈es.toList)/\t.mask=m:=by
 obtain⟨ow,e,I⟩:=lay_ok r (es.map (·.1)) (by rw[Array.size_map]; lia);have d:(es.map (·.1)).toList.length=es.size:=by simp
 have v:∀k∈(qz3 m ow).map (·.2),k<es.size:=λk h=>by
  obtain⟨q,l,rfl⟩:=Qqv.mp h;rw[<- d];exact I.val _ _ ((qxy I).mp l)
 obtain⟨p1,p2⟩:=qy1 es _ v;have tl:(((qz3 m ow).map (·.2)).toArray.filterMap (es[·]?)).toList=((qz3 m ow).map (·.2)).filterMap λk=>es[k]?:=by simp
 have at_:∀i:Y1,(((qz3 m ow).map (·.2)).toArray.filterMap (es[·]?))[i]?=((qz3 m ow)[i]?.map (·.2)).bind λk=>es[k]?:=λi=>by
  rw[<- Qq1,tl,p2,Qqw]
 have pl:∀i:Y1,((qz3 m ow).map (·.1)).toArray[i]?=(qz3 m ow)[i]?.map (·.1):=λi=>by simp
 have u:∀j,OcO ow j->Occ { mask:=m,place:=((qz3 m ow).map (·.1)).toArray,dummies:=#[],finger:=f,led:=led,moves:=mv,plain:=plain } j:=λj ⟨k,h⟩=>by
  obtain⟨i,hi,e⟩:=Qz5 ((qxy I (q:=(j,k))).mpr h);refine⟨i,?_⟩;rw[pl,Qqi hi,e]; rfl
 have ns:(((qz3 m ow).map (·.2)).toArray.filterMap (es[·]?)).size=es.size:=by
  rw[<- Qzd,tl,p1,Qqx,qk7 I,d]
 refine⟨{ mask:=m,place:=((qz3 m ow).map (·.1)).toArray,dummies:=#[],finger:=f,led:=led,moves:=mv,plain:=plain },((qz3 m ow).map (·.2)).toArray,?_,⟨⟨r,rfl,?_,?_,?_⟩,?_,?_⟩,ns,?_,rfl⟩
 ·unfold laid;rw[e]; rfl
 ·intro i k a b p s hb;rw[pl]at s hb;obtain⟨x,g,rfl⟩:=Qqd.mp s;obtain⟨y,A,rfl⟩:=Qqd.mp hb;obtain⟨h1,F⟩:=Qqk.mp g;obtain⟨h2,E⟩:=Qqk.mp A;have:=Qxu.mp (qmo m ow) i k h1 h2 p;rw[F,E]at this;exact this
 ·intro i j hj;rw[pl]at hj;obtain⟨x,g,rfl⟩:=Qqd.mp hj;have:=(qxy I).mp (Qqo g);have:=(Qze.mp this).1;rw[I.size]at this;show x.1<=m
  lia
 ·rw[Qqc,Qqx,qk7 I,d]; exact D
 ·rw[Qqc,Qqx,qk7 I,d,ns]
 ·intro i j x hj g;rw[pl]at hj;rw[at_]at g;obtain⟨q,l,rfl⟩:=Qqd.mp hj;rw[l]at g;have g:es[q.2]?=Y x:=g;have C:=(qxy I).mp (Qqo l);obtain⟨n,K,H⟩:=I.reach q.1 q.2 x.1 C (by rw[Qq1,Array.getElem?_map,g]; rfl);exact⟨n,K,λz w=>u _ (H z w)⟩
 ·intro x;rw[tl,Qz8];constructor
  ·rintro⟨k,_,h⟩;exact Qqo (by rw[Qq1]; exact h)
  ·intro g;obtain⟨k,h,G⟩:=Qz5 g;have o:k<(es.map (·.1)).toList.length:=by rw[d]; simpa using h
   obtain⟨j,hj⟩:=I.sur k o;refine⟨k,Qqv.mpr ⟨(j,k),(qxy I).mpr hj,rfl⟩,?_⟩;rw[<- Qq1,Qqi h,G]
def qcr(T:Tb t)(b:Okp t.mask p)(c:t.probe a h p=met):
  ∃n,(∀m,m<n->∃i:Y1,t.place[i]?=Y (stp t.mask m p).j/\a i≠h)/\
   ((¬ Occ t (stp t.mask n p).j/\met=Y (.empty (stp t.mask n p).j B))\/
    (∃i:Y1,t.place[i]?=Y (stp t.mask n p).j/\a i=h/\met=Y (.candidate (stp t.mask n p).j i (stp t.mask (n+1) p)))):=by
 subst c;exact qa5 T b
theorem SI.fits(I:SI t es):t.fits es.size=true:=by
 unfold SetTable.fits SetTable.fill;rw[I.tb.dum];have:=I.tb.few;simp[I.sz];rw[<- I.sz]; exact this
def Tb.stays(T:Tb t):t.gaveWay=false:=by
 unfold SetTable.gaveWay;rcases T.mask with h|h<;>rw[h]<;>rfl
section
variable {prog:Program}{w:Qk}{A:Qv}{E:Y9->Qz->Prop}{s:Qz}[DecidableEq K]{knd:KeyKind prog w K}
def qj8(n)(h:carriedByValue v=Z):Zh n v=pure false:=by
 cases v with
 |ref a=>simp[carriedByValue]at h
 |_=>unfold Zh; rfl
def qkk(e:IsTupleKey knd s.heap ks b)(h:Q Y7 s):wpAny (model prog w) A (Zh 8 (.ref b)) Q E s:=by
 have g:=e.typeIs;obtain⟨o,c,n,f,hc,hd,hi⟩:=e;unfold Zh;refine Qq (Zp g ?_);refine Qq ?_;refine Qx ?_;simp only[ if_false];refine Qq (Qp f hd ?_);refine Qq ?_;rw[<- Array.forIn_toList];refine wpAny_forIn_list _ (λrest r s'=>r.1=B/\s'=s/\∀v∈rest,carriedByValue v=Z) _ ?_ ?_ _ _ ⟨rfl,rfl,hi.byValue⟩
 ·rintro v rest r s' ⟨hr,rfl,a⟩;rw[qj8 _ (a v Qq2)];refine Qq (Qx ?_);simp only[Qzw];exact Qx ⟨rfl,rfl,λu d=>a u (Qqs _ d)⟩
 ·rintro⟨j,i⟩ s' ⟨hr,rfl,_⟩;simp only at hr;subst hr;exact Qx h
def qil(d:IsTupleKey knd s.heap ks x)(f:∀y∈l,∃b k,y=.ref b/\IsTupleKey knd s.heap k b)(h:Q Y7 s):
  wpAny (model prog w) A (searchCouldBeSeen (.ref x) l) Q E s:=by
 unfold searchCouldBeSeen;refine Qq ?_;refine wpAny_forIn_list _ (λrest r s'=>r.1=B/\s'=s/\∀y∈rest,∃b k,y=.ref b/\IsTupleKey knd s.heap k b) _ ?_ ?_ _ _ ⟨rfl,rfl,f⟩
 ·rintro y rest r s' ⟨hr,rfl,a⟩;obtain⟨b,k,rfl,hb⟩:=a y Qq2;have g:(carriedByValue (Value.ref x)&&carriedByValue (Value.ref b))=false:=rfl;simp only[g,Bool.or_false]
  by_cases e:(x==b)=Z
  ·rw[Z8 e];exact Qx ⟨rfl,rfl,λu c=>a u (Qqs _ c)⟩
  ·rw[Z7 e];refine Qq (wpAny_eqIsQuiet_tuple d ?_);simp only[Qky,if_false];refine Qq (wpAny_eqIsQuiet_tuple hb ?_);simp only[Qky,if_false];refine Qq (qkk d ?_);simp only[Qzw];refine Qq (qkk hb ?_);simp only[Qzw];exact Qx ⟨rfl,rfl,λu c=>a u (Qqs _ c)⟩
 ·rintro⟨j,i⟩ s' ⟨hr,rfl,_⟩;simp only at hr;subst hr;exact Qx h
end
section
def ints_of(h:ItemsAre (intKind prog w) ks vs):∀v∈vs,∃i t,v=.int i t:=by
 induction h with
 |nil=>intro v hv; simp at hv
 |@cons k b ks vs h1 _ a=>
  intro v hv;rcases Qqa.mp hv with rfl|hv
  ·obtain⟨t,e⟩:=Value.isInt_shape (h1);exact⟨k,t,e⟩
  ·exact a v hv
def qan(f:IsTupleKey (intKind prog w) s.heap ks b)(h:Q Z s):wpAny (model prog w) A (hashByValue 8 (.ref b)) Q E s:=by
 have j:=f.typeIs;obtain⟨o,c,n,g,hc,hd,hi⟩:=f;unfold hashByValue;refine Qq (Qu j F.slot_tuple_hash.lookup ?_);refine Qq (Qp g hd ?_);refine Qq ?_;show wpAny _ _ (forIn c _ _) _ _ s;rw[<- Array.forIn_toList];refine wpAny_forIn_list _ (λrest r s'=>r.1=B/\s'=s/\∀v∈rest,∃i t,v=.int i t) _ ?_ ?_ _ _ ⟨rfl,rfl,ints_of hi⟩
 ·rintro v rest r s' ⟨hr,rfl,a⟩;obtain⟨i,t,rfl⟩:=a v Qq2;have e:hashByValue 7 (.int i t)=pure true:=by simp[hashByValue]
  rw[e];refine Qq (Qx ?_);simp only[ if_false];exact Qx ⟨rfl,rfl,λu d=>a u (Qqs _ d)⟩
 ·rintro⟨l,k⟩ s' ⟨hr,rfl,_⟩;simp only at hr;subst hr;exact Qx h
def Els(prog:Program)(w:Qk)(h:Heap)(es:Array (J×Y9)):Prop:=∀(i:Y1) (e:J×Y9),es[i]?=Y e->∃b k,e=(tupleKeyHash (intKind prog w) k,.ref b)/\IsTupleKey (intKind prog w) h k b
def Bad(prog:Program)(w:Qk)(h:Heap)(es:Array (J×Y9))(k:L J)(i:Y1):Prop:=∀(e:J×Y9) (b:Y8) (k':L J),es[i]?=Y e->e.2=.ref b->IsTupleKey (intKind prog w) h k' b->k'≠k
theorem qvp(hu:A.units<cLine)(W:s.heap.get? a=Y o)(hd:o.data=.set es ep t)(I:SI t es)(r:Els prog w s.heap es)(U:IsTupleKey (intKind prog w) s.heap k x)(hf:∀n,(∀m,m<n->∃i:Y1,t.place[i]?=Y (stp t.mask m (qzp t.mask (tupleKeyHash (intKind prog w) k))).j/\Bad prog w s.heap es k i)->¬ Occ t (stp t.mask n (qzp t.mask (tupleKeyHash (intKind prog w) k))).j->
   Q (.free (stp t.mask n (qzp t.mask (tupleKeyHash (intKind prog w) k))).j Y7) s)(ht:(∃(i:Y1) (b:Y8) (g:J),es[i]?=Y (g,.ref b)/\IsTupleKey (intKind prog w) s.heap k b)->Q (.there B) s)(N)(hN:¬ Occ t (stp t.mask N (qzp t.mask (tupleKeyHash (intKind prog w) k))).j):
  ∀(d c:Y1) (f:Y4 Probe),f.getD (t.probeStart (tupleKeyHash (intKind prog w) k))=stp t.mask c (qzp t.mask (tupleKeyHash (intKind prog w) k))->c<=N->N - c<d->
   (∀m,m<c->∃i:Y1,t.place[i]?=Y (stp t.mask m (qzp t.mask (tupleKeyHash (intKind prog w) k))).j/\Bad prog w s.heap es k i)->
   wpAny (model prog w) A (Z4 a (.ref x) (tupleKeyHash (intKind prog w) k) Z d f) Q E s
 |0,c,_,_,_,X,_=>by lia
 |d+1,c,f,V,hle,X,K=>by
  unfold Z4;refine Qq (Q9 W hd I.fits ?_);dsimp only;rw[I.tb.stays];simp only[Qzw];rw[V];generalize hm:SetTable.probe t _ _ _=met;have S:Okp t.mask (stp t.mask c (qzp t.mask (tupleKeyHash (intKind prog w) k))):=(Okp.start _).stp c;obtain⟨n,p1,p2⟩:=qcr I.tb S hm;have P:∀m,m<n->∃i:Y1,t.place[i]?=Y (stp t.mask (c+m) (qzp t.mask (tupleKeyHash (intKind prog w) k))).j/\Bad prog w s.heap es k i:=λm C=>by
   obtain⟨i,F,T⟩:=p1 m C;refine⟨i,by rw[qqc]; exact F,λe b k' p hb a1 z=>T ?_⟩;obtain⟨b',a5,R,q⟩:=r i e p;have:(es[i]?.map (·.1)).getD 0=tupleKeyHash (intKind prog w) k:=by
    rw[p,R];rw[R]at hb;cases hb;rw[q.inj a1,z]; rfl
   exact this
  have l:∀m,m<c+n->∃i:Y1,t.place[i]?=Y (stp t.mask m (qzp t.mask (tupleKeyHash (intKind prog w) k))).j/\Bad prog w s.heap es k i:=λm C=>by
   rcases Qz7 m c with h|h
   ·exact K m h
   ·obtain⟨i,F,T⟩:=P (m - c) (by lia);rw[show c+(m - c)=m by lia]at F;exact⟨i,F,T⟩
  rw[<- qqc]at p2;rcases p2 with⟨D,rfl⟩|⟨i,D,q2,rfl⟩
  ·dsimp only;exact Qx (hf _ l D)
  ·dsimp only;have hi:i<es.size:=by rw[<- I.sz]; exact(Qze.mp D).1
   have p:=Qq9 hi;obtain⟨b,k',R,hb⟩:=r i _ p;rw[R]at p;have a6:c+n<N:=by
    rcases Qjs (c+n) N with h|h|h
    ·exact h
    ·exact absurd ⟨i,by rw[<- h]; exact D⟩ hN
    ·obtain⟨u,F,_⟩:=l N h;exact absurd ⟨u,F⟩ hN
   have rest:wpAny (model prog w) A (do
     let j <- holding [Value.ref b] (eqBool (.ref b) (.ref x))
     let (a4,_,t') <- setState a
     if Z&&j then return .there B
     let Y same:=t'.sameMemory t.moves t.mask|unsupported "set.changed-during-lookup:is-the-new-block-at-the-old-address"
     let v <- match (if same then t'.slot (stp t.mask (c+n) (qzp t.mask (tupleKeyHash (intKind prog w) k))).j else .empty) with
      |.live u=>match a4[u]? with
       |some (_,y')=>do pure (if <- isSame y' (.ref b) then Y u else B)
       |none=>pure B
      |_=>pure B
     match v with
     |none=>rule "set.search.anew"; Z4 a (.ref x) (tupleKeyHash (intKind prog w) k) Z d B
     |some u=>if j then return .there (Y u) else Z4 a (.ref x) (tupleKeyHash (intKind prog w) k) Z d (Y (stp t.mask (n+1) (stp t.mask c (qzp t.mask (tupleKeyHash (intKind prog w) k)))))) Q E s:=by
    refine Qq (Q4 (wpAny_eqBool_tuple hu hb U ?_));refine Qq (Q9 W hd I.fits ?_)
    by_cases hk:k'=k
    ·subst hk;simp only[ if_true];exact Qx (ht ⟨i,b,_,p,hb⟩)
    ·have ek:=Z6 hk;simp only[ek,if_false];have em:t.sameMemory t.moves t.mask=Y true:=by unfold SetTable.sameMemory; simp
     rw[em];simp only[if_true];rw[qjc I.tb D];dsimp only;rw[p];refine Qq (wpAny_isSame_ref_self ?_);simp only[if_true];refine Qq (Qx ?_);refine qvp hu W hd I r U hf ht N hN d (c+n+1) _ ?_ (by lia) (by lia) λm C=>?_
     ·rw[<- qqc]; rfl
     ·rcases Qz7 m (c+n) with h|h
      ·exact l m h
      ·have:m=c+n:=by lia
       subst this;refine⟨i,D,λe b1 k1 H a3 a0 z=>hk ?_⟩;rw[p]at H;cases H;cases a3;rw[hb.inj a0,z]
   have G:∀y∈(es.filter (·.1==tupleKeyHash (intKind prog w) k)).toList.map (·.2),∃b k,y=.ref b/\IsTupleKey (intKind prog w) s.heap k b:=λy hy=>by
    obtain⟨e,h1,rfl⟩:=Qqv.mp hy;have h2:e∈es.toList:=by
     rw[Array.toList_filter]at h1;exact(Qxa.mp h1).1
    obtain⟨u,a2,e1⟩:=Qz5 h2;obtain⟨b',k1,e2,q⟩:=r u e (by rw[<- Qq1,Qqi a2,e1]);exact⟨b',k1,by rw[e2],q⟩
   cases hl:t.led with
   |true=>
    simp only[Qky,if_false];rw[p];exact rest
   |false=>
    simp only[Bool.not_false];refine Qq (qil U G ?_);simp only[Qzw];rw[p];exact rest
end
section
def TS(prog:Program)(w:Qk)(h:Heap)(a:Y8)(S:L (L J)):Prop:=∃o es ep t,h.get? a=Y o/\o.ExactSet/\o.data=.set es ep t/\SI t es/\Els prog w h es/\es.size=S.length/\
 (∀k,k∈S↔∃g b,(g,Value.ref b)∈es.toList/\IsTupleKey (intKind prog w) h k b)/\(t.mask=7->es.size<=4)
def qdn(g:h.get? a=Y o)(hd:o.data=.set es ep t)(hs:Heap.SameBut a h h')(x:IsTupleKey (intKind prog w) h k b):IsTupleKey (intKind prog w) h' k b:=by
 obtain⟨o',c,n,e,hc,d,hi⟩:=x;have f:b≠a:=by
  rintro rfl;obtain rfl:o'=o:=Option.some.inj (e.symm.trans g);rw[hd]at d; exact nomatch d
 exact⟨o',c,n,(hs.2 b f).trans e,hc,d,hi⟩
def qdg:SetTable.sizeAbove (SetTable.grown 5)=32:=by decide
def qf8(f:s.heap.get? a=Y o)(hd:o.data=.set es ep t)(I:SI t es)(j:es.size=5)(h:∀h' o' c d,Heap.SameBut a s.heap h'->h'.get? a=Y o'->(o.ExactSet->o'.ExactSet)->o'.data=.set c (ep+1) d->SI d c->c.size=es.size->(∀e,e∈c.toList↔e∈es.toList)->d.mask=31->Q () { s with heap:=h' }):
  wpAny (model prog w) A (setRelay a (SetTable.grown 5)) Q E s:=by
 unfold setRelay;refine Qq (Q9 f hd I.fits ?_);dsimp only;rw[Z7 (by rw[qdg]; decide)];obtain⟨d,b,g,m,z,mem,mk⟩:=qmt (mv:=t.movedTo (SetTable.sizeAbove (SetTable.grown 5) - 1)) (.inr rfl) es (by lia);have l:t.relaid (es.map (·.1)) (SetTable.grown 5)=Y (d,b):=by
  unfold SetTable.relaid;rw[qdg]at g ⊢;exact g
 rw[l];refine Qq ?_
 change wpAny _ _ (do
  let Y (t,b):=(Y (d,b):Y4 (Qa×Array Y1))|unsupported "internal:set-table-without-room"
  let c:=b.filterMap (es[·]?)
  if c.size != es.size then unsupported "internal:set-table-lost-an-element"
  pure (c,t)) _ _ _
 dsimp only;have k:((b.filterMap (es[·]?)).size != es.size)=false:=by rw[z]; simp
 rw[k];simp only[Qzw];refine Qx ?_;refine wpAny_storeSet_of f hd ?_ (by rw[z,j,Q2]; decide);have i:(s.heap.update a (Obj.putSet (b.filterMap (es[·]?)) d)).get? a=Y { o with data:=.set (b.filterMap (es[·]?)) (ep+1) d }:=by
  have:=Qxn (Obj.putSet (b.filterMap (es[·]?)) d) f (by rw[putSet_of _ _ hd]; rfl);rw[putSet_of _ _ hd]at this; exact this
 exact h _ _ _ _ (Heap.SameBut.update _ a _) i (λq=>q) rfl m z mem mk
def qm2(h):(qzp m h).j+(qzp m h).more<=m:=by
 have hi:bits h % (m+1)<=m:=Qxk (Qjd _ (Qxo _));obtain⟨b,a⟩:=qjd hi;show bits h % (m+1)+(runEnd m (bits h % (m+1)) - bits h % (m+1))<=m
 lia
def j_next(h:p.j+p.more<=m):(adv m p).j+(adv m p).more<=m:=by
 unfold adv
 split
 ·show p.j+1+(p.more - 1)<=m; lia
 ·have hi:(leap m p.i p.perturb).1<=m:=Qxk (Qjd _ (Qxo _));obtain⟨b,a⟩:=qjd hi;show(leap m p.i p.perturb).1+(runEnd m (leap m p.i p.perturb).1 - (leap m p.i p.perturb).1)<=m
  lia
theorem j_stp:∀(n:Y1){p:Probe},p.j+p.more<=m->(stp m n p).j+(stp m n p).more<=m
 |0,_,h=>h
 |n+1,_,h=>j_stp n (j_next h)
def add_ok(hu:A.units<cLine)(hT:TS prog w s.heap a S)(T:IsTupleKey (intKind prog w) s.heap k x)(hl:S.length<=15)(h:∀b h',Heap.SameBut a s.heap h'->TS prog w h' a (if k∈S then S else S++[k])->Q b { s with heap:=h' }):
  wpAny (model prog w) A (setAddHashed a (.ref x) (tupleKeyHash (intKind prog w) k)) Q E s:=by
 have b6:=hT;obtain⟨o,es,ep,t,G,a3,hd,I,v,U,f,h4⟩:=hT;have D:∀{e:J×Y9},e∈es.toList->∃i:Y1,es[i]?=Y e:=λ{e} he=>by
  obtain⟨i,hi,e1⟩:=Qz5 he;exact⟨i,by rw[<- Qq1,Qqi hi,e1]⟩
 unfold setAddHashed setAddHashedIn;refine Q4 (Qq (Q9 G hd I.fits ?_));dsimp only;have eb:byScan (.ref x) es=false:=rfl;rw[eb];simp only[Qzw];obtain⟨fr,b2,b3⟩:=some_free I.tb;obtain⟨N,hN,eN⟩:=hits I.tb.mask (Okp.start (tupleKeyHash (intKind prog w) k)) b2;refine Qq ?_;unfold setSearch;refine qvp hu G hd I v T (λn C r=>?_) (λa8=>?_) N (by rw[eN]; exact b3) 100000 0 B rfl (Qq8 _) ?_ (λm u=>by lia)
 ·-- b9 element is new
  have W:k ∉ S:=λX=>by
   obtain⟨g,b,u,hb⟩:=(f k).mp X;obtain⟨i,hi⟩:=D u;obtain⟨b',l,H,b5⟩:=v i _ hi;have e1:=congrArg Prod.fst H;have e2:=Value.ref.inj (congrArg Prod.snd H);subst e2;obtain rfl:=hb.inj b5;exact qfj I C r i _ hi e1 _ b k hi rfl hb rfl
  have b0:es.size+1<=t.mask:=by
   rcases I.tb.mask with q|q
   ·have:=h4 q; lia
   ·lia
  have a0:(stp t.mask n (qzp t.mask (tupleKeyHash (intKind prog w) k))).j<=t.mask:=Qz0 (Qjj _ _) (j_stp n (qm2 _));generalize hj:(stp t.mask n (qzp t.mask (tupleKeyHash (intKind prog w) k))).j=j at *;have I1:SI (t.put j).1 (insertAt es (t.put j).2 (tupleKeyHash (intKind prog w) k,Value.ref x)):=put_ok I a0 r ⟨n,hj,λm u=>by obtain⟨i,hi,_⟩:=C m u; exact⟨i,hi⟩⟩ b0;refine Qq (Q9 G hd I.fits ?_);have V:(t.put j).2<=es.size:=by rw[qcn I.tb,<- I.sz]; exact(qxs I.tb.up).2.2
  have p:(t.put j).1.mask=t.mask:=by rw[qcn I.tb]
  have c:(insertAt es (t.put j).2 (tupleKeyHash (intKind prog w) k,Value.ref x)).size=es.size+1:=qjx _ _ _ V;have y:∀e,e∈(insertAt es (t.put j).2 (tupleKeyHash (intKind prog w) k,Value.ref x)).toList↔e∈es.toList\/e=(tupleKeyHash (intKind prog w) k,Value.ref x):=λe=>qnq V;have a5:∀(h':Heap) (d:Array (J×Y9)),Heap.SameBut a s.heap h'->(∀e,e∈d.toList↔e∈es.toList\/e=(tupleKeyHash (intKind prog w) k,Value.ref x))->
    Els prog w h' d/\∀l,l∈S++[k]↔∃g b,(g,Value.ref b)∈d.toList/\IsTupleKey (intKind prog w) h' l b:=λh' d P u=>by
   have kp:∀{b:Y8}{l:L J},IsTupleKey (intKind prog w) s.heap l b->IsTupleKey (intKind prog w) h' l b:=λq=>qdn G hd P q;refine⟨λi e he=>?_,λl=>?_⟩
   ·rcases (u e).mp (Qqo (by rw[Qq1]; exact he)) with q|q
    ·obtain⟨i',F⟩:=D q;obtain⟨b,l,H,hb⟩:=v i' _ F;exact⟨b,l,H,kp hb⟩
    ·exact⟨x,k,q,kp T⟩
   ·constructor
    ·intro X;rcases Qql.mp X with q|q
     ·obtain⟨g,b,q1,q2⟩:=(f l).mp q;exact⟨g,b,(u _).mpr (.inl q1),kp q2⟩
     ·rw[Qqy]at q;subst q;exact⟨_,x,(u _).mpr (.inr rfl),kp T⟩
    ·rintro⟨g,b,q1,q2⟩;rcases (u _).mp q1 with q|q
     ·obtain⟨i',F⟩:=D q;obtain⟨b',c0,H,hb⟩:=v i' _ F;have e2:=Value.ref.inj (congrArg Prod.snd H);subst e2;obtain rfl:=q2.inj (kp hb);exact Qzf _ ((f l).mpr ⟨g,b,q,hb⟩)
     ·have e2:=Value.ref.inj (congrArg Prod.snd q);subst e2;obtain rfl:=q2.inj (kp T);exact Qqu _ (by simp)
  have z:∀(b:Yc) (t2:Qa),SI t2 (insertAt es (t.put j).2 (tupleKeyHash (intKind prog w) k,Value.ref x))->t2.mask=t.mask->
    wpAny (model prog w) A (do
     storeSet a (insertAt es (t.put j).2 (tupleKeyHash (intKind prog w) k,Value.ref x)) t2
     if (!Y7&&t2.tooFull)=Z then do
      setRelay a (SetTable.grown (es.size+1))
      pure Z
     else pure Z) Q E s:=λb t2 I2 b1=>by
   refine Qq (wpAny_storeSet_of G hd ?_ (by rw[c,Q2]; lia));have hg:(s.heap.update a (Obj.putSet (insertAt es (t.put j).2 (tupleKeyHash (intKind prog w) k,Value.ref x)) t2)).get? a=Y { o with data:=.set (insertAt es (t.put j).2 (tupleKeyHash (intKind prog w) k,Value.ref x)) (ep+1) t2 }:=by
    have:=Qxn (Obj.putSet (insertAt es (t.put j).2 (tupleKeyHash (intKind prog w) k,Value.ref x)) t2) G (by rw[putSet_of _ _ hd]; rfl);rw[putSet_of _ _ hd]at this; exact this
   have P:=Heap.SameBut.update s.heap a (Obj.putSet (insertAt es (t.put j).2 (tupleKeyHash (intKind prog w) k,Value.ref x)) t2);obtain⟨fe,fm⟩:=a5 _ _ P y;have a4:t2.tooFull=decide ((es.size+1)*5 >= t.mask*3):=by
    unfold SetTable.tooFull SetTable.fill;rw[I2.tb.dum,I2.sz,c,b1]; rfl
   rw[a4]
   by_cases a1:(es.size+1)*5 >= t.mask*3
   ·have m7:t.mask=7:=by
     rcases I.tb.mask with q|q
     ·exact q
     ·lia
    have e5:es.size+1=5:=by have:=h4 m7; lia
    simp only[Z5 a1,if_true];rw[e5];refine Qq (qf8 hg rfl I2 (by rw[c,e5]) λh' o' d t' a6 a9 a2 b4 I' z' R a7=>Qx ?_);have K:=P.trans a6;obtain⟨b8,b7⟩:=a5 h' d K λe=>(R e).trans (y e);refine h Z h' K ?_;rw[Z7 W];exact⟨o',d,_,t',a9,a2 a3,b4,I',b8,by rw[z',c,U]; simp,b7,λq=>by rw[a7]at q; cases q⟩
   ·simp only[Z6 a1,if_false];refine Qx (h Z _ P ?_);rw[Z7 W];exact⟨_,_,_,t2,hg,a3,rfl,I2,fe,by rw[c,U]; simp,fm,λq=>by rw[c]; lia⟩
  cases c1:(t.put j).1.plain with
  |true=>
   simp only[if_true];refine Qq (qan T ?_);simp only[if_true];exact z Z _ I1 p
  |false=>
   simp only[ if_false];refine Qq (Qx ?_);simp only[if_true];exact z Z _ I1 p
 ·-- it is there
  refine Qx ?_;obtain⟨i,b,g,hi,hb⟩:=a8;have X:=(f k).mpr ⟨g,b,Qqo (by rw[Qq1]; exact hi),hb⟩;have e:s={ s with heap:=s.heap }:=by cases s; rfl
  rw[e];exact h Y7 s.heap (Heap.SameBut.refl a s.heap) (by rw[Z8 X]; exact b6)
 ·have:t.mask<=31:=by rcases I.tb.mask with q|q<;>lia
  unfold SetTable.turns at hN
  lia
end
end ST
end
section
namespace ST
open PySem SetTable PyProof.Rows
noncomputable def addK(S:L (L J))(k:L J):L (L J):=if k∈S then S else S++[k]
noncomputable def distinct(ks:L (L J)):L (L J):=ks.foldl addK []
def qn0(S)(k):(addK S k).length<=S.length+1:=by unfold addK; split<;>simp
theorem foldK_le:∀(l S:L (L J)),(l.foldl addK S).length<=S.length+l.length
 |[],S=>by simp
 |k::l,S=>by
  have:=foldK_le l (addK S k);have:=qn0 S k;rw[Qjb,Qqg]; lia
section
variable {prog:Program}{w:Qk}{A:Qv}{R:Result->Qz->Prop}{I:Y8}{fp wr:L Y8}{G:Array GenState->Array GenState->Prop}{n:Y1}{P:Y1->Y9->Prop}{St:Y1->Qz->Prop}
def TS.keeps(x:TS prog w h a S)(y:∀b o,(b=a\/∃k,IsTupleKey (intKind prog w) h k b)->h.get? b=Y o->h'.get? b=Y o):TS prog w h' a S:=by
 obtain⟨o,es,E,t,z,u,hd,I,j,p,f,D⟩:=x;have kp:∀{b:Y8}{d:L J},IsTupleKey (intKind prog w) h d b->IsTupleKey (intKind prog w) h' d b:=λ{b d} q=>by
  obtain⟨o',c,n,s,r⟩:=id q;exact⟨o',c,n,y b o' (.inr ⟨d,q⟩) s,r⟩
 refine⟨o,es,E,t,y a o (.inl rfl) z,u,hd,I,λi e C=>?_,p,λk=>?_,D⟩
 ·obtain⟨b,k,v,q⟩:=j i e C;exact⟨b,k,v,kp q⟩
 ·rw[f k];constructor
  ·rintro⟨g,b,l,m⟩; exact⟨g,b,l,kp m⟩
  ·rintro⟨g,b,l,m⟩;obtain⟨i,hi,H⟩:=Qz5 l;obtain⟨K,d,v,q⟩:=j i (g,.ref b) (by rw[<- Qq1,Qqi hi,H]);have F:=Value.ref.inj (congrArg Prod.snd v);subst F;obtain rfl:=m.inj (kp q);exact⟨g,b,l,q⟩
def qmn(hu:A.in1.units<cLine)(W:WalksS prog w A.in1 I fp wr G n P St)(S)(T:S ∉ fp)(r:∀b∈wr,∀s i,St i s->¬ ∃k,IsTupleKey (intKind prog w) s.heap k b)(ks)(hn:ks.length=n)(b0:n<=16)(u:∀i v,P i v->∃b,v=.ref b)(Kp:Qz->Prop)(a4:∀s i b,Kp s->P i (.ref b)->∃k,ks[i]?=Y k/\IsTupleKey (intKind prog w) s.heap k b)(K:∀s s',Kp s->(∀b o,(∃k,IsTupleKey (intKind prog w) s.heap k b)->s.heap.get? b=Y o->s'.heap.get? b=Y o)->Kp s'):
  ∀(k i:Y1) (s:Qz),n - i=k->i<=n->St i s->Kp s->TS prog w s.heap S ((ks.take i).foldl addK [])->
   (∀s',Moved (S::wr) G s s'->TS prog w s'.heap S (distinct ks)->R (.ok (.ret .none)) s')->
   Ze (model prog w) A (.builtin "set.update.loop" ⟨[.ref S,.ref I],[]⟩) R s:=by
 have a7:=λh=>T (W.sub _ h);have d:∀b∈wr,b∈S::wr:=λb hb=>Qqs _ hb
 have p:∀{s s':Qz}{i:Y1}{Lq:L (L J)},St i s->Moved wr G s s'->TS prog w s.heap S Lq->TS prog w s'.heap S Lq:=λ{s s' i Lq} st f x=>x.keeps λb o hb C=>f.heap b o (λhw=>by
  rcases hb with rfl|hb
  ·exact a7 hw
  ·exact r b hw s i st hb) C
 intro k
 induction k with
 |zero=>
  intro i s hk hi a X hS hR;have a5:i=n:=by lia
  subst a5;refine Zc F.entry_set_update_loop ?_;rw[Around.under_plainId F.plain_set_update_loop _];refine Qq (W.done s _ _ a λs' f=>Qx (hR s' (f.mono d) (p a f ?_)));rw[<- hn,Qzc]at hS;exact hS
 |succ k ih=>
  intro i s hk hi a X hS hR;have E:i<n:=by lia
  refine Zc F.entry_set_update_loop ?_;rw[Around.under_plainId F.plain_set_update_loop _];refine Qq (W.item i s _ _ E a λv s' hP y f=>?_);obtain⟨b,rfl⟩:=u i v hP;have g:=K s s' X λj o hb C=>f.heap j o (λhw=>r j hw s i a hb) C;obtain⟨key,N,hb⟩:=a4 s' i b g hP;have V:=p a f hS;refine Qq (Q4 ?_);unfold setAdd;refine Q4 ?_;refine Qq (wpAny_pyHash_tuple hu hb ?_);have H:((ks.take i).foldl addK []).length<=15:=by
   have:=foldK_le (ks.take i) [];rw[Qzk]at this;simp at this
   lia
  have a3:(ks.take (i+1)).foldl addK []=addK ((ks.take i).foldl addK []) key:=by
   rw[Qxc,N,Qju]; rfl
  refine add_ok hu V hb H λ_ h' l a9=>?_;have a8:TS prog w h' S ((ks.take (i+1)).foldl addK []):=by rw[a3]; exact a9
  have a1:∀{j:Y8},(∃k,IsTupleKey (intKind prog w) s'.heap k j)->j≠S:=λ{j} ⟨k',q⟩ z=>by
   obtain⟨o,es,ep,t,C,_,hd,_⟩:=V;obtain⟨o',a2,m,c,_,Q,_⟩:=q;rw[z]at c;obtain rfl:o'=o:=Option.some.inj (c.symm.trans C);rw[hd]at Q; exact nomatch Q
  refine Qx ⟨plainId_quiet F.plain_set_update_loop _,ih (i+1) _ (by lia) E (W.frame _ s' _ _ y (Qjj _ _) λb hb o e=>?_) (K s' _ g λj o a6 c=>(l.2 j (a1 a6)).trans c) a8 λa0 D U=>?_⟩
  ·rw[l.2 b (λh:b=S=>T (by rw[<- h]; exact hb))]; exact e
  ·refine hR a0 (Moved.trans W.gtrans ((f.mono d).then_heap (Qjj _ _) λb o hb e=>?_) D) U;rw[l.2 b (λh:b=S=>hb (by rw[h]; exact Qq2))]; exact e
end
end ST
end
section
namespace ST
open PySem SetTable
def qfb:isSubtype (.type "tuple") (.type "set")=pure false:=by rw[Zf]; kernel_rfl
def qwo:isSubtype (.type "tuple") (.type "frozenset")=pure false:=by rw[Zf]; kernel_rfl
noncomputable abbrev bare(led:Yc):Obj:={ cls:=.type "set",dict:=B,data:=.set #[] 0 (.fresh 0 0 led) }
def Cells(prog:Program)(w:Qk)(h:Heap)(items:Array Y9)(ks:L (L J)):Prop:=∀(i:Y1) (v:Y9),items[i]?=Y v->∃b k,v=.ref b/\ks[i]?=Y k/\IsTupleKey (intKind prog w) h k b
section
def qgu(calm:Bq.handled=B)(room:Bq.units+4<cLine)(tup:c.IsTuple l items)(d:Cells prog w c items ks)(V:ks.length=items.size)(U:items.size<=16)(hs:s.heap=c.push (bare a))(done:∀h1 X,TS prog w h1 c.objs.size (distinct ks)->(∀b o,b<c.objs.size->c.get? b=Y o->h1.get? b=Y o)->I (.done (.ret .none)) { s with heap:=h1,toks:=X }):
  wpAny (model prog w) Bq (Qs.«set.__init__» ⟨[.ref c.objs.size,.ref l],[]⟩) I E s:=by
 obtain⟨H,gs,dr,tk,os⟩:=s;subst hs;obtain⟨⟨tc,td,G,P⟩,t1,t2,nl,Q⟩:=id tup;subst t2 Q;have t:(c.push (bare a)).get? c.objs.size=Y (bare a):=Qqf _ rfl;have C:=Qqz (bare a) t1;have a1:=qfb;have a2:=qwo;have a3:(Value.type "tuple" == Value.type "dict")=false:=by decide
 have a0:Shared.TypeIs ⟨c.push (bare a),gs,dr,tk,os⟩ (.ref c.objs.size) "set":=⟨_,t,rfl⟩
 have g:(c.push (bare a)).IsTuple l items:=⟨_,C,rfl,nl,rfl⟩
 unfold Qs.«set.__init__» noKeywords Builtin.Frozenset.updateFrom;generalize ei:pyIter=D
 wp_walk
 subst ei;refine wpAny_pyIter_tuple g (Qq (wpAny_runValue ?_));have p:=Qqb t1;have sz:(c.push (bare a)).objs.size=c.objs.size+1:=Qz9 ..;have T:l≠(c.push (bare a)).objs.size:=by rw[sz]; exact Qqr (Qxl p)
 have S:c.objs.size ∉ [(c.push (bare a)).objs.size,l]:=by
  rw[sz];simp only[Qqa,Qq4,or_false,not_or];exact⟨Qqr (Qzb _),Qxw p⟩
 refine qmn (by show Bq.units+1<cLine; lia) ((Walks.tuple (by simp[calm]) _ l T items).toS) c.objs.size S ?f ks V U (λi v hv=>?isRef)
  (λz=>∀(i:Y1) (b:Y8),items[i]?=Y (.ref b)->∃k,ks[i]?=Y k/\IsTupleKey (intKind prog w) z.heap k b) (λz i b q H=>q i b H) ?stay items.size 0 _ rfl (Qq8 _) ⟨⟨_,Qqf _ rfl,rfl,rfl⟩,?j⟩ ?keys ?empty ?fin
 case isRef=>obtain⟨b,_,e,_⟩:=d i v hv; exact⟨b,e⟩
 case j=>obtain⟨ob,e1,e2⟩:=g; exact⟨ob,Qqz _ e1,e2⟩
 case f=>
  rintro b hb z i ⟨⟨ob,N,_,K⟩,_⟩ ⟨_,n,_,_,h,_,F,_⟩;rw[Qqy.mp hb,N]at h;cases h;rw[K]at F;cases F
 case stay=>
  intro z1 z2 q keep i b hb;obtain⟨k,e,y⟩:=q i b hb;obtain⟨n,it,m,h,r⟩:=id y;exact⟨k,e,n,it,m,keep b n ⟨k,y⟩ h,r⟩
 case keys=>
  intro i b hb;obtain⟨b',k,e,ek,n,it,m,h,r⟩:=d i _ hb;cases e;exact⟨k,ek,n,it,m,Qqz _ (Qqz _ h),r⟩
 case empty=>exact⟨_,#[],0,_,Qqz _ t,⟨rfl,rfl,rfl⟩,rfl,qg4 a,λi e he=>by simp at he,rfl,λk=>by simp,λ_=>by simp⟩
 case fin=>
  intro z W q;obtain⟨h1,a4,a5,u,R⟩:=z;obtain⟨m1,rfl,rfl,rfl,_⟩:=W;refine Qx (Qx (done h1 u q λb o hb e=>m1 b o ?_ (Qqz _ (Qqz _ e))));have A:=Qqr hb;have x:b≠(c.push (bare a)).objs.size:=by rw[sz]; exact Qqr (Qxl hb)
  simp only[Qqa,Qq4,or_false,not_or];exact⟨A,x⟩
end
section
theorem TS.size(x:TS prog w h a S)(hS:S.length<=16):∃o es c t,h.get? a=Y o/\o.ExactSet/\o.data=.set es c t/\t.fits es.size=Z/\(es.size:J)<2 ^ 63/\es.size=S.length:=by
 obtain⟨o,es,c,t,e,b,hd,I,_,d,_⟩:=x;exact⟨o,es,c,t,e,b,hd,I.fits,by omega,d⟩
def set_call(calm:A.handled=B)(room:A.units+12<cLine)(tup:s.heap.IsTuple l c)(g:Cells prog w s.heap c ks)(m:ks.length=c.size)(j:c.size<=16)(k:∀h1 f,TS prog w h1 s.heap.objs.size (distinct ks)->(∀b o,b<s.heap.objs.size->s.heap.get? b=Y o->h1.get? b=Y o)->Q (.ref s.heap.objs.size) { s with heap:=h1,toks:=f }):
  wpAny (model prog w) A (call (.type "set") [.ref l]) Q E s:=by
 have e:=F.called_set;obtain⟨_,_,D⟩:=e.mro;have C:=e.made;have y:=e.sub;have x:=e.notType;have v:=e.canCreate;have u:=F.typeCall_set_1 (.ref l);refine wpAny_call (codeAny_of_tree (Qx ⟨Code.quiet_builtin _ (by decide +kernel),Zc F.entry_type_call ?_⟩));rw[Around.under_plain (weight_type_call_type "set" [.ref l] []) rfl]
 repeat (any_goals (first|assumption|wp_step))
 refine Zq (code_set_new_1 (.ref l) (E:=E) (Q₁:=λob z=>∃d,ob=.ref s.heap.objs.size/\z={ s with heap:=s.heap.push (bare d) }) λd=>⟨d,rfl,rfl⟩) λr z hr=>?_
 match r,hr with
 |.error _,hr=>exact hr
 |.ok .next,hr=>exact hr.elim
 |.ok .brk,hr=>exact hr.elim
 |.ok .cont,hr=>exact hr.elim
 |.ok (.ret ob),hr=>
  obtain⟨d,rfl,rfl⟩:=hr;have h:Shared.TypeIs { s with heap:=s.heap.push (bare d) } (.ref s.heap.objs.size) "set":=⟨_,Qqf _ rfl,rfl⟩
  have t:=e.init.lookup;have p:=e.init.bind (.ref s.heap.objs.size)
  repeat (any_goals (first|assumption|wp_step))
  refine Zq (codeAny_call_builtin (R:=wants (λr z=>r=.none/\∃h1 f,z={ s with heap:=h1,toks:=f }/\TS prog w h1 s.heap.objs.size (distinct ks)/\∀b o,b<s.heap.objs.size->s.heap.get? b=Y o->h1.get? b=Y o) E) e.init.plain F.entry_set_init (check_set_init_1 h ?_)) λi n a=>?_
  ·exact qgu (by simp[calm]) (by show A.units+1+1+4<cLine; omega) tup g m j rfl λh1 f q keep=>⟨rfl,h1,f,rfl,q,keep⟩
  ·match i,a with
   |.error _,a=>exact a
   |.ok .next,a=>exact a.elim
   |.ok .brk,a=>exact a.elim
   |.ok .cont,a=>exact a.elim
   |.ok (.ret _),a=>
    obtain⟨rfl,h1,f,rfl,q,keep⟩:=a
    repeat (any_goals (first|assumption|wp_step))
    exact k h1 f q keep
end
end ST
end
section
namespace MS
open PySem PySem.Spec PyProof.Rows L2
noncomputable def setO(a:Y8)(n:Y1):HO:=.ext λh=>∃o es ep t,h.get? a=Y o/\o.ExactSet/\o.data=.set es ep t/\t.fits es.size=Z/\(es.size:J)<2 ^ 63/\es.size=n
def qn3(K:Qqq)(H:Hp):L V->L (L J)->Prop:=Paired λy k=>∃q,y=.ref q/\SqT K H q (k.map V.int)
theorem items_int:∀{k}{a},Vals (k.map V.int) a->ItemsAre (intKind prog w) k a
 |[],_,h=>by cases h; exact .nil
 |i::k,_,h=>by
  cases h with
  |cons r t=>
   obtain⟨b,rfl⟩:=r;exact .cons (intKind_is _ _ _ _) (items_int t)
section
def qi6(I:Inv X a c H s)(h:SqT X.K H q (k.map V.int)):IsTupleKey (intKind X.prog X.w) s.heap k q:=by
 obtain⟨b,r,⟨o,d,hc,n,hd⟩,_⟩:=I.tuple h;exact⟨o,b.toArray,n,d,hc,hd,items_int r⟩
theorem qal(I:Inv X a d H s):∀{ys}{ks}{c},qn3 X.K H ys ks->Vals ys c->
  ∀(i:Y1) (v:Y9),c[i]?=Y v->∃b k,v=.ref b/\ks[i]?=Y k/\IsTupleKey (intKind X.prog X.w) s.heap k b
 |_,_,_,.nil,r,i,v,e=>by cases r; simp at e
 |_,_,_,.cons (b:=k) h t,r,i,v,e=>by
  cases r with
  |cons g f=>
   obtain⟨q,rfl,j⟩:=h
   cases i with
   |zero=>
    simp at e;subst e;cases g;exact⟨q,k,rfl,rfl,qi6 I j⟩
   |succ i=>
    simp only[Qj7]at e ⊢;exact qal I t f i v e
def qem(calm:X.A.handled=B)(room:X.A.units+64<cLine):qqh X (.type "set") (λxs H Q=>∃p ys ks,xs=[.ref p]/\SqT X.K H p ys/\qn3 X.K H ys ks/\ys.length<=16/\∀l,H l=B->Q (.ref l) (upd H l (setO l (ST.distinct ks).length))):=by
 intro pins s σ H xs F Q I r h;obtain⟨p,ys,ks,rfl,w,hc,R,q⟩:=h;obtain⟨u,rfl,k⟩:=vals1 r;cases k;obtain⟨m,r',⟨o,x,a,n,hd⟩,P⟩:=I.tuple w;have K:=r'.length;have G:=Paired.length hc;refine ST.set_call calm (by lia) ⟨o,x,a,n,hd⟩ (λi v e=>qal I hc r' i v (by simpa using e)) (by simp; lia) (by simp; lia) λh1 N T keep=>?_;have le:=ST.foldK_le ks []
 obtain⟨g,es,y,t,j,E,D,C,A,z⟩:=T.size (by
  show(ks.foldl ST.addK []).length<=16
  simp at le; lia)
 refine⟨.ref s.heap.objs.size,_,I.laid (λb o e=>keep b o (Qqb e) e) (Qqj _) ?_,rfl,q _ (I.hok.fresh (Qqj _))⟩;exact⟨⟨g,es,y,t,j,E,D,C,A,z⟩,⟨g,j⟩,λh2 S ⟨f,c,d,t2,b1,b2⟩ kp=>⟨f,c,d,t2,kp f b1,b2⟩⟩
def qer:qqh X (.builtin "len") (λxs H Q=>∃p n,xs=[.ref p]/\H p=Y (setO p n)/\Q (.int n) H):=by
 intro pins s σ H xs l Q I r h;obtain⟨p,n,rfl,c,q⟩:=h;obtain⟨u,rfl,a⟩:=vals1 r;cases a;obtain⟨⟨o,es,m,t,k,j,i,g,f,d⟩,_⟩:=(I.hok p _ c)
 refine call_len_set k j i g f ?_;exact⟨.int n,H,I.kept (λb o e=>e),⟨_,by rw[d]⟩,q⟩
end
end MS
end
section
namespace MS
open PySem PySem.Spec PyProof.Rows L2
open M (D Y2)
section
theorem qaj{K:Qqq}:∀{ds}{xs}{k},IsDs K m H ds xs->(ds.mapM λd=>match d with|.int i=>Y i|_=>B)=Y k->xs=k.map V.int
 |[],xs,k,h,e=>by
  simp at e;subst e;exact Qz3.mp h.length.symm
 |d::ds,xs,k,h,e=>by
  rw[Qkv]at e
  cases d with
  |int i=>
   obtain⟨x,r,rfl,h1,h2⟩:=h.cons
   cases a:(ds.mapM λd=>match d with|M.D.int i=>Y i|_=>B) with
   |none=>rw[a]at e; cases e
   |some b=>
    rw[a]at e;cases e;rw[h1.int,qaj h2 a]; rfl
  |_=>exact nn e
theorem qdm{K:Qqq}:∀{ds}{xs}{ks},IsDs K m H ds xs->ds.mapM M.keyD=Y ks->qn3 K H xs ks
 |[],xs,ks,h,e=>by
  simp at e;subst e;rw[Qz3.mp h.length.symm];exact .nil
 |d::ds,xs,ks,h,e=>by
  rw[Qkv]at e
  cases d with
  |tup cs=>
   obtain⟨x,r,rfl,h1,h2⟩:=h.cons
   cases a:M.keyD (.tup cs) with
   |none=>rw[a]at e; cases e
   |some k=>
    cases b:ds.mapM M.keyD with
    |none=>rw[a,b]at e; cases e
    |some f=>
     rw[a,b]at e;cases e;obtain⟨c,ys,rfl,i,g⟩:=h1.tup;refine .cons ⟨c,rfl,?_⟩ (qdm h2 b);rw[<- qaj g a]; exact i
  |_=>exact nn e
end
end MS
end
section
namespace MS
open PySem PySem.Spec PyProof.Rows L2
open M (D Yb Y2 Sl E S T Src Fn Out R)
def qa4{E:TT}(hc:X.calm=Z)(S:CompScope X N src c)(hi:PI X tg d A)(hg:∀C fp s H,PG (qzn X N c C fp s H) tg g)(V:∀C fp s H,qbp (qzn X N c C fp s H) ifs E)(he:∀C fp s H,PE (qzn X N c C fp s H) elt F)(hs:∀x,foldedSetIterable d X.env x=pure x)(hN:X.N.Nodup)(U:X.N[i]?=Y x)(hl:Loc X.env.scope x)(hf:X.fn x=Z\/X.env.scope.names.lookup x=Y .local)(p:swapsWith (.ListComp elt [⟨tg,d,ifs,0⟩] c j) (Y (.Name x f)) pos.line X.env=pure Z):
  PS X (.Assign [.Name x f] (.ListComp elt [⟨tg,d,ifs,0⟩] c j) pos) (tAsg (qlj src A g E F) (qyq i)):=by
 intro pins s σ H D I h;rw[exec_Assign_Name_used _ _ _ _ p];refine Qq (wpAny_standAt (Qq ?_));refine Qq (Ql (wpAny_comprehension_free rfl hs (qwb S I) S.kind S.loc (thn (hi pins s σ H _ I h) λv s1 h1=>thn h1 λR n h2=>?_)) (λ_ s' hq=>Qx (Qx hq)) λ_ _ e=>e);obtain⟨it,fp,tn,Jq,H2,e,I2,T,l,f2,W,G,k⟩:=h2;subst e;refine qkl hc I2 T l f2 S (λC=>hg C fp n H2) (λC=>V C fp n H2) (λ_ C=>he C fp n H2) (λ_ _ _ _ _ z=>z.elim) W G k ?_;intro y C s' H' a0 u Q I' fC hm;obtain⟨m',hn⟩:=hm;obtain⟨c0,c1,c2,c3,c4,c5⟩:=fC;refine wpAny_assign_Name (qvi I' hN U hl (show RelV (.ref y) (.ref y) from rfl) (λP w r=>?_) hf);obtain⟨a,K,ha⟩:=r;have t:C≠a:=by
  rcases ha with z|z
  ·rw[z]; exact c1
  ·exact λq=>c4 x a z q.symm
 exact⟨m',hn.sameBut K t,λh' m=>⟨_,_,w.turned (λb o hb e=>(m.2 b hb).trans e) c0 c1 c3 c4 c5,u y Q⟩⟩
noncomputable def iSeq(K:Qqq)(tl:TE):TI:=λσ H R=>tl σ H λx H1=>(∃a,x=.ref a/\(((∃xs,SqL K H1 a xs)/\R (Itl K a) H1)\/((∃xs,SqT K H1 a xs)/\R (Itt K a) H1)))
def pi_seq(n:PE X l tl):PI X tg l (iSeq X.K tl):=by
 intro pins s σ H R I h;refine thn (n pins s σ H _ I h) λv d ⟨x,H1,c,j,k⟩=>?_;obtain⟨a,e,q⟩:=k;subst e;cases j;rcases q with⟨⟨xs,g⟩,q⟩|⟨⟨xs,g⟩,q⟩
 ·obtain⟨f,i,p,m⟩:=c.list g;refine Zg p.isList ?_;refine⟨d.heap.objs.size,[d.heap.objs.size],_,_,H1,rfl,c.kept λb o e=>Qqz _ e,qbu a _,⟨_,Qqf _ rfl,rfl,rfl⟩,λb hb=>?_,q⟩;have e:b=d.heap.objs.size:=by simpa using hb
  subst e;exact c.fpOk (Qqj _) (c.hok.fresh (Qqj _))
 ·obtain⟨f,i,p,m⟩:=c.tuple g;refine wpAny_pyIter_tuple (p) ?_;refine⟨d.heap.objs.size,[d.heap.objs.size],_,_,H1,rfl,c.kept λb o e=>Qqz _ e,qao a _,⟨_,Qqf _ rfl,rfl,rfl⟩,λb hb=>?_,q⟩;have e:b=d.heap.objs.size:=by simpa using hb
  subst e;exact c.fpOk (Qqj _) (c.hok.fresh (Qqj _))
structure Glo where
 cs:L (Y6×D)
 ds:L (Y6×L Y6×L D)
 /-- a method's place among the functions,its class,its name -/
 ms:L (Y1×Y8×Y6)
 /-- the classes -/
 cl:L (Y6×Y8)
 /-- attributes of instances -/
 ats:L (Y8×Y6)
structure Ctx where
 N:L Y6
 sc:Scope
 fns:L Y6
 glo:Glo
noncomputable def qns:M.Bq->String
 |.len=>"len"
 |.min=>"min"
 |.tuple=>"tuple"
 |.list=>"list"
 |.all=>"all"
 |.sorted=>"sorted"
 |.any=>"any"
 |.dict=>"dict"
noncomputable def bOk:M.Bq->Yc
 |.len=>Z
 |.min=>Z
 |.tuple=>Z
 |.list=>Z
 |.all=>Z
 |.sorted=>Z
 |.any=>Z
 |.dict=>Z
noncomputable def qa3(scope sc:Scope):Scope:={ scope with names:=scope.names.map λ(n,k)=>if (k==NameKind.free&&sc.kind==.function&&sc.names.lookup n==Y .cell) then(n,NameKind.cell) else(n,k) }
noncomputable def tlOk(N:L Y6)(sc:Scope)(t:T):Bool:=t.slots.all λi=>match N[i]? with
 |some x=>sc.names.lookup x==Y .local
 |none=>Y7
def qb8(h:tlOk N sc t=Z):∀i∈t.slots,∀x,N[i]?=Y x->sc.names.lookup x=Y .local:=by
 intro i hi x a;unfold tlOk at h;have:=Qzx.mp h i hi;rw[a]at this;simpa using this
noncomputable def qgl(x:Y6):Bool:=!x.cps.toList.contains 46
def MTree(pa:Qj)(m:Y6)(apos:Pos)(ps:L Qj)(pos:Pos):Prop:=∀env,∃pl:Sem Yc,Qb (.Call (.Attribute pa m apos) ps [] pos) env=(do
 let ov <- Qb pa env
 standAt apos.atName
 let (f,first) <- holding [ov] (Z2 ov m pl)
 callWith pos f first (backTo pos (starEach ps env)) (backToKw pos (keywordEach [] env)))
def Star(p:Qj):Prop:=∀es env,starEach (p::es) env=(Y7,Qb p env)::starEach es env
inductive CkTys (c:Ctx):L M.Ty->L Qj->Prop
 |nil:CkTys c [] []
 |cons {t ts ps pos} (ht:t≠.non) (hg:c.sc.names.lookup (Str.ofString t.name)=Y .globalImplicit) (h:CkTys c ts ps):CkTys c (t::ts) (.Name (Str.ofString t.name) pos::ps)
inductive CkTs (c:Ctx):L Y1->L Qj->Prop
 |nil:CkTs c [] []
 |cons {i x pos is es} (hN:c.N[i]?=Y x) (hl:c.sc.names.lookup x=Y .local\/c.sc.names.lookup x=Y .cell) (h:CkTs c is es):CkTs c (i::is) (.Name x pos::es)
inductive CkT (c:Ctx):T->Qj->Prop
 |tup {is es k pos} (h:CkTs c is es):CkT c (.tup is) (.Tuple es k pos)
 |var {i x pos} (hN:c.N[i]?=Y x) (hl:c.sc.names.lookup x=Y .local\/c.sc.names.lookup x=Y .cell):CkT c (.var i) (.Name x pos)
noncomputable def gcOk:Qj->Yc
 |.Call _ _ _ _=>Z
 |.ListComp _ _ _ _=>Z
 |.List _ _=>Z
 |.BinOp _ _ _ _=>Z
 |.Subscript _ _ _=>Z
 |_=>Y7
inductive CkL (R:E->Qj->Prop):L E->L Qj->Prop
 |nil:CkL R [] []
 |cons {e es p ps} (h:R e p) (t:CkL R es ps):CkL R (e::es) (p::ps)
inductive CkP (R:E->Qj->Prop):L E->L (Y4 Qj)->L Qj->Prop
 |nil:CkP R [] [] []
 |cons {k v es pk pv ks vs} (hk:R k pk) (hv:R v pv) (t:CkP R es ks vs):CkP R (k::v::es) (Y pk::ks) (pv::vs)
inductive CkO (R:E->Qj->Prop):Y4 E->Y4 Qj->Prop
 |none:CkO R B B
 |some {e p} (h:R e p):CkO R (Y e) (Y p)
inductive CkI (R:E->Qj->Prop):Ctx->Qj->E->Qj->Prop
 |rng1 {c tg a pa p0 pos} (hg:c.sc.names.lookup ("range" : Y6)=Y .globalImplicit) (ha:R a pa):CkI R c tg (.rng1 a) (.Call (.Name "range" p0) [pa] [] pos)
 |rng2 {c tg a b pa pb p0 pos} (hg:c.sc.names.lookup ("range" : Y6)=Y .globalImplicit) (ha:R a pa) (hb:R b pb):CkI R c tg (.rng2 a b) (.Call (.Name "range" p0) [pa,pb] [] pos)
 |zip {c es k tp a b pa pb p0 pos} (hg:c.sc.names.lookup ("zip" : Y6)=Y .globalImplicit) (ha:R a pa) (hb:R b pb):CkI R c (.Tuple es k tp) (.zip a b) (.Call (.Name "zip" p0) [pa,pb] [] pos)
 |enu {c es k tp a pa p0 pos} (hg:c.sc.names.lookup ("enumerate" : Y6)=Y .globalImplicit) (ha:R a pa):CkI R c (.Tuple es k tp) (.enu a) (.Call (.Name "enumerate" p0) [pa] [] pos)
 |rev {c tg a pa p0 pos} (hg:c.sc.names.lookup ("reversed" : Y6)=Y .globalImplicit) (ha:R a pa):CkI R c tg (.rev a) (.Call (.Name "reversed" p0) [pa] [] pos)
 |seq {c tg e p} (h:R e p):CkI R c tg e p
noncomputable abbrev inOp(neg:Yc):CmpOp:=if neg then .NotIn else .In
noncomputable abbrev Ctx.inn(c:Ctx)(N:L Y6)(sc:Scope):Ctx:=⟨N,qa3 sc c.sc,c.fns,c.glo⟩
structure CpOk (c:Ctx) (sc:Scope) (sr:L (Y4 Y1)) (N:L Y6) (iter:Qj) (t:T):Prop where
 kind:sc.kind=.function
 cell:∀y∈sc.names,y.2≠.cell
 free:∀y∈sc.names,y.2=.free->c.sc.names.lookup y.1=Y .cell\/c.sc.names.lookup y.1=Y .free
 loc:∀y∈sc.names,y.2=.local->sc.names.lookup y.1=Y .local
 len:sr.length=N.length
 src:∀(j i:Y1),sr[j]?=Y (Y i)->∃x,N[j]?=Y x/\c.N[i]?=Y x/\sc.names.lookup x=Y .free
 nd:N.Nodup
 fs:∀env x,foldedSetIterable iter env x=pure x
 tl:tlOk N (qa3 sc c.sc) t=Z
noncomputable def boT(op:BoolOp)(pos:Pos):L Qj->Qj
 |[p]=>p
 |ps=>.BoolOp op ps pos
noncomputable def mName:M.Mt->Y6
 |.append=>"append"
 |.extend=>"extend"
 |.index=>"index"
 |.insert=>"insert"
noncomputable def shOk:Qj->Yc
 |.Starred ..=>Y7
 |.Slice ..=>Y7
 |.Set ..=>Y7
 |.SetComp ..=>Y7
 |.DictComp ..=>Y7
 |.Call (.Name _ _) [] _ _=>Y7
 |_=>Z
noncomputable def qvs:E->Yc
 |.rng1 _=>Y7
 |.rng2 _ _=>Y7
 |.zip _ _=>Y7
 |.enu _=>Y7
 |.rev _=>Y7
 |_=>Z
inductive CkV:Ctx->E->Y6->Prop
 |var {c i x} (hN:c.N[i]?=Y x) (hv:Vis c.sc x) (hd:(x==("__debug__" : Y6))=Y7) (hcd:(x==("__classdict__" : Y6))=Y7):CkV c (.var i) x
 |glo {c x d} (hg:c.sc.names.lookup x=Y .globalImplicit) (hm:(x,d)∈c.glo.cs) (hd:(x==("__debug__" : Y6))=Y7):CkV c (.glo x d) x
inductive CkG (R:Ctx->E->Qj->Prop):Ctx->E->Qj->Prop
 |nm {c a x pos} (h:CkV c a x):CkG R c a (.Name x pos)
 |int {c i j pos}:CkG R c (.lit (.int i)) (.Constant (.int i) j pos)
 |bl {c i j pos}:CkG R c (.lit (.bl i)) (.Constant (.bool i) j pos)
 |non {c j pos}:CkG R c (.lit .non) (.Constant .none j pos)
 |str {c i j pos}:CkG R c (.lit (.str i)) (.Constant (.str i) j pos)
 |bin {c op a b pa pb pos} (ha:R c a pa) (hb:R c b pb):CkG R c (.bin op a b) (.BinOp pa op pb pos)
 |lenset {c a pa p0 p1 pos1 pos} (hg:c.sc.names.lookup ("len" : Y6)=Y .globalImplicit) (hs:c.sc.names.lookup ("set" : Y6)=Y .globalImplicit) (ha:R c a pa):CkG R c (.lenset a) (.Call (.Name "len" p0) [.Call (.Name "set" p1) [pa] [] pos1] [] pos)
 |neg {c a pa pos} (ha:R c a pa):CkG R c (.neg a) (.UnaryOp .USub pa pos)
 |not {c a pa pos} (ha:R c a pa):CkG R c (.not a) (.UnaryOp .Not pa pos)
 |cmp {c op a b pa pb pos} (ha:R c a pa) (hb:R c b pb):CkG R c (.cmp op a b) (.Compare pa [op] [pb] pos)
 |cmp2 {c op op' a b d pa pb pd pos} (ha:R c a pa) (hb:R c b pb) (hd:R c d pd):CkG R c (.cmp2 op op' a b d) (.Compare pa [op,op'] [pb,pd] pos)
 |ite {c q a b pq pa pb pos} (hq:R c q pq) (ha:R c a pa) (hb:R c b pb):CkG R c (.ite q a b) (.IfExp pq pa pb pos)
 |tup {c es ps k pos} (h:CkL (R c) es ps):CkG R c (.tup es) (.Tuple ps k pos)
 |lst {c es ps pos} (h:CkL (R c) es ps):CkG R c (.lst es) (.List ps pos)
 |idx {c a b pa pb pos} (ha:R c a pa) (hb:R c b pb):CkG R c (.idx a b) (.Subscript pa pb pos)
 |call {c f x es p ps p0 pos} (hg:c.sc.names.lookup x=Y .globalImplicit) (hf:c.fns[f]?=Y x) (hd:(x==("__debug__" : Y6))=Y7) (hn:qgl x=Z) (h:CkL (R c) es (p::ps)):CkG R c (.call f es) (.Call (.Name x p0) (p::ps) [] pos)
 |bcall {c b es p ps p0 pos} (hg:c.sc.names.lookup (Str.ofString (qns b))=Y .globalImplicit) (hb:bOk b=Z) (h:CkL (R c) es (p::ps)):CkG R c (.bcall b es) (.Call (.Name (Str.ofString (qns b)) p0) (p::ps) [] pos)
 |isi1 {c t a pa p0 p1 pos} (hg:c.sc.names.lookup ("isinstance" : Y6)=Y .globalImplicit) (ht:t≠.non) (hgt:c.sc.names.lookup (Str.ofString t.name)=Y .globalImplicit) (ha:R c a pa):CkG R c (.isi a [t] Y7) (.Call (.Name "isinstance" p0) [pa,.Name (Str.ofString t.name) p1] [] pos)
 |isiN {c ts a pa p0 ps k p1 pos} (hl:ts.length<=1000) (hg:c.sc.names.lookup ("isinstance" : Y6)=Y .globalImplicit) (ht:CkTys c ts ps) (ha:R c a pa):CkG R c (.isi a ts Z) (.Call (.Name "isinstance" p0) [pa,.Tuple ps k p1] [] pos)
 |tsli {c a lo hi pa pl ph p2 pos} (ha:R c a pa) (hl:CkO (R c) lo pl) (hh:CkO (R c) hi ph):CkG R c (.tsli a lo hi) (.Subscript pa (.Slice pl ph B p2) pos)
 |tdn {c pos}:CkG R c .tdn (.Dict [] [] pos)
 |dgt {c a b pa pb apos cpos} (ha:R c a pa) (hb:R c b pb) (hl:(apos.endLine==cpos.line)=Z):CkG R c (.dgt a b) (.Call (.Attribute pa "get" apos) [pb] [] cpos)
 |dic0 {c pos}:CkG R c (.dic []) (.Dict [] [] pos)
 |dic {c es k v ks vs pos} (h:CkP (R c) es (k::ks) (v::vs)) (h15:(k::ks).length<=15):CkG R c (.dic es) (.Dict (k::ks) (v::vs) pos)
 |didx {c a b pa pb pos} (ha:R c a pa) (hb:R c b pb):CkG R c (.didx a b) (.Subscript pa pb pos)
 |gidx {c x ks ds b pb p0 pos} (hg:c.sc.names.lookup x=Y .globalImplicit) (hm:(x,ks,ds)∈c.glo.ds) (hd:(x==("__debug__" : Y6))=Y7) (hb:R c b pb):CkG R c (.gidx x ks ds b) (.Subscript (.Name x p0) pb pos)
 |sli {c a lo hi pa pl ph p2 pos} (ha:R c a pa) (hl:CkO (R c) lo pl) (hh:CkO (R c) hi ph):CkG R c (.sli a lo hi) (.Subscript pa (.Slice pl ph B p2) pos)
 |attr {c C a f pa pos} (ha:R c a pa) (hc:(C,f)∈c.glo.ats):CkG R c (.attr C a f) (.Attribute pa f pos)
 |mcall {c C f m x cn a es pa ps apos pos} (ha:R c a pa) (hf:c.fns[f]?=Y x) (hm:(f,C,m)∈c.glo.ms) (hc:(cn,C)∈c.glo.cl) (h:CkL (R c) es ps) (hn:ps.length<30) (hl:(apos.endLine==pos.line)=Z):CkG R c (.mcall C f m a es) (.Call (.Attribute pa m apos) ps [] pos)
 |new {c C f x cn es p ps p0 pos} (hg:c.sc.names.lookup cn=Y .globalImplicit) (hf:c.fns[f]?=Y x) (hm:(f,C,("__init__" : Y6))∈c.glo.ms) (hc:(cn,C)∈c.glo.cl) (hd:(cn==("__debug__" : Y6))=Y7) (h:CkL (R c) es (p::ps)):CkG R c (.new C f es) (.Call (.Name cn p0) (p::ps) [] pos)
 |and {c a b pa pb r pos} (ha:R c a pa) (hb:R c b (boT .And pos (pb::r))):CkG R c (.and a b) (.BoolOp .And (pa::pb::r) pos)
 |or {c a b pa pb r pos} (ha:R c a pa) (hb:R c b (boT .Or pos (pb::r))):CkG R c (.or a b) (.BoolOp .Or (pa::pb::r) pos)
 |meth {c a k es pa p ps apos cpos} (ha:R c a pa) (h:CkL (R c) es (p::ps)) (hn:(p::ps).length<30) (hl:(apos.endLine==cpos.line)=Z):CkG R c (.meth a k es) (.Call (.Attribute pa (mName k) apos) (p::ps) [] cpos)
 |comp {c t it q elt sr tg iter pq pelt scope pos N} (ok:CpOk c scope sr N iter t) (hi:CkI (R c) c tg it iter) (ht:CkT (c.inn N scope) t tg) (hq:CkO (R (c.inn N scope)) q pq) (he:R (c.inn N scope) elt pelt):CkG R c (.comp t it q elt sr) (.ListComp pelt [⟨tg,iter,pq.toList,0⟩] scope pos)
 |unt {c a x pos} (h:CkV c a x):CkG R c (.unt a) (.Name x pos)
 |tdi {c neg a b pa pb pos} (ha:R c a pa) (hb:R c b pb):CkG R c (.tdi neg a b) (.Compare pa [inOp neg] [pb] pos)
 |din {c neg a b pa pb pos} (ha:R c a pa) (hb:R c b pb):CkG R c (.din neg a b) (.Compare pa [inOp neg] [pb] pos)
 |gin {c neg x ks ds b pb p0 pos} (hg:c.sc.names.lookup x=Y .globalImplicit) (hm:(x,ks,ds)∈c.glo.ds) (hd:(x==("__debug__" : Y6))=Y7) (hb:R c b pb):CkG R c (.gin neg x ks b) (.Compare pb [inOp neg] [.Name x p0] pos)
inductive CkF (R:Ctx->E->Qj->Prop):Ctx->E->Qj->Prop
 |of {c e p} (hs:shOk p=Z) (hq:qvs e=Z) (h:CkG R c e p):CkF R c e p
 |gc {c a p} (hs:shOk p=Z) (hq:qvs a=Z) (hp:gcOk p=Z) (hg:∀b,a≠.gc b) (h:CkG R c a p):CkF R c (.gc a) p
noncomputable def CkN:Y1->Ctx->E->Qj->Prop
 |0=>λ_ _ _=>False
 |j+1=>CkF (CkN j)
abbrev CkE:=CkN 30
mutual
inductive CkS:Ctx->S->Stmt->Prop
 |set {c i e x p pos pos'} (hN:c.N[i]?=Y x) (hl:c.sc.names.lookup x=Y .local\/c.sc.names.lookup x=Y .cell) (h:CkE c e p) (hs:∀env,swapsWith p (Y (.Name x pos')) pos.line env=pure Y7):CkS c (.set (.var i) e) (.Assign [.Name x pos'] p pos)
 |setC {c i e x p pos pos'} (hN:c.N[i]?=Y x) (hl:c.sc.names.lookup x=Y .local\/c.sc.names.lookup x=Y .cell) (h:CkE c e p) (hc:∃elt gs sc q,p=.ListComp elt gs sc q) (hs:∀env:Env,env.scope=c.sc->(swapsWith p (Y (.Name x pos')) pos.line env=pure Y7\/swapsWith p (Y (.Name x pos')) pos.line env=pure Z)):CkS c (.set (.var i) e) (.Assign [.Name x pos'] p pos)
 |dset {c a i e pa pi pe tpos pos} (ha:CkE c a pa) (hi:CkE c i pi) (he:CkE c e pe):CkS c (.dset a i e) (.Assign [.Subscript pa pi tpos] pe pos)
 |tds {c a i e pa pi pe tpos pos} (ha:CkE c a pa) (hi:CkE c i pi) (he:CkE c e pe):CkS c (.tds a i e) (.Assign [.Subscript pa pi tpos] pe pos)
 |expr {c e p pos} (h:CkE c e p) (hs:∀env,swapsWith p B pos.line env=pure Y7):CkS c (.expr e) (.Expr p pos)
 |ret {c e p pos} (h:CkE c e p):CkS c (.ret e) (.Return (Y p) pos)
 |ite {c q a b pq pa pb pos} (hq:CkE c q pq) (ha:CkSs c a pa) (hb:CkSs c b pb):CkS c (.ite q a b) (.If pq pa pb pos)
 |forr {c t it body tg iter pb pos} (ht:CkT c t tg) (hi:CkI (CkE c) c tg it iter) (hs:∀env x,foldedSetIterable iter env x=pure x) (hb:CkSs c body pb):CkS c (.forr t it body) (.For tg iter pb [] pos)
 |setA {c C a f e pa pe tpos pos} (ha:CkE c a pa) (he:CkE c e pe) (hc:(C,f)∈c.glo.ats):CkS c (.setA C a f e) (.Assign [.Attribute pa f tpos] pe pos)
 |ford {c t a body tg pa pb pos} (ht:CkT c t tg) (ha:CkE c a pa) (hb:CkSs c body pb):CkS c (.ford t a body) (.For tg pa pb [] pos)
 |bad {c p}:CkS c .bad p
inductive CkSs:Ctx->L S->L Stmt->Prop
 |nil {c}:CkSs c [] []
 |cons {c s ss p ps} (h:CkS c s p) (t:CkSs c ss ps):CkSs c (s::ss) (p::ps)
 |doc {c ss x j pos pos' ps} (t:CkSs c ss ps):CkSs c ss (.Expr (.Constant (.str x) j pos) pos'::ps)
end
def qla(h:shOk p=Z):Star p:=λes env=>by cases p<;>first|rfl|cases h
def CkN.sh(h:CkN j c e p):shOk p=true:=by
 cases j with
 |zero=>cases h
 |succ j=>
  cases h with
  |of hs=>exact hs
  |gc hs=>exact hs
def CkN.star(h:CkN j c e p):Star p:=qla h.sh
def sh_sw(h:shOk p=Z)(l)(env):swapsWith p (Y (.Subscript a i b)) l env=pure false:=by
 cases p<;>first|rfl|cases h
def sh_swA(h:shOk p=Z)(l)(env):swapsWith p (Y (.Attribute a f b)) l env=pure false:=by
 cases p<;>first|rfl|cases h
def qlb(h:shOk p=Z)(o i):subscripted p Y7 o i=operate [o,i] (Zv o i):=by
 cases p<;>first|rfl|cases h
def qvn(h:shOk p=Z)(a):Zi a p=false:=by
 cases p<;>first|rfl|cases h
def qlc(h:shOk p=Z)(env)(x):foldedSetIterable p env x=pure x:=by
 cases p<;>first|rfl|cases h
def qk0(h:shOk p=Z)(a)(env)(w):Zk p a env w=w:=by
 cases p with
 |Call f ps ks pos=>
  cases f with
  |Name x q=>
   cases ps with
   |nil=>cases h
   |cons _ _=>rfl
  |_=>rfl
 |_=>rfl
theorem qhu:∀{ps},ps.all shOk=Z->(backTo pos (starEach ps env)).all (λx=>!x.1)=Z
 |[],_=>rfl
 |p::r,h=>by
  rw[Qzi,Qqn]at h;have e:backTo pos (starEach (p::r) env)=(Y7,Qb p env)::backTo pos (starEach r env):=by
   cases p<;>first|rfl|cases h.1
  rw[e,Qzi,qhu h.2]
  rfl
def sh_mt(h:shOk b=Z)(hs:ps.all shOk=Z)(g:ps.length<30)(d:(a.endLine==pos.line)=Z):MTree b m a ps pos:=by
 intro env;refine⟨(do return (<- importBound b env).getD Z),?_⟩
 have e:Qb (.Call (.Attribute b m a) ps [] pos) env=(do
  let c <- Zk b m env (Qb b env)
  standAt a.atName
  methodCall b m a pos env c (ps.length+0) (backTo pos (starEach ps env)) (backToKw pos (keywordEach [] env))):=rfl
 have f:methodCallForm (ps.length+0) (backTo pos (starEach ps env)) (backToKw pos (keywordEach [] env))=true:=by
  unfold methodCallForm;rw[qhu hs];simpa[keywordEach,backToKw] using g
 rw[e,qk0 h];unfold methodCall calleeOf methodCallPos;rw[f,d]
 rfl
theorem CkL.sh(h:CkL (CkN j c) es ps):ps.all shOk=true:=by
 induction h with
 |nil=>rfl
 |cons h _ t=>rw[Qzi,h.sh,t]; rfl
noncomputable def spN(K:Qqq)(fns:L Fn)(n f:Y1):Sp:=λvs H Q _=>∃m st ds d st',Rel K m st H/\IsDs K m H ds vs/\M.callD fns n f ds st=Y (d,st')/\Post K m H d st' Q
def Lc(K:Qqq)(mg:Y6->Y4 Y9)(glo:Glo)(f:Y1)(x:Y6)(fa:Y8):Prop:=(qgl x=Z->mg x=Y (.ref fa))/\∀C m,(f,C,m)∈glo.ms->Meth K C m fa
def FTab(P:Program)(w:Qk)(K:Qqq)(mg:Y6->Y4 Y9)(base:Heap)(glo:Glo)(fns:L Fn)(names:L Y6)(n:Y1):Prop:=∀(f:Y1) (x:Y6),names[f]?=Y x->∃(fa:Y8) (fd:Qr) (ps:L Y6),
 Lc K mg glo f x fa/\FnOk P w K mg base CX0 (2*n) fa fd ps (spN K fns n f)/\Qzr K (.ref fa)=Z/\Binds K fd ps []
noncomputable abbrev bNm:L Y6:=["len","min","max","tuple","list","all","sorted","isinstance","range","int","bool","str","zip","any","enumerate","reversed","set","dict"]
structure Mo (K:Qqq) (mg:Y6->Y4 Y9) (glo:Glo) (prm:Qt):Prop where
 cls:∀cn C,(cn,C)∈glo.cl->mg cn=Y (.ref C)/\Cls K C/\PySem.W.makesIn K C=Z/\Qzr K (.ref C)=Z
 ats:∀C f,(C,f)∈glo.ats->Cls K C/\NoAttr K C f
 gds:∀x ks ds,(x,ks,ds)∈glo.ds->∃a,mg x=Y (.ref a)/\FDict prm K a ks ds
 glo:∀x d,(x,d)∈glo.cs->∃u v,mg x=Y u/\RelV v u/\∀m H,IsD K m H d v
 no:∀x∈bNm,mg x=B
structure Good (fns:L Fn) (dl:Y1) (c:Ctx) (X:Cx):Prop where
 room:Room (2*dl+1) X.A
 calm:X.calm=Z
 N:X.N=c.N
 sc:X.env.scope=c.sc
 nd:c.N.Nodup
 kind:c.sc.kind=.function
 tab:FTab X.prog X.w X.K X.mg X.base c.glo fns c.fns dl
 mo:Mo X.K X.mg c.glo X.w.params
 xe:X.xe=λ_ _=>False
theorem Good.no{dl:Y1}(G:Good fns dl c X)(h:bNm.contains x=Z):X.mg x=none:=G.mo.no x (List.contains_iff_mem.mp h)
end MS
end
section
namespace MS
open PySem PySem.Spec PyProof.Rows L2
open M (D Yb Y2 Sl E S T Src Fn Out R)
theorem qq4:∀{es}{ps},CkL (CkN j c) es ps->∀(pos:Pos) (env:Env),(backTo pos (starEach ps env)).any (·.1)=Y7
 |_,_,.nil,_,_=>rfl
 |_,_,.cons h t,pos,env=>by
  rw[h.star];show(Y7||(backTo pos (starEach _ env)).any (·.1))=Y7;rw[qq4 t pos env]
  rfl
def Good.gl{dl:Y1}(G:Good fns dl c X)(h:c.sc.names.lookup x=Y .globalImplicit):Gl X x:=by
 show X.env.scope.names.lookup x=_;rw[G.sc]; exact h
def qa2(h:env.scope=sc):relabel a env=qa3 a sc:=by
 unfold relabel qa3 Env.kindOf;rw[h]
def Good.inner{fns:L Fn}{dl:Y1}{c:Ctx}{X:Cx}(G:Good fns dl c X){N:L Y6}{a:Scope}{C:Y8}{fp:L Y8}{s:Qz}{H:Hp}(d:a.kind=.function)(b:N.Nodup):Good fns dl ⟨N,qa3 a c.sc,c.fns,c.glo⟩ (qzn X N a C fp s H):=
 ⟨G.room,G.calm,rfl,qa2 G.sc,b,d,G.tab,G.mo,rfl⟩
noncomputable def IsRow(K:Qqq)(m:L Y8)(H:Hp)(k:RK)(a:Y8):D->Prop
 |.tup ds=>k=.tup/\∃xs,SqT K H a xs/\IsDs K m H ds xs
 |.loc l=>k=.lst/\m[l]?=Y a
 |.lst ds=>k=.lst/\∃xs,SqF K H a xs/\IsDs K m H ds xs
 |_=>False
def IsRow.mono{K:Qqq}(h:IsRow K m H k a d)(b:Sub m c)(t:Tr H H'):IsRow K c H' k a d:=by
 cases d with
 |tup ds=>obtain⟨e,xs,q,r⟩:=h; exact⟨e,xs,t.sqT q,qza b t ds xs r⟩
 |loc l=>exact⟨h.1,b l a h.2⟩
 |lst ds=>obtain⟨e,xs,q,r⟩:=h; exact⟨e,xs,t.sqF q,qza b t ds xs r⟩
 |_=>exact h.elim
theorem IsRow.sq{K:Qqq}{st:Y2}(h:IsRow K m H k a d)(f:Rel K m st H)(e:M.rowAt st d=Y ds):∃xs,k.sq K H a xs/\IsDs K m H ds xs:=by
 cases d with
 |tup es=>
  cases e;obtain⟨rfl,xs,q,r⟩:=h;exact⟨xs,q,r⟩
 |loc l=>
  obtain⟨rfl,c⟩:=h;obtain⟨g,xs,b,z,q,r⟩:=f.list e (qgn c);cases z;exact⟨xs,q,r⟩
 |lst es=>
  cases e;obtain⟨rfl,xs,q,r⟩:=h;exact⟨xs,q.sq,r⟩
 |_=>exact h.elim
def qk9{K:Qqq}{st:Y2}(b:MS.IsD K m H d v)(f:Rel K m st H)(e:M.rowAt st d=Y ds):∃k a,v=.ref a/\IsRow K m H k a d/\∃xs,k.sq K H a xs:=by
 cases d with
 |tup es=>
  obtain⟨a,xs,rfl,q,r⟩:=b.tup;exact⟨.tup,a,rfl,⟨rfl,xs,q,r⟩,xs,q⟩
 |loc l=>
  obtain⟨a,xs,c,rfl,q,r⟩:=f.list e b;exact⟨.lst,a,rfl,⟨rfl,c⟩,xs,q⟩
 |lst es=>
  obtain⟨a,xs,rfl,q,r⟩:=b.lst;exact⟨.lst,a,rfl,⟨rfl,xs,q,r⟩,xs,q.sq⟩
 |_=>exact nn e
def IsRow.sq'{K:Qqq}{st:Y2}(h:IsRow K m H .lst a d)(b:Rel K m st H)(e:M.seqAt st d=Y ds):∃xs,SqL K H a xs/\IsDs K m H ds xs:=by
 cases d with
 |loc l=>exact h.sq b e
 |lst l=>exact h.sq b e
 |_=>exact nn e
def qwz{K:Qqq}{st:Y2}(b:MS.IsD K m H d v)(f:Rel K m st H)(e:M.seqAt st d=Y ds):∃a,v=.ref a/\IsRow K m H .lst a d/\∃xs,SqL K H a xs:=by
 cases d with
 |loc l=>
  obtain⟨a,xs,c,rfl,q,r⟩:=f.list e b;exact⟨a,rfl,⟨rfl,c⟩,xs,q⟩
 |lst l=>
  obtain⟨a,xs,rfl,q,r⟩:=b.lst;exact⟨a,rfl,⟨rfl,xs,q,r⟩,xs,q.sq⟩
 |_=>exact nn e
noncomputable def IsSrc(K:Qqq)(m:L Y8)(H:Hp):Src->It->Prop
 |.rng lo n,Jq=>Jq=Itr lo n
 |.tup ds,Jq=>∃a xs,Jq=Itt K a/\SqT K H a xs/\IsDs K m H ds xs
 |.lst d,Jq=>∃a,IsRow K m H .lst a d/\Jq=Itl K a
 |.zip x y,Jq=>∃(k1 k2:RK) (a b:Y8),Jq=Itz K k1 k2 a b/\IsRow K m H k1 a x/\IsRow K m H k2 b y
 |.enu x,Jq=>∃(k:RK) (a:Y8),Jq=Ite K k a/\IsRow K m H k a x
 |.rev ds,Jq=>∃a xs,Jq=Itv K a xs.length/\SqT K H a xs/\IsDs K m H ds xs
theorem IsSrc.mono{K:Qqq}(h:IsSrc K m H s Jq)(b:Sub m c)(t:Tr H H'):IsSrc K c H' s Jq:=by
 cases s with
 |rng lo n=>exact h
 |tup ds=>obtain⟨a,xs,e,q,r⟩:=h; exact⟨a,xs,e,t.sqT q,qza b t ds xs r⟩
 |lst l=>obtain⟨a,e,q⟩:=h; exact⟨a,e.mono b t,q⟩
 |zip x y=>obtain⟨f,d,a,g,e,h1,h2⟩:=h; exact⟨f,d,a,g,e,h1.mono b t,h2.mono b t⟩
 |enu x=>obtain⟨k,a,e,h⟩:=h; exact⟨k,a,e,h.mono b t⟩
 |rev ds=>obtain⟨a,xs,e,q,r⟩:=h; exact⟨a,xs,e,t.sqT q,qza b t ds xs r⟩
def IsSrc.done{K:Qqq}{st:Y2}(h:IsSrc K m H s Jq)(f:Rel K m st H)(e:s.at st i=Y B):Jq.stop i H:=by
 cases s with
 |rng lo n=>
  cases h;simp only[Src.at]at e
  split at e
  ·cases e
  ·rename_i q;exact Nat.not_lt.mp q
 |tup ds=>
  obtain⟨a,xs,rfl,q,r⟩:=h;simp only[Src.at,Option.some.injEq]at e;exact⟨xs,q,by rw[<- r.length]; exact Qzg.mp e⟩
 |lst l=>
  obtain⟨a,w,rfl⟩:=h;simp only[Src.at]at e;refine qzd e λds d c=>?_;obtain⟨xs,q,r⟩:=w.sq' f d;exact⟨xs,q,by rw[<- r.length]; exact Qzg.mp c⟩
 |zip x y=>
  obtain⟨A,z,a,b,rfl,h1,h2⟩:=h;simp only[Src.at]at e;refine qzx e λds d e=>qzd e λes c g=>?_;obtain⟨xs,v,t⟩:=h1.sq f d;obtain⟨ys,u,p⟩:=h2.sq f c;refine⟨xs,ys,v,u,?_⟩;unfold M.pairAt at g;rw[<- t.length,<- p.length]
  cases o:ds[i]? with
  |none=>exact .inl (Qzg.mp o)
  |some D=>
   cases j:es[i]? with
   |none=>exact .inr (Qzg.mp j)
   |some C=>rw[o,j]at g; cases g
 |enu x=>
  obtain⟨k,a,rfl,h⟩:=h;simp only[Src.at]at e;refine qzd e λds d c=>?_;obtain⟨xs,q,r⟩:=h.sq f d;exact⟨xs,q,by rw[<- r.length]; exact Qzg.mp (Qkj.mp c)⟩
 |rev ds=>
  obtain⟨a,xs,rfl,q,r⟩:=h;simp only[Src.at]at e;show xs.length<=i;rw[<- r.length]
  split at e
  ·rw[Qqi (by omega)]at e; cases e
  ·omega
def IsSrc.next{K:Qqq}{st:Y2}(h:IsSrc K m H s Jq)(E:Rel K m st H)(e:s.at st i=Y (Y d)):Jq.go i H/\∀x H',Jq.yld i H x H'->Same H H'/\MS.IsD K m H' d x:=by
 cases s with
 |rng lo n=>
  cases h;simp only[Src.at]at e
  split at e
  ·rename_i q;cases e;refine⟨q,?_⟩;rintro x H' ⟨rfl,rfl⟩;exact⟨λ_ _ z=>z,mkInt _⟩
  ·cases e
 |tup ds=>
  obtain⟨a,xs,rfl,q,r⟩:=h;simp only[Src.at,Option.some.injEq]at e;obtain⟨x,ex,c⟩:=r.get e;refine⟨⟨xs,x,q,ex⟩,?_⟩;rintro y H' ⟨rfl,z⟩;have:=z xs q;rw[ex]at this;cases this;exact⟨λ_ _ z=>z,c⟩
 |lst l=>
  obtain⟨a,W,rfl⟩:=h;simp only[Src.at]at e;refine qzd e λds A t=>?_;obtain⟨xs,q,r⟩:=W.sq' E A;obtain⟨x,ex,c⟩:=r.get t;refine⟨⟨xs,x,q,ex⟩,?_⟩;rintro y H' ⟨rfl,z⟩;have:=z xs q;rw[ex]at this;cases this;exact⟨λ_ _ z=>z,c⟩
 |zip u v=>
  obtain⟨k1,k2,a,b,rfl,h1,h2⟩:=h;simp only[Src.at]at e;refine qzx e λds A e=>qzd e λes t f=>?_;obtain⟨xs,P,U⟩:=h1.sq E A;obtain⟨ys,N,T⟩:=h2.sq E t;unfold M.pairAt at f
  cases C:ds[i]? with
  |none=>rw[C]at f; cases f
  |some d1=>
   cases F:es[i]? with
   |none=>rw[C,F]at f; cases f
   |some d2=>
    rw[C,F]at f;cases f;obtain⟨x,ex,c⟩:=U.get C;obtain⟨y,R,V⟩:=T.get F;refine⟨⟨xs,ys,x,y,P,N,ex,R⟩,?_⟩;rintro w H' ⟨p,S,y',rfl,G,rfl,I,X⟩;have j:=I xs P;rw[ex]at j;cases j;have Q:=X ys N;rw[R]at Q;cases Q;have g:=qzv (o:=.tup [x,y]) G;exact⟨g,qqu (SqT.of qzk) (qza (Sub.refl _) (Tr.of_same g) _ _ (qzm c (qzm V qqz)))⟩
 |enu u=>
  obtain⟨k,a,rfl,h⟩:=h;simp only[Src.at]at e;refine qzd e λds A t=>qzd t λd0 f e4=>?_;cases e4;obtain⟨xs,q,r⟩:=h.sq E A;obtain⟨x,ex,c⟩:=r.get f;refine⟨⟨xs,x,q,ex⟩,?_⟩;rintro w H' ⟨p,S,rfl,G,rfl,I⟩;have j:=I xs q;rw[ex]at j;cases j;have g:=qzv (o:=.tup [.int i,x]) G;exact⟨g,qqu (SqT.of qzk) (qza (Sub.refl _) (Tr.of_same g) _ _ (qzm (mkInt _) (qzm c qqz)))⟩
 |rev ds=>
  obtain⟨a,xs,rfl,q,r⟩:=h;simp only[Src.at,Option.some.injEq]at e;have rl:=r.length
  split at e
  ·obtain⟨x,ex,c⟩:=r.get e;rw[rl]at ex;refine⟨⟨xs,x,q,rfl,by omega,ex⟩,?_⟩;rintro y H' ⟨rfl,z⟩;have:=z xs q;rw[ex]at this;cases this;exact⟨λ_ _ z=>z,c⟩
  ·exact nn e
noncomputable def tI(K:Qqq)(f:Sl->Y2->Y4 (Src×Y2)):TI:=λσ H R=>∃m st τ s st',Rel K m st H/\SlotOk K m H τ σ/\f τ st=Y (s,st')/\∀m' H' Jq,Sub m m'->Tr H H'->Rel K m' st' H'->IsSrc K m' H' s Jq->R Jq H'
def tI.el{K:Qqq}{P:Prop}(h:tI K f g H Q)(k:∀m st τ s st',Rel K m st H->SlotOk K m H τ g->f τ st=Y (s,st')->(∀m' H' Jq,Sub m m'->Tr H H'->Rel K m' st' H'->IsSrc K m' H' s Jq->Q Jq H')->P):P:=by
 rcases h with⟨m,st,τ,d,st',a,b,c,e⟩
 exact k m st τ d st' a b c e
def _root_.L2.PI.imp(h:PI X tg e t)(f:∀σ H R,t' σ H R->t σ H R):PI X tg e t':=λpins s σ H Q I q=>h pins s σ H Q I (f σ H Q q)
def PostO(K:Qqq)(m:L Y8)(H:Hp)(o:Out)(st':Y2)(Dn:Ends):Prop:=∀m' H',Sub m m'->Tr H H'->Rel K m' st' H'->match o with
 |.nx τ=>∀σ',SlotOk K m' H' τ σ'->Dn.nx σ' H'
 |.rt d=>∀v,IsD K m' H' d v->Dn.rt v H'
 |.bk τ=>∀σ',SlotOk K m' H' τ σ'->Dn.bk σ' H'
 |.ct τ=>∀σ',SlotOk K m' H' τ σ'->Dn.ct σ' H'
def PostO.mono{K:Qqq}(p:PostO K m H o st' Dn)(s:Sub m a)(t:Tr H b):PostO K a b o st' Dn:=λm' H' s' c r=>p m' H' (s.trans s') (t.trans c) r
noncomputable def tS(K:Qqq)(f:Sl->Y2->Y4 (Out×Y2)):TS:=λDn σ H=>∃m st τ o st',Rel K m st H/\SlotOk K m H τ σ/\f τ st=Y (o,st')/\PostO K m H o st' Dn
def PostO.of{K:Qqq}(q:PostO K m H d s Q)(e:Y (d',a)=Y (d,s)):PostO K m H d' a Q:=by cases e; exact q
def tS.el{K:Qqq}{P:Prop}(h:tS K f i g H)(k:∀m st τ o st',Rel K m st H->SlotOk K m H τ g->f τ st=Y (o,st')->PostO K m H o st' i->P):P:=by
 rcases h with⟨m,st,τ,d,st',a,b,c,e⟩
 exact k m st τ d st' a b c e
structure AllOk (fns:L Fn) (dl n:Y1):Prop where
 e:∀c X,Good fns dl c X->∀{j} e p,CkN j c e p->PE X p (tD X.K λτ st=>(M.rn fns dl n).ev τ st e)
 t:∀c X,Good fns dl c X->∀{j} e p,CkN j c e p->PT X p (tTs X.K λτ st=>(M.rn fns dl n).tst τ st e)
 w:∀c X,Good fns dl c X->∀{j} e op ps pos,CkN j c e (.BoolOp op ps pos)->PW X (.BoolOp op ps pos) (tTs X.K λτ st=>(M.rn fns dl n).tst τ st e)
 s:∀c X,Good fns dl c X->(∀x,X.fn x=Z)->∀ss ps,CkSs c ss ps->PSs X ps (tS X.K λτ st=>(M.rn fns dl n).ex τ st ss)
def qbn(fns)(dl):AllOk fns dl 0 where
 e:=λc X G j e p h pins s σ H Q I q=>by obtain⟨m,st,τ,d,st',_,_,z,_⟩:=q; cases z
 t:=λc X G j e p h pins s σ H Q I q=>by obtain⟨m,st,τ,d,st',_,_,z,_⟩:=q; cases z
 w:=λc X G j e f ps pos h a pins s σ H Q I q=>by obtain⟨m,st,τ,d,st',_,_,z,_⟩:=q; cases z
 s:=λc X G hf b ps h pins s σ H Q I q=>by obtain⟨m,st,τ,d,st',_,_,z,_⟩:=q; cases z
section
variable {fns:L Fn}{dl n j:Y1}{c:Ctx}{X:Cx}
theorem qzr(A:AllOk fns dl n)(G:Good fns dl c X):∀{es}{ps},CkL (CkN j c) es ps->PA X ps (tL X.K λτ st=>M.evs ((M.rn fns dl n).ev τ) es st)
 |_,_,.nil=>pa_nil.imp λ_ _ _ h=>tL_nil h
 |_,_,.cons h t=>(qqn (A.e c X G _ _ h) (qzr A G t) (h.star _ _)).imp λ_ _ _ q=>
   qlq q
def CkN.plain(h:CkN j c e p):qvs e=true:=by
 cases j with
 |zero=>cases h
 |succ j=>
  cases h with
  |of _ a=>exact a
  |gc=>rfl
def qca(h:qvs e=Z)(r)(τ)(st):M.src r τ st e=(r.ev τ st e).bind λp=>match p.1 with
   |.tup ds=>Y (.tup ds,p.2)
   |d=>(M.seqAt p.2 d).map λ_=>(.lst d,p.2):=by
 cases e with
 |rng1 _=>cases h
 |rng2 _ _=>cases h
 |zip _ _=>cases h
 |enu _=>cases h
 |rev _=>cases h
 |_=>rfl
def qw9(A:AllOk fns dl n)(G:Good fns dl c X)(h:CkI (CkN j c) c tg it I):PI X tg I (tI X.K λτ st=>M.src (M.rn fns dl n) τ st it):=by
 have seq:∀{e p},CkN j c e p->(∀τ st,M.src (M.rn fns dl n) τ st e=((M.rn fns dl n).ev τ st e).bind λp=>match p.1 with
   |.tup ds=>Y (.tup ds,p.2)
   |d=>(M.seqAt p.2 d).map λ_=>(.lst d,p.2))->PI X tg p (tI X.K λτ st=>M.src (M.rn fns dl n) τ st e):=by
  intro e p V S;refine(pi_seq (A.e c X G e p V)).imp λσ H R q=>q.el λm st τ s st' w v f q=>?_;have f:=(S τ st).symm.trans f;refine qzj f λd z u f=>rsI w v u λx m1 H1 b1 t1 o r=>?_
  cases d with
  |tup ds=>
   cases f;obtain⟨a,xs,rfl,C,t⟩:=r.tup;exact⟨a,rfl,.inr ⟨⟨xs,C⟩,q m1 H1 _ b1 t1 o ⟨a,xs,rfl,C,t⟩⟩⟩
  |loc l=>
   refine qzd f λds N K=>?_;cases K;obtain⟨a,rfl,g,xs,C⟩:=qwz r o N;exact⟨a,rfl,.inl ⟨⟨xs,C⟩,q m1 H1 _ b1 t1 o ⟨a,g,rfl⟩⟩⟩
  |lst l=>
   refine qzd f λds N K=>?_;cases K;obtain⟨a,rfl,g,xs,C⟩:=qwz r o N;exact⟨a,rfl,.inl ⟨⟨xs,C⟩,q m1 H1 _ b1 t1 o ⟨a,g,rfl⟩⟩⟩
  |_=>exact nn f
 cases h with
 |@rng1 _ a U p0 pos F g=>
  refine(qcu (G.gl F) (G.no rfl) (qzr A G (.cons g .nil)) (by rw[g.star]; rfl)).imp λσ H R q=>?_;refine q.el λm st τ s st' w v f q=>qzj f λd z u f=>?_
  cases d with
  |int k=>
   dsimp only at f
   split at f
   ·exact nn f
   ·rename_i hb;cases f;unfold M.big at hb;simp only[Qza,decide_eq_true_eq]at hb;refine rsI (d:=[.int k]) (st':=st') w v ?_ λxs m1 H1 b1 t1 o r=>?_
    ·show(((M.rn fns dl n).ev τ st a).bind λp=>(Y (([]:L D),p.2)).bind λq=>Y (p.1::q.1,q.2))=_;rw[u]; rfl
    ·obtain⟨x,rfl,t⟩:=r.one;cases t.int;exact⟨k,rfl,by omega,by omega,q m1 H1 _ b1 t1 o rfl⟩
  |_=>exact nn f
 |@rng2 _ a b U pb p0 pos F g hb=>
  refine(qct (G.gl F) (G.no rfl) (qzr A G (.cons g (.cons hb .nil))) (by rw[g.star,hb.star]; rfl) (by rw[hb.star]; rfl)).imp λσ H R q=>?_;refine q.el λm st τ s st' w v f q=>qzj f λd z u f=>qzj f λd' s2 N f=>?_;dsimp only at f
  split at f
  ·rename_i i j _
   split at f
   ·exact nn f
   ·rename_i hb;cases f;unfold M.big at hb;simp only[Qza,decide_eq_true_eq]at hb;refine rsI (d:=[.int i,.int j]) (st':=st') w v ?_ λxs m1 H1 b1 t1 o r=>?_
    ·show(((M.rn fns dl n).ev τ st a).bind λp=>(((M.rn fns dl n).ev τ p.2 b).bind λp=>(Y (([]:L D),p.2)).bind λq=>Y (p.1::q.1,q.2)).bind λq=>Y (p.1::q.1,q.2))=_;rw[u];show(((M.rn fns dl n).ev τ z b).bind λp=>(Y (([]:L D),p.2)).bind λq=>Y (p.1::q.1,q.2)).bind _=_;rw[N]; rfl
    ·obtain⟨x,y,rfl,t,Q⟩:=r.two;cases t.int;cases Q.int;exact⟨i,j,rfl,⟨by omega,by omega,by omega,by omega⟩,q m1 H1 _ b1 t1 o rfl⟩
  ·exact nn f
 |@zip ts k tp a b U pb p0 pos F g hb=>
  refine(pi_zip (G.gl F) (G.no rfl) (qzr A G (.cons g (.cons hb .nil))) (by rw[g.star,hb.star]; rfl) (by rw[hb.star]; rfl)).imp λσ H R q=>?_;obtain⟨m,st,τ,s,st',w,v,f,q⟩:=q;refine qzj f λd z u f=>qzj f λd' s2 N f=>qzx f λds K f=>qzd f λes e5 W=>?_;cases W;refine rsI (d:=[d,d']) (st':=s2) w v ?_ λxs m1 H1 b1 t1 o r=>?_
  ·show(((M.rn fns dl n).ev τ st a).bind λp=>(((M.rn fns dl n).ev τ p.2 b).bind λp=>(Y (([]:L D),p.2)).bind λq=>Y (p.1::q.1,q.2)).bind λq=>Y (p.1::q.1,q.2))=_;rw[u];show(((M.rn fns dl n).ev τ z b).bind λp=>(Y (([]:L D),p.2)).bind λq=>Y (p.1::q.1,q.2)).bind _=_;rw[N]; rfl
  ·obtain⟨x,y,rfl,t,Q⟩:=r.two;obtain⟨P,T,rfl,h1,w1⟩:=qk9 t o K;obtain⟨k2,a2,rfl,h2,w2⟩:=qk9 Q o e5;exact⟨P,k2,T,a2,rfl,w1,w2,q m1 H1 _ b1 t1 o ⟨P,k2,T,a2,rfl,h1,h2⟩⟩
 |@enu ts k tp a U p0 pos F g=>
  refine(ql2 (G.gl F) (G.no rfl) (qzr A G (.cons g .nil)) (by rw[g.star]; rfl)).imp λσ H R q=>?_;refine q.el λm st τ s st' w v f q=>qzj f λd z u f=>qzd f λds K W=>?_;cases W;refine rsI (d:=[d]) (st':=z) w v ?_ λxs m1 H1 b1 t1 o r=>?_
  ·show(((M.rn fns dl n).ev τ st a).bind λp=>(Y (([]:L D),p.2)).bind λq=>Y (p.1::q.1,q.2))=_;rw[u]; rfl
  ·obtain⟨x,rfl,t⟩:=r.one;obtain⟨P,T,rfl,h1,w1⟩:=qk9 t o K;exact⟨P,T,rfl,w1,q m1 H1 _ b1 t1 o ⟨P,T,rfl,h1⟩⟩
 |@rev _ a U p0 pos F g=>
  refine(pi_rev (G.gl F) (G.no rfl) (qzr A G (.cons g .nil)) (by rw[g.star]; rfl)).imp λσ H R q=>?_;refine q.el λm st τ s st' w v f q=>qzj f λd z u f=>?_
  cases d with
  |tup ds=>
   cases f;refine rsI (d:=[.tup ds]) (st':=z) w v ?_ λxs m1 H1 b1 t1 o r=>?_
   ·show(((M.rn fns dl n).ev τ st a).bind λp=>(Y (([]:L D),p.2)).bind λq=>Y (p.1::q.1,q.2))=_;rw[u]; rfl
   ·obtain⟨x,rfl,t⟩:=r.one;obtain⟨a,xs,rfl,C,Q⟩:=t.tup;exact⟨a,xs,rfl,C,q m1 H1 _ b1 t1 o ⟨a,xs,rfl,C,Q⟩⟩
  |_=>exact nn f
 |@seq _ e p V=>
  exact seq V (qca (CkN.plain V) _)
def qgj(A:AllOk fns dl n)(G:Good fns dl c X)(h:CkO (CkN j c) o p):PO X p (λσ H Q=>∃m st τ l st',Rel X.K m st H/\SlotOk X.K m H τ σ/\M.part (M.rn fns dl n) τ st o=Y (l,st')/\∀m' H',Sub m m'->Tr H H'->Rel X.K m' st' H'->Q l H'):=by
 cases h with
 |none=>
  intro pins s σ H Q I q;obtain⟨m,st,τ,l,st',a,g,e,k⟩:=q;cases e;exact ql0 pins s σ H Q I (k m H (Sub.refl m) (Tr.refl H) a)
 |@some e p h=>
  intro pins s σ H Q I q;obtain⟨m,st,τ,l,st',a,g,w,k⟩:=q;refine qzj w λd y u f=>?_
  cases d with
  |int i=>
   cases f;exact qlu (A.e c X G e p h) pins s σ H Q I (rsI a g u λv m' H' b t x r=>⟨i,r.int,k m' H' b t x⟩)
  |_=>exact nn f
noncomputable def gIs:L Y1->TGs
 |[]=>gNil
 |i::is=>gCons (qyq i) (gIs is)
noncomputable def gT(K:Qqq):T->TG
 |.var i=>qyq i
 |.tup is=>gTup K is.length (gIs is)
theorem qiw{K:Qqq}:∀{is}{ds}{xs}{τ a}{f},IsDs K m H ds xs->SlotOk K m H τ f->M.setIs is ds τ=Y a->(∀b,SlotOk K m H a b->Q b H)->gIs is xs f H Q
 |[],[],xs,τ,a,f,g,S0,e,k=>by
  cases e;exact⟨g.nil,k f S0⟩
 |i::is,d::ds,xs,τ,a,f,g,S0,e,k=>by
  obtain⟨x,r,rfl,q,t⟩:=g.cons;unfold M.setIs at e
  split at e
  ·exact⟨x,r,rfl,qiw t (S0.put q) e k⟩
  ·exact nn e
 |[],_::_,_,_,_,_,_,_,e,_=>by cases e
 |_::_,[],_,_,_,_,_,_,e,_=>by cases e
theorem qvo:∀{is}{ds}{τ a},M.setIs is ds τ=Y a->is.length=ds.length
 |[],[],_,_,_=>rfl
 |i::is,d::ds,τ,a,e=>by
  unfold M.setIs at e
  split at e
  ·rw[Qqg,Qqg,qvo e]
  ·exact nn e
 |[],_::_,_,_,e=>by cases e
 |_::_,[],_,_,e=>by cases e
def qnw{K:Qqq}(h:IsD K m H d v)(l:SlotOk K m H τ f)(e:M.setT t d τ=Y τ')(k:∀b,SlotOk K m H τ' b->Q b H):gT K t v f H Q:=by
 cases t with
 |var i=>
  have e:(if i<τ.length then Y (τ.set i (Y d)) else B)=Y τ':=e
  split at e
  ·cases e;exact k _ (l.put h)
  ·exact nn e
 |tup p=>
  cases d with
  |tup ds=>
   obtain⟨a,xs,rfl,o,g⟩:=h.tup;exact⟨a,xs,rfl,o,by rw[<- g.length,qvo e],qiw g l e k⟩
  |_=>exact nn e
def qjk(G:Good fns dl c X){i:Y1}(h:c.N[i]?=Y x):X.N[i]?=Y x:=by rw[G.N]; exact h
def qe7:Qd ("any" : Y6)=Y (.builtin "any"):=by decide +kernel
def qe8:Qd ("all" : Y6)=Y (.builtin "all"):=by decide +kernel
def qe6:Qd ("int" : Y6)=Y (.type "int"):=by decide +kernel
def qbm:Qd ("bool" : Y6)=Y (.type "bool"):=by decide +kernel
def qe3:Qd ("str" : Y6)=Y (.type "str"):=by decide +kernel
def qwg:Qd ("isinstance" : Y6)=Y (.builtin "isinstance"):=by decide +kernel
def qwe:Qd ("sorted" : Y6)=Y (.builtin "sorted"):=by decide +kernel
def qe4:Qd ("set" : Y6)=Y (.type "set"):=by decide +kernel
def qwf:Qd ("len" : Y6)=Y (.builtin "len"):=by decide +kernel
def qe5:Qd ("min" : Y6)=Y (.builtin "min"):=by decide +kernel
def qkn:Qd ("list" : Y6)=Y (.type "list"):=by decide +kernel
def qbl:Qd ("dict" : Y6)=Y (.type "dict"):=by decide +kernel
def qj2:Qd ("tuple" : Y6)=Y (.type "tuple"):=by decide +kernel
def ty_ok(G:Good fns dl c X){t:M.Ty}(b:t≠.non)(a:c.sc.names.lookup (Str.ofString t.name)=Y .globalImplicit):PE X (.Name (Str.ofString t.name) pos) (tC (.ty t.name)):=by
 cases t with
 |non=>exact absurd rfl b
 |bl=>exact qjf (G.gl a) (G.no rfl) qbm rfl (by decide) (by decide)
 |int=>exact qjf (G.gl a) (G.no rfl) qe6 rfl (by decide) (by decide)
 |str=>exact qjf (G.gl a) (G.no rfl) qe3 rfl (by decide) (by decide)
 |tup=>exact qjf (G.gl a) (G.no rfl) qj2 rfl (by decide) (by decide)
 |lst=>exact qjf (G.gl a) (G.no rfl) qkn rfl (by decide) (by decide)
noncomputable def tCs:L V->TA
 |[]=>tNil
 |v::vs=>qlx (tC v) (tCs vs)
theorem qcq:∀(vs:L V) (a:L2.St) (H:Hp) (Q:L V->Hp->Prop),Q vs H->tCs vs a H Q
 |[],_,_,_,h=>h
 |v::vs,a,H,Q,h=>qcq vs a H (λxs H2=>Q (v::xs) H2) h
theorem qhg(G:Good fns dl c X):∀{a}{ps},CkTys c a ps->PA X ps (tCs (a.map λt=>V.ty t.name))/\∀t∈a,t≠.non
 |_,_,.nil=>⟨pa_nil,λ_ h=>nomatch h⟩
 |_,_,.cons b e h=>by
  obtain⟨h1,h2⟩:=qhg G h;refine⟨qqn (ty_ok G b e) h1 rfl,λt d=>?_⟩;rcases Qqa.mp d with z|z
  ·rw[z]; exact b
  ·exact h2 t z
end
section
variable {fns:L Fn}{dl n j:Y1}{c:Ctx}{X:Cx}
def qio:UnR X (unaryOp .USub) (rU1 X.K λst d=>match d with|.int i=>Y (.int (-i),st)|_=>B):=by
 intro pins s σ H x v Q I b h;refine h.el λm st a d st' g f e q=>?_
 cases a with
 |int i=>
  have q:=q.of e;exact un_neg pins s σ H x v Q I b ⟨i,f.int,q.here g (mkInt _)⟩
 |_=>exact nn e
def qki(G:Good fns dl c X)(h:CpOk c scope sr N e t):CompScope X N sr scope:=
 ⟨h.kind,h.cell,λy f hf=>by
  have:=h.free y f hf;show X.env.scope.names.lookup y.1=_\/X.env.scope.names.lookup y.1=_;rw[G.sc]; exact this,h.loc,h.len,λj i q=>by
  obtain⟨x,a,b,d⟩:=h.src j i q
  exact⟨x,a,qjk G b,d⟩⟩
noncomputable def tOpt(K:Qqq)(r:R):Y4 E->TT
 |none=>λ_ H Q=>Q Z H
 |some c=>tTs K λτ st=>r.tst τ st c
def qhi(A:AllOk fns dl n)(G:Good fns dl c X)(h:CkO (CkN j c) q a):qbp X a.toList (tOpt X.K (M.rn fns dl n) q):=by
 cases h with
 |none=>exact qfo
 |some h=>exact qfn (A.t _ _ G _ _ h)
def qgt{K:Qqq}(sr)(h:SlotOk K m H τ f):SlotOk K m H (M.inner sr τ) (qq2 sr f):=by
 refine⟨by unfold M.inner qq2; rw[Qqx,Qqx],λj d e=>?_⟩;unfold M.inner at e;rw[Qqw]at e;unfold qq2;rw[Qqw]
 cases q:sr[j]? with
 |none=>rw[q]at e; cases e
 |some o=>
  rw[q]at e
  cases o with
  |none=>cases e
  |some i=>
   have hi:τ[i]?=Y (Y d):=by
    cases z:τ[i]? with
    |none=>simp[z]at e
    |some w=>
     cases w with
     |none=>simp[z]at e
     |some w=>simpa[z] using e
   obtain⟨v,a,b⟩:=h.at_ i d hi;refine⟨v,?_,b⟩;simp[a]
def comp_W{K:Qqq}{Q:VK}(R1:Rel K H F N)(hJ:IsSrc K H N s Jq)(S1:SlotOk K H N A P)(e2:M.loopC s (M.turnC r t q elt) k0 0 [] A F=Y u)(a2:∀l H' a,Sub H l->Tr N H'->Rel K l u.2 H'->IsDs K l H' u.1 a->∀S,H' S=B->Q (.ref S) (upd H' S (.lst a))):
  ∃W:Y1->Y1->L V->L2.St->Hp->Prop,(∃k,W 0 k [] P N)/\
 ∀i k a f H',W i k a f H'->(Jq.stop i H'/\a.length<=sizeLine/\∀p,H' p=B->Q (.ref p) (upd H' p (.lst a)))\/(Jq.go i H'/\a.length<sizeLine/\∀x H2,Jq.yld i H' x H2->gT K t x f H2 λm H3=>tOpt K r q m H3 λb H4=>
  if b=Z then tD K (λτ st=>r.ev τ st elt) m H4 λv H5=>∃U,U<k/\W (i+1) U (a++[v]) m H5 else ∃U,U<k/\W (i+1) U a m H4):=by
 refine⟨λi' k a f H'=>∃l C w d,Sub H l/\Tr N H'/\Rel K l C H'/\SlotOk K l H' w f/\IsDs K l H' d a/\M.loopC s (M.turnC r t q elt) k i' d w C=Y u,
  ⟨_,H,F,A,[],Sub.refl _,Tr.refl _,R1,S1,qqz,e2⟩,?_⟩
 rintro j k a f H' ⟨l,C,w,d,b2,t2,R2,S2,G,e⟩
 cases k with
 |zero=>exact nn e
 |succ k=>
  have e:=e;refine qzx e λo e5 e=>?_;have l1:=G.length;have l2:=qqy
  cases o with
  |none=>
   dsimp only at e
   split at e
   ·exact nn e
   ·rename_i hl;cases e;refine .inl ⟨(hJ.mono b2 t2).done R2 e5,by lia,λS hp=>?_⟩;exact a2 l H' a b2 t2 R2 G S hp
  |some d'=>
   dsimp only at e
   split at e
   ·exact nn e
   ·rename_i hl;obtain⟨a1,hy⟩:=(hJ.mono b2 t2).next R2 e5;refine .inr ⟨a1,by lia,λx H2 a0=>?_⟩;obtain⟨sm,ix⟩:=hy x H2 a0;have t2:=t2.trans (Tr.of_same sm);have R2:=R2.same sm;have S2:=S2.mono (Sub.refl _) (Tr.of_same sm);have G:=qza (Sub.refl _) (Tr.of_same sm) _ _ G;refine qzx e λz h e=>?_;unfold M.turnC at h;refine qzx h λa4 e7 h=>qnw ix S2 e7 λa5 I=>?_
    ·cases q with
     |none=>
      unfold tOpt;dsimp only at h ⊢;refine qzd h λy e8 e9=>?_;cases e9;rw[Z8 rfl];refine rsI R2 I e8 λv m3 H3 b3 g R3 i3=>⟨k,Qzb k,m3,y.2,_,d++[y.1],b2.trans b3,t2.trans g,R3,I.mono b3 g,(qza b3 g _ _ G).append (qzm i3 qqz),e⟩
     |some cq=>
      unfold tOpt;refine qzx h λbb e8 h=>rsI R2 I e8 λm3 H3 b3 g R3=>?_
      cases hb:bb.1 with
      |true=>
       rw[hb,Z8 rfl]at h;rw[Z8 rfl];refine qzd h λy e9 a3=>?_;cases a3;refine rsI R3 (I.mono b3 g) e9 λv m4 H4 b4 t4 R4 i4=>⟨k,Qzb k,m4,y.2,_,d++[y.1],b2.trans (b3.trans b4),t2.trans (g.trans t4),R4,I.mono (b3.trans b4) (g.trans t4),(qza (b3.trans b4) (g.trans t4) _ _ G).append (qzm i4 qqz),e⟩
      |false=>
       rw[hb,Z7 Qq0]at h;cases h;rw[Z7 Qq0];exact⟨k,Qzb k,m3,bb.2,_,d,b2.trans b3,t2.trans g,R3,I.mono b3 g,qza b3 g _ _ G,e⟩
def qb9{K:Qqq}(h:tD K (λτ st=>M.stepEv r τ st (.comp t it q elt sr)) b H Q):
  qlj sr (tI K λτ st=>M.src r τ st it) (gT K t) (tOpt K r q) (tD K λτ st=>r.ev τ st elt) b H Q:=by
 refine h.el λm st τ d st' z g e a=>?_;have e:=e;refine qzx e λp w e=>qzd e λi v u=>rsI z g w λm1 H1 Jq b1 t1 y s=>comp_W y s (qgt sr (g.mono b1 t1)) v λl H' x b2 t2 R2 o k f=>?_;cases u;exact a _ (l++[k]) _ (b1.trans (b2.trans (Sub.app _ _))) (t1.trans (t2.trans (Tr.of_same (qzv f)))) (R2.new f o) R2.newLoc
theorem qkw(G:Good fns dl c X):∀{is}{es},CkTs c is es->(∀i∈is,∀x,c.N[i]?=Y x->X.fn x=Z\/c.sc.names.lookup x=Y .local)->PGs X es (gIs is)/\(Q7 es X.env).length=is.length/\(Q7 es X.env).findIdx? (·.1)=B
 |_,_,.nil,_=>⟨ql4,rfl,rfl⟩
 |_,_,.cons (i:=i) (x:=x) (pos:=pos) (is:=is) (es:=es) a b h,hf=>by
  obtain⟨h1,h2,e⟩:=qkw G h λj hj=>hf j (Qqs _ hj);have d:PG X (.Name x pos) (qyq i):=qc0 (by rw[G.N]; exact G.nd) (qjk G a) (by rw[G.sc]; exact b) (by rw[G.sc]; exact hf i Qq2 x a);refine⟨qgw d h1 rfl,?_,?_⟩
  ·show(Q7 es X.env).length+1=is.length+1;rw[h2]
  ·show List.findIdx? (·.1) ((Y7,assign (.Name x pos) X.env)::Q7 es X.env)=B;rw[List.findIdx?_cons,e]
   rfl
def qxj(G:Good fns dl c X)(h:CkT c t tg)(hf:∀i∈t.slots,∀x,c.N[i]?=Y x->X.fn x=Z\/c.sc.names.lookup x=Y .local):PG X tg (gT X.K t):=by
 cases h with
 |@var i x pos a b=>exact qc0 (by rw[G.N]; exact G.nd) (qjk G a) (by rw[G.sc]; exact b) (by rw[G.sc]; exact hf i (by simp[T.slots]) x a)
 |@tup e es k pos h=>
  obtain⟨h1,h2,d⟩:=qkw G h hf;exact pg_tup G.calm h1 h2 d
noncomputable def qiu(r:R)(K:Qqq):L E->L (TE×TE)
 |k::v::es=>(tD K λτ st=>r.ev τ st k,tD K λτ st=>r.ev τ st v)::qiu r K es
 |_=>[]
noncomputable def twos:L V->L (V×V)
 |x::y::r=>(x,y)::twos r
 |_=>[]
theorem qv1(A:AllOk fns dl n)(G:Good fns dl c X):∀{es}{ks}{vs},CkP (CkN j c) es ks vs->PPs X pos ks vs (qiu (M.rn fns dl n) X.K es)/\ks.all (·.isSome)=Z/\ks.length=vs.length
 |_,_,_,.nil=>⟨qlt,rfl,rfl⟩
 |_,_,_,.cons a hv t=>by
  obtain⟨h1,h2,b⟩:=qv1 A G t;refine⟨qgx (A.e c X G _ _ a) (A.e c X G _ _ hv) h1,?_,?_⟩
  ·rw[Qzi,h2]; rfl
  ·rw[Qqg,Qqg,b]
theorem qv0{K:Qqq}:∀{es}{ks}{vs}{c}{m}{st st'}{H}{τ}{b}{ds}{Q},CkP (CkN j c) es ks vs->Rel K m st H->SlotOk K m H τ b->M.evs (r.ev τ) es st=Y (ds,st')->
  (∀xs m' H',Sub m m'->Tr H H'->Rel K m' st' H'->IsDs K m' H' ds xs->Q (twos xs) H')->qyi (qiu r K es) b H Q
 |_,_,_,c,m,st,st',H,τ,b,ds,Q,.nil,f,S0,e,q=>by
  cases e;exact q [] m H (Sub.refl m) (Tr.refl H) f qqz
 |_,_,_,c,m,st,st',H,τ,b,ds,Q,.cons G hv t,f,S0,e,q=>by
  have e:=e;refine qzj e λN C p e=>qzx e λw a e=>qzj a λI A o a=>qzx a λu l a=>?_;cases a;cases e;exact rsI f S0 p λx m1 H1 b1 t1 v k=>rsI v (S0.mono b1 t1) o λy F H2 b2 t2 R2 i=>qv0 t R2 (S0.mono (b1.trans b2) (t1.trans t2)) l λxs g z b3 d s h=>q (x::y::xs) g z (b1.trans (b2.trans b3)) (t1.trans (t2.trans d)) s (qzm (qzw (b2.trans b3) (t2.trans d) _ _ k) (qzm (qzw b3 d _ _ i) h))
theorem qy3{K:Qqq}:∀{ds}{xs}{kvs},IsDs K m H ds xs->M.pairUp ds=Y kvs->∃ys:L (Key×V),IsKV K m H kvs ys/\twos xs=ys.map λf=>(kV f.1,f.2)
 |[],xs,kvs,b,e=>by
  cases e;rw[b.nil];exact⟨[],rfl,rfl⟩
 |[d],xs,kvs,b,e=>by cases e
 |d::d'::ds,xs,kvs,b,e=>by
  have e:(if M.isKey d then(M.pairUp ds).map ((d,d')::·) else B)=Y kvs:=e
  split at e
  ·rename_i q;refine qzd e λu s r=>?_;subst r;obtain⟨x,t,rfl,o,l⟩:=b.cons;obtain⟨y,g,rfl,i,h⟩:=l.cons;obtain⟨k,a⟩:=qq1 q;have p:=qm0 a o;subst p;obtain⟨ys,h1,h2⟩:=qy3 h s;refine⟨(k,y)::ys,⟨k,y,ys,rfl,a,i,h1⟩,?_⟩;show(kV k,y)::twos g=_;rw[h2]
   rfl
  ·exact nn e
def qkt{K:Qqq}(h:tD K (λτ st=>M.stepEv r τ st (.meth a k es)) o H Q):
  tBM K "list" (λx xs H Q=>∃m st a ds d st',Rel K m st H/\IsD K m H a x/\IsDs K m H ds xs/\M.mfun st k a ds=Y (d,st')/\Post K m H d st' Q) (tD K λτ st=>r.ev τ st a) (tL K λτ st=>M.evs (r.ev τ) es st) o H Q:=by
 refine h.el λm st τ d st' D s b e=>qzj b λi u C b=>?_
 split at b
 ·rename_i f;refine qzx b λq A b=>rsI D s C λv m1 H1 b1 t1 t p=>⟨?_,rsI t (s.mono b1 t1) A λxs w H2 b2 t2 R2 y=>⟨w,q.2,i,q.1,d,st',R2,qzw b2 t2 _ _ p,y,b,e.mono (b1.trans b2) (t1.trans t2)⟩⟩
  have hs:∃ds,M.seqAt u i=Y ds:=by
   cases i with
   |loc l=>exact Qz1.mp ((Bool.true_and _).symm.trans f)
   |lst l=>exact Qz1.mp ((Bool.true_and _).symm.trans f)
   |_=>cases f
  obtain⟨ds,g⟩:=hs;obtain⟨F,xs,_,rfl,z,_⟩:=t.seq g p;exact .inl ⟨rfl,xs,z⟩
 ·exact nn b
def e_ok(A:AllOk fns dl n)(G':Good fns dl c X)(h:CkN j c e p):PE X p (tD X.K λτ st=>M.stepEv (M.rn fns dl n) τ st e):=by
 have G:=G';have hu:=G'.room.units
 cases j with
 |zero=>cases h
 |succ j=>
 cases h with
 |gc hs hq U hg I=>exact(pe_gc (A.e (j:=j+1) c X G _ _ (.of hs hq I))).imp λ_ _ _ h=>h
 |of hs hq h=>
 clear hs hq
 cases h with
 |unt h=>exact ql5 (A.e (j:=j+1) c X G _ _ (.of rfl (by cases h<;>rfl) (.nm h)))
 |nm h=>
  cases h with
  |@var i x hN hv hd c5=>
  refine(pe_var (qjk G hN) (by rw[G.sc]; exact hv) hd c5).imp λσ H Q h=>?_;refine h.el λm st τ d st' P K e q=>?_;simp only[M.stepEv]at e
  split at e
  ·rename_i d' c4;cases e;obtain⟨v,a,b⟩:=K.at_ i d c4;exact⟨v,a,q.here P b⟩
  ·exact nn e
  |@glo x d hg hm hd=>
  obtain⟨u,v,h1,h2,h3⟩:=G.mo.glo _ _ hm;exact(qw1 (G.gl hg) h1 h2 hd).imp λσ H Q h=>h.el λm st τ d st' P K e q=>by cases e; exact q.here P (h3 m H)
 |int=>exact pe_int.imp λσ H Q h=>h.el λm st τ d st' P K e q=>by cases e; exact q.here P (mkInt _)
 |bl=>exact pe_bl.imp λσ H Q h=>h.el λm st τ d st' P K e q=>by cases e; exact q.here P (mkBl _)
 |non=>exact pe_non.imp λσ H Q h=>h.el λm st τ d st' P K e q=>by cases e; exact q.here P qk6
 |str=>exact pe_str.imp λσ H Q h=>h.el λm st τ d st' P K e q=>by cases e; exact q.here P (mkStr _)
 |@bin op a b S W pos I hb=>
  exact(pe_op (qme op) (A.e c X G a S I) (A.e c X G b W hb)).imp λσ H Q h=>qcz h
 |@lenset a S p0 p1 c9 pos hg hs I=>
  refine(qqx qer (G.gl hg) (G.no rfl) qwf (qqn (qxv (qem G.room.hd G.room.units) (G.gl hs) (G.no rfl) qe4 (qqn (A.e c X G a S I) pa_nil (I.star _ _)) (by decide) (by decide) (I.star _ _) rfl) pa_nil rfl) (by decide) (by decide) rfl rfl).imp λσ H Q h=>?_;refine h.el λm st τ d st' P K e g=>qzj e λd1 s1 T e=>qzd e λd2 e2 e3=>?_;cases e3;refine rsI P K T λx m1 H1 b1 t1 R ix=>?_
  cases d1 with
  |tup ds=>
   obtain⟨ks,k1,k2⟩:=Option.bind_eq_some_iff.mp (e2)
   split at k2
   ·rename_i c7;cases k2;obtain⟨pt,ys,rfl,hq,iy⟩:=ix.tup;refine⟨pt,ys,ks,rfl,hq,qdm iy k1,by rw[<- iy.length]; exact c7,λl hl=>?_⟩;refine⟨l,_,rfl,qzk,?_⟩;have sm:=qzv (o:=setO l (ST.distinct ks).length) hl;exact g _ m1 _ b1 (t1.trans (Tr.of_same sm)) (R.same sm) (mkInt _)
   ·exact nn k2
  |_=>exact nn e2
 |@neg a S pos I=>
  exact(pe_un qio (A.e c X G a S I)).imp λσ H Q h=>tD_un h
 |@not a S pos I=>
  refine(pe_not (A.e c X G a S I)).imp λσ H Q h=>h.el λm st τ d st' P K e q=>qzj e λd1 s1 T e=>rsI P K T λv m1 H1 b1 t1 R i1=>?_
  cases d1 with
  |bl k=>
   have q:=q.of e;exact⟨k,i1.bl,q _ m1 H1 b1 t1 R (mkBl _)⟩
  |_=>exact nn e
 |@cmp op a b S W pos I hb=>
  exact(qmj (qxm hu op) (A.e c X G a S I) (A.e c X G b W hb) (qvn hb.sh _)).imp λσ H Q h=>qcz h
 |@cmp2 op b5 a b d S W pd pos I hb hd=>
  refine(qge (qxm hu op) (qxm hu b5) (A.e c X G a S I) (A.e c X G b W hb) (A.e c X G d pd hd) (qvn hd.sh _)).imp λσ H Q h=>h.el λm st τ dd st' P K e q=>qzj e λd1 s1 T e=>qzj e λd2 s2 e2 e=>qzx e λk e3 e=>rsI P K T λx m1 H1 b1 t1 R i1=>rsI R (K.mono b1 t1) e2 λy m2 H2 b2 t2 R2 i2=>
   ⟨m2,s2,d1,d2,.bl k,s2,R2,qzw b2 t2 _ _ i1,i2,by show Option.map _ (M.cmpD s2 op d1 d2)=_; rw[e3]; rfl,λz m3 H3 b3 t3 R3 i3=>⟨k,i3.bl,?_⟩⟩
  cases k with
  |true=>
   rw[Z8 rfl]at e ⊢;exact qzj e λd3 s3 e4 e=>rsI R3 (K.mono (b1.trans (b2.trans b3)) (t1.trans (t2.trans t3))) e4 λy' m4 H4 b4 t4 R4 i4=>
    ⟨m4,s3,d2,d3,dd,st',R4,qzw (b3.trans b4) (t3.trans t4) _ _ i2,i4,e,q.mono (b1.trans (b2.trans (b3.trans b4))) (t1.trans (t2.trans (t3.trans t4)))⟩
  |false=>
   rw[Z7 Qq0]at e ⊢;have q:=q.of e;exact q _ m3 H3 (b1.trans (b2.trans b3)) (t1.trans (t2.trans t3)) R3 (mkBl _)
 |@and a b S W r pos I hb=>
  have hb:PE X (.BoolOp .And (W::r) pos) (tD X.K λτ st=>(M.rn fns dl n).ev τ st b):=by
   cases r with
   |nil=>exact qh4 (A.e c X G b W hb)
   |cons=>exact A.e c X G b _ hb
  refine(pe_and (A.e c X G a S I) hb).imp λσ H Q h=>h.el λm st τ d st' P K e q=>qzj e λd1 s1 T e=>rsI P K T λv m1 H1 b1 t1 R i1=>?_
  cases d1 with
  |bl k=>
   cases k with
   |true=>exact⟨Z,i1.bl,rsI R (K.mono b1 t1) e (q.mono b1 t1)⟩
   |false=>cases e; exact⟨Y7,i1.bl,q _ m1 H1 b1 t1 R (mkBl _)⟩
  |_=>exact nn e
 |@or a b S W r pos I hb=>
  have hb:PE X (.BoolOp .Or (W::r) pos) (tD X.K λτ st=>(M.rn fns dl n).ev τ st b):=by
   cases r with
   |nil=>exact qh4 (A.e c X G b W hb)
   |cons=>exact A.e c X G b _ hb
  refine(pe_or (A.e c X G a S I) hb).imp λσ H Q h=>h.el λm st τ d st' P K e q=>qzj e λd1 s1 T e=>rsI P K T λv m1 H1 b1 t1 R i1=>?_
  cases d1 with
  |bl k=>
   cases k with
   |false=>exact⟨Y7,i1.bl,rsI R (K.mono b1 t1) e (q.mono b1 t1)⟩
   |true=>cases e; exact⟨Z,i1.bl,q _ m1 H1 b1 t1 R (mkBl _)⟩
  |_=>exact nn e
 |@ite q a b pq S W pos hq I hb=>
  refine(qga (A.t c X G q pq hq) (A.e c X G a S I) (A.e c X G b W hb)).imp λσ H Q h=>h.el λm st τ d st' P K e g=>qzx e λbb T e=>rsI P K T λm1 H1 b1 t1 R=>?_
  cases hb:bb.1 with
  |true=>
   rw[hb,Z8 rfl]at e;rw[Z8 rfl];exact rsI R (K.mono b1 t1) e (g.mono b1 t1)
  |false=>
   rw[hb,Z7 Qq0]at e;rw[Z7 Qq0];exact rsI R (K.mono b1 t1) e (g.mono b1 t1)
 |@tup es ps k pos hs=>
  refine(qh3 (qzr A G hs)).imp λσ H Q h=>h.el λm st τ d st' P K e g=>qzx e λp T e=>?_
  split at e
  ·exact nn e
  ·rename_i hl;have g:=g.of e;refine rsI P K T λxs m1 H1 b1 t1 R ix=>?_;have l1:=ix.length;have l2:=qqy;refine⟨by lia,λpp U=>?_⟩;have sm:=qzv (o:=.tup xs) U;exact g _ m1 _ b1 (t1.trans (Tr.of_same sm)) (R.same sm) (qqu (SqT.of qzk) (qza (Sub.refl _) (Tr.of_same sm) _ _ ix))
 |@lst es ps pos hs=>
  refine(pe_lst (qzr A G hs)).imp λσ H Q h=>h.el λm st τ d st' P K e g=>qzx e λp T e=>?_
  split at e
  ·exact nn e
  ·rename_i hl;have g:=g.of e;refine rsI P K T λxs m1 H1 b1 t1 R ix=>?_;have l1:=ix.length;have l2:=qqy;refine⟨by lia,λpp U=>?_⟩;exact g _ (m1++[pp]) _ (b1.trans (Sub.app _ _)) (t1.trans (Tr.of_same (qzv U))) (R.new U ix) R.newLoc
 |@idx a b S W pos I hb=>
  exact(pe_ix ix_D (A.e c X G a S I) (A.e c X G b W hb) (qlb hb.sh)).imp λσ H Q h=>qcz h
 |@call f x es p ps p0 pos hg hf hd hn hs=>
  obtain⟨fa,fd,a0,hm,F,hk,hb⟩:=G'.tab f x hf;have U:Star p:=by cases hs with|cons h _=>exact h.star
  have ht:(backTo pos (starEach ps X.env)).any (·.1)=false:=by cases hs with|cons _ t=>exact qq4 t pos X.env
  refine(qmk F (G.room.mono (by lia)) (G.gl hg) (hm.1 hn) hk hb .nil qgg (qzr A G hs) hd (U _ _) ht).imp λσ H Q h=>?_;refine h.el λm st τ d st' P K e g=>qzx e λq T e=>rsI P K T λxs m1 H1 b1 t1 R ix=>?_;show spN X.K fns dl f (xs++[]) H1 Q E0;have e:=e;rw[M.runK_call]at e;rw[Qq5];exact⟨m1,q.2,q.1,d,st',R,ix,e,g.mono b1 t1⟩
 |@bcall b es p ps p0 pos hg d6 hs=>
  have U:Star p:=by cases hs with|cons h _=>exact h.star
  have ht:(backTo pos (starEach ps X.env)).any (·.1)=false:=by cases hs with|cons _ t=>exact qq4 t pos X.env
  have hA:=qzr A G hs
  cases b with
  |len=>exact(qqx qes (G.gl hg) (G.no rfl) qwf hA (by decide) (by decide) (U _ _) ht).imp λσ H Q h=>qqm h
  |min=>exact(qqx (qeo G.calm) (G.gl hg) (G.no rfl) qe5 hA (by decide) (by decide) (U _ _) ht).imp λσ H Q h=>qqm h
  |tuple=>exact(qxv qya (G.gl hg) (G.no rfl) qj2 hA (by decide) (by decide) (U _ _) ht).imp λσ H Q h=>qqm h
  |list=>exact(qxv (qbe G.room.hd) (G.gl hg) (G.no rfl) qkn hA (by decide) (by decide) (U _ _) ht).imp λσ H Q h=>qqm h
  |any=>exact(qqx (qe0 G.calm) (G.gl hg) (G.no rfl) qe7 hA (by decide) (by decide) (U _ _) ht).imp λσ H Q h=>qqm h
  |all=>exact(qqx (qe1 G.calm) (G.gl hg) (G.no rfl) qe8 hA (by decide) (by decide) (U _ _) ht).imp λσ H Q h=>qqm h
  |sorted=>exact(qqx (qwd G.room.hd) (G.gl hg) (G.no rfl) qwe hA (by decide) (by decide) (U _ _) ht).imp λσ H Q h=>qqm h
  |dict=>exact(qxv qbg (G.gl hg) (G.no rfl) qbl hA (by decide) (by decide) (U _ _) ht).imp λσ H Q h=>qqm h
 |@isi1 t a S p0 p1 pos hg ht c2 I=>
  refine(qqx (qeu t ht) (G.gl hg) (G.no rfl) qwg (qqn (A.e c X G a S I) (qqn (ty_ok G ht c2) pa_nil rfl) (I.star _ _)) (by decide) (by decide) (I.star _ _) rfl).imp λσ H Q h=>?_;refine h.el λm st τ d st' P K e g=>qzj e λd1 s1 T e=>qzd e λnm e2 e3=>?_;cases e3;refine rsI P K T λx m1 H1 b1 t1 R ix=>⟨m1,s1,d1,nm,x,rfl,R,ix,e2,g _ m1 H1 b1 t1 R ?_⟩
  have:([t].any λt=>M.tyIs t nm)=M.tyIs t nm:=by simp
  rw[this];exact mkBl _
 |@isiN ts a S p0 ps k p1 pos a6 hg ht I=>
  obtain⟨h1,h2⟩:=qhg G ht;refine(qqx (qet ts h2) (G.gl hg) (G.no rfl) qwg (qqn (A.e c X G a S I) (qqn (qh3 h1) pa_nil rfl) (I.star _ _)) (by decide) (by decide) (I.star _ _) rfl).imp λσ H Q h=>?_;refine h.el λm st τ d st' P K e g=>qzj e λd1 s1 T e=>qzd e λnm e2 e3=>?_;cases e3;refine rsI P K T λx m1 H1 b1 t1 R ix=>qcq _ σ H1 _ ⟨?_,λpp U=>?_⟩
  ·rw[Qqx];exact Qja (qcc a6)
  ·have sm:=qzv (o:=.tup (ts.map λt=>V.ty t.name)) U;exact⟨m1,s1,d1,nm,x,pp,rfl,qzk,R.same sm,qzw (Sub.refl _) (Tr.of_same sm) _ _ ix,e2,g _ m1 _ b1 (t1.trans (Tr.of_same sm)) (R.same sm) (mkBl _)⟩
 |@meth a k es S p ps apos cpos I hs hn hl=>
  have U:Star p:=by cases hs with|cons h _=>exact h.star
  have ht:(backTo cpos (starEach ps X.env)).any (·.1)=false:=by cases hs with|cons _ t=>exact qq4 t cpos X.env
  have few:((backTo cpos (starEach (p::ps) X.env)).all (λx=>!x.1)&&(backToKw cpos (keywordEach [] X.env)).all (λx=>x.1.isSome)&&decide ((p::ps).length+([]:L Zu).length+(if ([]:L Zu).isEmpty then 0 else 1)<30))=true:=by
   rw[List.all_eq_not_any_not];simp only[Bool.not_not,qq4 hs cpos X.env];exact Z5 hn
  have hb:=λx=>qk0 I.sh x X.env (Qb S X.env)
  cases k with
  |append=>exact(qgf PySem.F.plainAttrs_list PySem.F.slot_list_append PySem.F.type_list_append qa9 (A.e c X G a _ I) (qzr A G hs) (hb _) few hl (U _ _) ht).imp λ_ _ _ h=>qkt h
  |extend=>exact(qgf PySem.F.plainAttrs_list PySem.F.slot_list_extend PySem.F.type_list_extend qa8 (A.e c X G a _ I) (qzr A G hs) (hb _) few hl (U _ _) ht).imp λ_ _ _ h=>qkt h
  |index=>exact(qgf PySem.F.plainAttrs_list PySem.F.slot_list_index PySem.F.type_list_index (qdk hu) (A.e c X G a _ I) (qzr A G hs) (hb _) few hl (U _ _) ht).imp λ_ _ _ h=>qkt h
  |insert=>exact(qgf PySem.F.plainAttrs_list PySem.F.slot_list_insert PySem.F.type_list_insert qa7 (A.e c X G a _ I) (qzr A G hs) (hb _) few hl (U _ _) ht).imp λ_ _ _ h=>qkt h
 |@dic0 pos=>
  refine pe_dnewK.imp λσ H Q h=>h.el λm st τ d st' P K e g=>?_;have e0:M.wdicAt (st++[Yb.dic Z []]) st.length=Y []:=by simp[M.wdicAt]
  have e:(match M.wdicAt (st++[Yb.dic Z []]) st.length with
   |some []=>(M.pairUp []).bind λkvs=>if kvs.length<=15 then Y (D.loc st.length,(st++[Yb.dic Z []]).set st.length (Yb.dic Z (M.dall kvs))) else B
   |_=>B)=Y (d,st'):=e
  rw[e0]at e;have e2:(st++[Yb.dic Z []]).set st.length (.dic Z [])=st++[.dic Z []]:=by simp
  have e:Y (D.loc st.length,(st++[Yb.dic Z []]).set st.length (.dic Z []))=Y (d,st'):=e;rw[e2]at e;have g:=g.of e;intro pp U;exact g _ (m++[pp]) _ (Sub.app _ _) (Tr.of_same (qzv U)) (P.newD U rfl) P.newLoc
 |@dic es k v ks vs pos hP c8=>
  obtain⟨h1,h2,h3⟩:=qv1 A G hP;refine(ql9 h1 h2 h3 (by simp) c8).imp λσ H Q h=>?_;refine h.el λm st τ d st' P K e g=>?_;have e:=e;refine qzx e λp T e=>?_
  split at e
  ·rename_i a9;refine qzx e λkvs e2 e=>?_
   split at e
   ·rename_i hl;have g:=g.of e;intro pp U;have sm:=qzv (o:=.dK []) U;refine qv0 hP (P.newD (kvs:=[]) U rfl) (K.mono (Sub.app _ _) (Tr.of_same sm)) T λxs m1 H1 b1 t1 R ix=>?_;obtain⟨ys,a8,b7⟩:=qy3 ix e2;have a1:=qzw b1 (Tr.refl H1) _ _ (P.newLoc);obtain⟨a',d5,c6,ea,hH,a7,b8⟩:=R.wdict a9 a1;cases ea;have b6:=a7;subst b6;have l1:=a8.length;refine⟨hH,ys,b7,by lia,?_⟩;exact g _ m1 _ ((Sub.app _ _).trans b1) ((Tr.of_same sm).trans (t1.trans (Tr.putD hH))) (R.putD b8 c6 hH (a8.merge (rfl))) (qzw (Sub.refl _) (Tr.putD hH) _ _ a1)
   ·exact nn e
  ·exact nn e
 |@didx a b S W pos I hb=>exact qgc (by lia) (A.e c X G a S I) (A.e c X G b W hb) (qlb hb.sh)
 |@din neg a b S W pos I hb=>exact qc1 (qc4 (by lia) neg (A.e c X G a S I) (A.e c X G b W hb)) (qvn hb.sh _)
 |@gidx x ks ds b W p0 pos hg hm hd hb=>
  obtain⟨ad,h1,h2⟩:=G.mo.gds x ks ds hm;exact qgb (G.gl hg) h1 h2 hd (A.e c X G b W hb) (qlb hb.sh)
 |@gin neg x ks ds b W p0 pos hg hm hd hb=>
  obtain⟨ad,h1,h2⟩:=G.mo.gds x ks ds hm;exact qc1 (qc3 neg (G.gl hg) h1 h2 hd (A.e c X G b W hb)) (by cases neg<;>rfl)
 |@sli a lo hi S pl ph p2 pos I hl hh=>
  refine(qy2 sl_D (A.e c X G a S I) (qgj A G hl) (qgj A G hh)).imp λσ H Q h=>h.el λm st τ d st' P K e g=>?_;have e:=e;exact qzj e λd1 s1 T e=>qzx e λl e2 e=>qzx e λu e3 e=>rsI P K T λx m1 H1 b1 t1 R i1=>rsI R (K.mono b1 t1) e2 λm2 H2 b2 t2 R2=>rsI R2 (K.mono (b1.trans b2) (t1.trans t2)) e3 λm3 H3 b3 t3 R3=>
   ⟨m3,u.2,d1,d,st',R3,qzw (b2.trans b3) (t2.trans t3) _ _ i1,e,g.mono (b1.trans (b2.trans b3)) (t1.trans (t2.trans t3))⟩
 |@comp t it q elt sr tg d0 pq a3 b0 pos N ok hi ht hq he=>
  have GI:=λ{C fp s H}=>G.inner (C:=C) (fp:=fp) (s:=s) (H:=H) ok.kind ok.nd;exact(qmx G.calm (qki G ok) (qw9 A G hi) (λC fp s H=>qxj GI ht λi c1 x hx=>.inr (qb8 ok.tl i c1 x hx)) (λC fp s H=>qhi A GI hq) (λC fp s H=>A.e _ _ GI elt a3 he) (ok.fs X.env)).imp λσ H Q h=>qb9 h
 |@tsli a lo hi S pl ph p2 pos I hl hh=>
  refine(qy2 sl_T (A.e c X G a S I) (qgj A G hl) (qgj A G hh)).imp λσ H Q h=>h.el λm st τ d st' P K e g=>?_;have e:=e;refine qzj e λd1 s1 T e=>qzx e λl e2 e=>qzx e λu e3 e=>?_
  cases d1 with
  |tup ds=>
   refine qzx e λks e4 e=>?_
   split at e
   ·rename_i hl;have g:=g.of e;exact rsI P K T λx m1 H1 b1 t1 R i1=>rsI R (K.mono b1 t1) e2 λm2 H2 b2 t2 R2=>rsI R2 (K.mono (b1.trans b2) (t1.trans t2)) e3 λm3 H3 b3 t3 R3=>
     ⟨m3,u.2,ds,ks,R3,qzw (b2.trans b3) (t2.trans t3) _ _ i1,e4,hl,g.mono (b1.trans (b2.trans b3)) (t1.trans (t2.trans t3))⟩
   ·exact nn e
  |_=>exact nn e
 |@tdn pos=>
  refine pe_dnewT.imp λσ H Q h=>h.el λm st τ d st' P K e g=>?_;have g:=g.of e;intro pp U;exact g _ (m++[pp]) _ (Sub.app _ _) (Tr.of_same (qzv U)) (P.newC U (λ_=>trivial) ⟨[],qzk,rfl⟩) P.newLoc
 |@tdi neg a b S W pos I hb=>exact qc1 (qc2 (by lia) neg (A.e c X G a S I) (A.e c X G b W hb)) (qvn hb.sh _)
 |@dgt a b S W apos cpos I hb hl=>
  exact qmz (by lia) (A.e c X G a S I) (A.e c X G b W hb) ⟨qk0 I.sh _ _ _,by rw[hb.star]; rfl,hl,by rw[hb.star]; rfl⟩
 |@attr C a f S pos I hc=>
  obtain⟨h1,h2⟩:=G.mo.ats C f hc;refine(pe_fld (A.e c X G a S I) (qk0 I.sh _ _ _)).imp λσ H Q h=>h.el λm st τ d st' P K e g=>qzj e λd1 s1 T e=>qzx e λfs e2 e=>qzd e λd2 e3 e4=>?_;cases e4;refine rsI P K T λx m1 H1 b1 t1 R ix=>?_;obtain⟨l,p,dx,ys,rfl,_,rfl,hH,a2,_⟩:=R.inst e2 ix;rcases a2.get f with⟨z,_⟩|⟨d',v,z1,z2,iv⟩
  ·rw[z]at e3; cases e3
  ·rw[z1]at e3;cases e3;exact⟨p,C,dx,ys,v,rfl,hH,h1,h2,z2,g _ m1 H1 b1 t1 R iv⟩
 |@mcall C f m' x cn a es S ps apos pos I hf hm hc hs hn c0=>
  obtain⟨fa,fd,a0,hl,F,hk,hb⟩:=G'.tab f x hf;obtain⟨_,hC,_,_⟩:=G.mo.cls cn C hc;have hM:=hl.2 C m' hm;obtain⟨pl,ht⟩:=sh_mt I.sh hs.sh hn c0 X.env;have a4:∀σ H Q,tD X.K (λτ st=>M.stepEv (M.rn fns dl n) τ st (.mcall C f m' a es)) σ H Q->qlz C m' (spN X.K fns dl f) [] E0 (tD X.K λτ st=>(M.rn fns dl n).ev τ st a) (tL X.K λτ st=>M.evs ((M.rn fns dl n).ev τ) es st) σ H Q:=by
   intro σ H Q h;refine h.el λm st τ d st' P K e g=>qzj e λd1 s1 T e=>qzx e λfs e2 e=>rsI P K T λv m1 H1 b1 t1 R ix=>?_;obtain⟨l,p,dx,ys,rfl,_,rfl,hH,a2,_⟩:=R.inst e2 ix
   split at e
   ·exact nn e
   ·rename_i a5;refine qzx e λq e3 e=>?_;rcases a2.get m' with⟨_,z⟩|⟨d',v,z1,_,_⟩
    ·refine⟨p,dx,ys,rfl,hH,z,rsI R (K.mono b1 t1) e3 λxs m2 H2 b2 t2 R2 i2=>?_⟩;have e:=e;rw[M.runK_call]at e;show spN X.K fns dl f (.ref p::(xs++[])) H2 Q E0;rw[Qq5];exact⟨m2,q.2,_,d,st',R2,qzm (qzw b2 t2 _ _ ix) i2,e,g.mono (b1.trans b2) (t1.trans t2)⟩
    ·rw[z1]at a5;exact absurd rfl a5
  have hr:Room (2*dl) X.A:=G.room.mono (by lia)
  cases hs with
  |nil=>
   refine(qgy (A.e c X G a S I) hC hM F hr hb .nil qgg ht).imp λσ H Q h=>?_
   ·obtain⟨m,st,τ,d1,s1,P,K,T,k⟩:=a4 σ H Q h;refine rsI P K T λv m1 H1 b1 t1 R ix=>?_;obtain⟨p,dx,ys,rfl,hH,z,m2,s2,d4,ds,s3,R2,S2,e2,k2⟩:=k v m1 H1 b1 t1 R ix;cases e2;exact⟨p,dx,ys,rfl,hH,z,k2 [] m2 H1 (Sub.refl _) (Tr.refl _) R2 qqz⟩
  |cons h1 h2=>exact(ql6 (A.e c X G a S I) hC hM F hr hb .nil qgg (qzr A G (.cons h1 h2)) (h1.star _ _) (qq4 h2 pos X.env) ht).imp a4
 |@new C f x cn es p ps p0 pos hg hf hm hc hd hs=>
  obtain⟨fa,fd,a0,hl,F,hk,hb⟩:=G'.tab f x hf;obtain⟨h1,_,h3,h4⟩:=G.mo.cls cn C hc;have hM:=hl.2 C _ hm;have U:Star p:=by cases hs with|cons h _=>exact h.star
  have ht:(backTo pos (starEach ps X.env)).any (·.1)=false:=by cases hs with|cons _ t=>exact qq4 t pos X.env
  refine(ql7 ⟨h3,hM.at_,hM.fn,h4⟩ F G.room (G.gl hg) h1 hb .nil qgg (qzr A G hs) hd (U _ _) ht).imp λσ H Q h=>h.el λm st τ d st' P K e g=>qzx e λq T e=>qzx e λw e2 e=>rsI P K T λxs m1 H1 b1 t1 R ix x dx hx c3 b9=>?_;have e2:=e2;rw[M.runK_call]at e2;obtain⟨sm,R2⟩:=R.newI hx c3 b9;have lc:=R.newLoc (p:=x) (H':=upd (upd H1 dx (.own x)) x (.ins C dx []))
  split at e
  ·rename_i hn;have g:=g.of e;rw[Qq5];refine⟨m1++[x],_,_,w.1,w.2,R2,qzm lc (qza (Sub.app m1 [x]) (Tr.of_same sm) _ _ ix),e2,λv m2 H2 b2 t2 R3 iv=>?_⟩;have hw:w.1=.non:=by
    cases hq:w.1 with
    |non=>rfl
    |_=>rw[hq]at hn; cases hn
   rw[hw]at iv;exact⟨iv.non,g _ m2 H2 (b1.trans ((Sub.app m1 [x]).trans b2)) (t1.trans ((Tr.of_same sm).trans t2)) R3 (qzw b2 t2 _ _ lc)⟩
  ·exact nn e
end
section
variable {fns:L Fn}{dl n j:Y1}{c:Ctx}{X:Cx}
def tt_val{K:Qqq}(hr:∀τ st,M.stepTst r τ st e=(r.ev τ st e).bind λp=>(M.truth p.2 p.1).map λk=>(k,p.2))(h:tTs K (λτ st=>M.stepTst r τ st e) b H Q):(tD K λτ st=>r.ev τ st e) b H λx H'=>∃k,TruV K x H' k/\Q k H':=by
 refine h.el λm st τ d st' t s a q=>?_;have a:=(hr τ st).symm.trans a;refine qzj a λv u o a=>qzd a λk l i=>?_;cases i;exact rsI t s o λx m1 H1 b1 t1 f g=>⟨_,qit f g l,q m1 H1 b1 t1 f⟩
def qis{K:Qqq}(hr:∀τ st,M.stepTst r τ st e=(f τ st).bind λp=>(M.truth p.2 p.1).map λk=>(k,p.2))(hf:∀τ st d st',f τ st=Y (d,st')->∃k,d=.bl k)(h:tTs K (λτ st=>M.stepTst r τ st e) b H Q):tB (tD K f) b H Q:=by
 refine h.el λm st τ d st' s l a q=>?_;have a:=(hr τ st).symm.trans a;refine qzj a λu t g a=>?_;obtain⟨k,rfl⟩:=hf _ _ _ _ g;have q:=q.of a;exact rsI s l g λx m1 H1 b1 t1 o i=>⟨_,i.bl,q m1 H1 b1 t1 o⟩
def din_bl{st:Y2}(h:M.dinR r τ st neg a b=Y (d,st')):∃k,d=.bl k:=by
 unfold M.dinR at h;refine qzj h λp g o h=>qzj h λe f m h=>?_
 cases e with
 |loc l=>
  refine qzx h λkvs i h=>?_
  split at h
  ·cases h; exact⟨_,rfl⟩
  ·exact nn h
 |_=>exact nn h
def tdi_bl{st:Y2}(h:M.tdiR r τ st neg a b=Y (d,st')):∃k,d=.bl k:=by
 unfold M.tdiR at h;refine qzj h λf i p h=>qzj h λe g o h=>?_
 cases f with
 |fup k=>
  cases e with
  |loc l=>
   refine qzd h λkvs m h=>?_;cases h; exact⟨_,rfl⟩
  |_=>exact nn h
 |_=>exact nn h
def gin_bl{st:Y2}(h:M.ginR r τ st neg ks b=Y (d,st')):∃k,d=.bl k:=by
 unfold M.ginR at h;refine qzj h λa e f h=>?_
 cases a with
 |str z=>cases h; exact⟨_,rfl⟩
 |_=>exact nn h
def tt_and{K:Qqq}(h:tTs K (λτ st=>M.stepTst r τ st (.and a b)) f H Q):tAnd (tTs K λτ st=>r.tst τ st a) (tTs K λτ st=>r.tst τ st b) f H Q:=by
 refine h.el λm st τ d st' s i e q=>?_;have e:=e;refine qzx e λp o e=>rsI s i o λm1 H1 b1 t1 k=>?_
 cases g:p.1 with
 |true=>
  rw[g,Z8 rfl]at e;rw[Z8 rfl];exact rsI k (i.mono b1 t1) e λl H2 b2 t2 R2=>q l H2 (b1.trans b2) (t1.trans t2) R2
 |false=>
  rw[g,Z7 Qq0]at e;have q:=q.of e;rw[Z7 Qq0];exact q m1 H1 b1 t1 k
def tt_or{K:Qqq}(h:tTs K (λτ st=>M.stepTst r τ st (.or a b)) f H Q):tOr (tTs K λτ st=>r.tst τ st a) (tTs K λτ st=>r.tst τ st b) f H Q:=by
 refine h.el λm st τ d st' s i e q=>?_;have e:=e;refine qzx e λp o e=>rsI s i o λm1 H1 b1 t1 k=>?_
 cases g:p.1 with
 |false=>
  rw[g,Z7 Qq0]at e;rw[Z7 Qq0];exact rsI k (i.mono b1 t1) e λl H2 b2 t2 R2=>q l H2 (b1.trans b2) (t1.trans t2) R2
 |true=>
  rw[g,Z8 rfl]at e;have q:=q.of e;rw[Z8 rfl];exact q m1 H1 b1 t1 k
def qvl{K:Qqq}(r:SlotOk K m H τ o)(h:SlotOk K b l (τ.set i (Y g)) σ')(s:Sub m b)(t:Tr l k)(hd:∀v,MS.IsD K b l g v->MS.IsD K m k d v):SlotOk K m k (τ.set i (Y d)) σ':=by
 refine⟨by have:=h.len; rwa [Qzt]at this ⊢,λj e a=>?_⟩
 by_cases hj:i=j
 ·subst hj;have hi:i<τ.length:=by
   have:=(Qqk.mp a).1;rwa [Qzt]at this
  rw[Qzz hi]at a;cases a;obtain⟨v,f,q⟩:=h.at_ i g (Qzz hi);exact⟨v,f,hd v q⟩
 ·rw[Qqt hj]at a;obtain⟨u,_,p⟩:=r.at_ j e a;obtain⟨v,f,q⟩:=h.at_ j e (by rw[Qqt hj]; exact a);exact⟨v,f,qzw (Sub.refl m) t _ _ (qxe s _ _ _ p q)⟩
def qgq{f:Sl->Y2->Y4 (D×Y2)}(h:PS X p (tS X.K λτ st=>(f τ st).bind λq=>(M.setT (.var i) q.1 τ).map λτ'=>(Out.nx τ',q.2))):
  PS X p (tS X.K λτ st=>((f τ st).map λq=>M.gcD st q).bind λq=>(M.setT (.var i) q.1 τ).map λτ'=>(Out.nx τ',q.2)):=by
 intro pins s σ H Dn I q;refine q.el λm st τ o st' N K e k=>qzj e λd T e1 e=>?_;obtain⟨⟨E,r⟩,e2,e3⟩:=mapD e1;refine qzd e λτ' A e5=>?_;cases e5;have A:(if i<τ.length then Y (τ.set i (Y d)) else B)=Y τ':=A
 split at A
 case isFalse=>exact nn A
 case isTrue hi=>
  cases A;refine thn (h pins s σ H ⟨λg H1=>∃m1,Sub m m1/\Tr H H1/\Rel X.K m1 r H1/\SlotOk X.K m1 H1 (τ.set i (Y E)) g,λ_ _=>False,λ_ _=>False,λ_ _=>False⟩ I (rsI (d:=.nx (τ.set i (Y E))) (st':=r) N K (by show(f τ st).bind _=_; rw[e2]; show Option.map _ (if i<τ.length then Y (τ.set i (Y E)) else B)=_; rw[Z8 hi]; rfl) λm1 H1 b t R g C=>⟨m1,b,t,R,C⟩)) λW s2 hf=>?_
  cases W with
  |next=>
   obtain⟨g,H1,P,m1,b1,t1,x,C⟩:=hf;have plain:(E,r)=(d,T)->SP X pins Dn .next s2:=λz=>by
    cases z;exact⟨g,H1,P,k m1 H1 b1 t1 x g C⟩
   rcases gc_el e3 with z|⟨ok,z⟩
   ·exact plain z
   ·unfold M.gcX at z
    split at z
    ·rename_i hn;cases z;exact⟨g,H1,P,k m H1 (Sub.refl m) t1 (N.cut x b1 ok (Tr.refl H1) λ_ _ _ _ _ _=>rfl) g (qvl K C b1 (Tr.refl H1) λv q=>qdt _ _ hn q)⟩
    ·split at z
     ·rename_i l hd;simp only at hd
      split at z
      ·rename_i hl
       split at z
       ·rename_i ds hc
        split at z
        ·rename_i hn;cases z;subst hd;obtain⟨a,F⟩:=x.addr hc;obtain⟨xs,S,U⟩:=x.cell l _ a hc F;obtain⟨o,I2⟩:=qkf P S;have t2:=Tr.lay (o:=o) S;refine⟨g,_,I2,k m _ (Sub.refl m) (t1.trans t2) (N.cut x b1 ok t2 λQ c G e ea w=>?_) g (qvl K C b1 t2 λv q=>?_)⟩
         ·refine qzq λz=>?_;subst z;have V:=qjv e;have:=x.nd Q l G c _ (b1 Q G ea) F V.2 hc w rfl;omega
         ·obtain⟨G,y,rfl⟩:=q.loc;rw[F]at y;cases y;exact qbz (.inl ⟨o,qzk⟩) (qjr _ _ hn (qza (Sub.refl m1) t2 _ _ U))
        ·exact plain z
       ·exact plain z
      ·exact plain z
     ·exact plain z
  |brk=>obtain⟨_,_,_,z⟩:=hf; exact z.elim
  |cont=>obtain⟨_,_,_,z⟩:=hf; exact z.elim
  |ret u=>obtain⟨_,_,_,_,_,z⟩:=hf; exact z.elim
def w_ok(A:AllOk fns dl n)(G:Good fns dl c X)(h:CkN j c e (.BoolOp i ps pos)):PW X (.BoolOp i ps pos) (tTs X.K λτ st=>M.stepTst (M.rn fns dl n) τ st e):=by
 cases j with
 |zero=>cases h
 |succ j=>
 cases h with
 |gc _ _ l=>cases l
 |of hs k h=>
 clear hs k
 cases h with
 |@and a b f d r pos g hb=>
  refine(pw_and (A.t c X G a f g) ?_).imp λσ H Q h=>tt_and h
  cases r with
  |nil=>exact qlo (A.t c X G b d hb)
  |cons=>exact A.w c X G b _ _ _ hb
 |@or a b f d r pos g hb=>
  refine(pw_or (A.t c X G a f g) ?_).imp λσ H Q h=>tt_or h
  cases r with
  |nil=>exact pw_or1 (A.t c X G b d hb)
  |cons=>exact A.w c X G b _ _ _ hb
def qx1(d:PE X p (tD X.K λτ st=>r.ev τ st e))(a:∀w,isTrue p X.env w=(do let v <- w; standAt p.pos; holding [v] (truthy v)))(b:∀τ st,M.stepTst r τ st e=(r.ev τ st e).bind λp=>(M.truth p.2 p.1).map λk=>(k,p.2)):PT X p (tTs X.K λτ st=>M.stepTst r τ st e):=(qf9 d a).imp λ_ _ _ h=>tt_val b h
def t_ok(A:AllOk fns dl n)(G':Good fns dl c X)(h:CkN j c e p):PT X p (tTs X.K λτ st=>M.stepTst (M.rn fns dl n) τ st e):=by
 have G:=G';have hu:=G'.room.units;have g:=A.e c X G e p h
 cases j with
 |zero=>cases h
 |succ j=>
 revert g
 cases h with
 |gc hs hq hp hg f=>
  intro g
  cases p with
  |Call=>exact qx1 g (λ_=>rfl) λ_ _=>rfl
  |ListComp=>exact qx1 g (λ_=>rfl) λ_ _=>rfl
  |List=>exact qx1 g (λ_=>rfl) λ_ _=>rfl
  |BinOp=>exact qx1 g (λ_=>rfl) λ_ _=>rfl
  |Subscript=>exact qx1 g (λ_=>rfl) λ_ _=>rfl
  |_=>cases hp
 |of hs hq h=>
 clear hs hq
 cases h with
 |nm h=>
  cases h with
  |var=>exact λg=>qx1 g (λ_=>rfl) λ_ _=>rfl
  |glo=>exact λg=>qx1 g (λ_=>rfl) λ_ _=>rfl
 |@not a r pos f=>
  intro _;refine(pt_not (A.t c X G a r f)).imp λσ H Q h=>h.el λm st τ d st' P t w q=>qzd w λp K F=>?_;cases F;exact rsI P t K λm1 H1 b1 t1 N=>q m1 H1 b1 t1 N
 |and f hb=>exact λ_=>(w_ok A G (j:=j+1) (.of rfl rfl (.and f hb))).pt
 |or f hb=>exact λ_=>(w_ok A G (j:=j+1) (.of rfl rfl (.or f hb))).pt
 |@cmp v a b r o pos f hb=>
  intro _;refine(qlp (qxm hu v) (A.e c X G a r f) (A.e c X G b o hb) (qvn hb.sh _)).imp λσ H Q h=>h.el λm st τ d st' P t w q=>qzj w λC s1 K w=>qzj w λi l F w=>qzd w λk e3 e4=>?_;cases e4;exact rsI P t K λx m1 H1 b1 t1 N i1=>rsI N (t.mono b1 t1) F λy V H2 b2 t2 R2 S=>
   ⟨V,l,C,i,.bl d,l,R2,qzw b2 t2 _ _ i1,S,by show Option.map _ (M.cmpD l v C i)=_; rw[show M.cmpD l v C i=Y d from e3]; rfl,λz U H3 b3 D T W=>⟨d,W.bl,q U H3 (b1.trans (b2.trans b3)) (t1.trans (t2.trans D)) T⟩⟩
 |@cmp2 v u a b d r o pd pos f hb hd=>
  intro _;refine(qgz (qxm hu v) (qxm hu u) (A.e c X G a r f) (A.e c X G b o hb) (A.e c X G d pd hd) (qvn hd.sh _)).imp λσ H Q h=>h.el λm st τ dd st' P t e q=>qzj e λC s1 K e=>qzj e λi l F e=>qzx e λk e3 e=>rsI P t K λx m1 H1 b1 t1 N i1=>rsI N (t.mono b1 t1) F λy V H2 b2 t2 R2 S=>
   ⟨V,l,C,i,.bl k,l,R2,qzw b2 t2 _ _ i1,S,by show Option.map _ (M.cmpD l v C i)=_; rw[show M.cmpD l v C i=Y k from e3]; rfl,λz U H3 b3 D T W=>⟨k,W.bl,?_⟩⟩
  cases k with
  |true=>
   rw[Z8 rfl]at e ⊢;refine qzj e λd3 R e4 e=>qzd e λk' e5 e6=>?_;cases e6;exact rsI T (t.mono (b1.trans (b2.trans b3)) (t1.trans (t2.trans D))) e4 λy' m4 H4 b4 t4 R4 i4=>
    ⟨m4,R,i,d3,.bl dd,R,R4,qzw (b3.trans b4) (D.trans t4) _ _ S,i4,by show Option.map _ (M.cmpD R u i d3)=_; rw[show M.cmpD R u i d3=Y dd from e5]; rfl,
     λz m5 H5 b5 t5 R5 i5=>⟨dd,i5.bl,q m5 H5 (b1.trans (b2.trans (b3.trans (b4.trans b5)))) (t1.trans (t2.trans (D.trans (t4.trans t5)))) R5⟩⟩
  |false=>
   rw[Z7 Qq0]at e ⊢;have q:=q.of e;exact⟨Y7,rfl,q U H3 (b1.trans (b2.trans b3)) (t1.trans (t2.trans D)) T⟩
 |ite hq f hb=>exact λ_=>λpins s σ H Q I q=>by obtain⟨m,st,τ,d,st',_,_,z,_⟩:=q; cases z
 |@din neg a b r o pos f hb=>exact λ_=>(qco (qc4 (by omega) neg (A.e c X G a r f) (A.e c X G b o hb)) (qvn hb.sh _)).imp λσ H Q h=>qis (λ_ _=>rfl) (λ_ _ _ _ z=>din_bl z) h
 |@tdi neg a b r o pos f hb=>exact λ_=>(qco (qc2 (by omega) neg (A.e c X G a r f) (A.e c X G b o hb)) (qvn hb.sh _)).imp λσ H Q h=>qis (λ_ _=>rfl) (λ_ _ _ _ z=>tdi_bl z) h
 |@gin neg x ks ds b o p0 pos hg hm hd hb=>
  intro _;obtain⟨ad,h1,h2⟩:=G.mo.gds x ks ds hm;exact(qco (qc3 neg (G.gl hg) h1 h2 hd (A.e c X G b o hb)) (by cases neg<;>rfl)).imp λσ H Q h=>qis (λ_ _=>rfl) (λ_ _ _ _ z=>gin_bl z) h
 |_=>exact λg=>qx1 g (λ_=>rfl) λ_ _=>rfl
def S_nx{K:Qqq}(p:PostO K m H (.nx τ) st' e)(b:Sub m a)(t:Tr H H')(g:Rel K a st' H')(f:SlotOk K a H' τ d):e.nx d H':=p a H' b t g d f
def qcd{K:Qqq}(d:∀Q,(tD K λτ st=>r.ev τ st e) b H Q->g b H Q)(h:tS K (λτ st=>M.stepEx r τ st (.set (.var i) e)) l b H):tAsg g (qyq i) l b H:=by
 refine h.el λm st τ o st' w k f q=>qzj f λu y t f=>qzd f λτ' a s=>?_;cases s;have a:(if i<τ.length then Y (τ.set i (Y u)) else B)=Y τ':=a
 split at a
 ·cases a;exact d _ (rsI w k t λx m1 H1 b1 t1 v p=>S_nx q b1 t1 v ((k.mono b1 t1).put p))
 ·exact nn a
def qce(S:∀j,j<=n->AllOk fns dl j)(G:Good fns dl c X)(hf:∀x,X.fn x=Z)(K:c.N[i]?=Y x)(F:c.sc.names.lookup x=Y .local\/c.sc.names.lookup x=Y .cell)(f:CkE c e p)(V:∀a,e≠.gc a)(hc:∃elt R sc q,p=.ListComp elt R sc q)(hs:∀env:Env,env.scope=c.sc->(swapsWith p (Y (.Name x b)) pos.line env=pure Y7\/swapsWith p (Y (.Name x b)) pos.line env=pure Z)):
  PS X (.Assign [.Name x b] p pos) (tS X.K λτ st=>M.stepEx (M.rn fns dl n) τ st (.set (.var i) e)):=by
 have A:=S n (Qqj n);have P:X.N.Nodup:=by rw[G.N]; exact G.nd
 have loc:∀{x:Y6},(c.sc.names.lookup x=Y .local\/c.sc.names.lookup x=Y .cell)->Loc X.env.scope x:=λ{x} h=>by rw[G.sc]; exact h
 rcases hs X.env G.sc with z|z
 ·exact(qh0 P (qjk G K) (loc F) (A.e c X G e p f) z (.inl (hf x))).imp λD σ H h=>qcd (λ_ q=>q) h
 ·cases n with
  |zero=>exact λpins s σ H Dn I q=>by obtain⟨m,st,τ,d,st',_,_,w,_⟩:=q; cases w
  |succ n=>
   have u:=S n (Qxv n);obtain⟨elt,R,sc,q,rfl⟩:=hc
   cases f with
   |gc=>exact(V _ rfl).elim
   |of hs l f=>
   clear hs l
   cases f with
   |@comp t it q g sr tg y W v k cpos N ok hit U l f=>
    have r:=λ{C fp s H}=>G.inner (C:=C) (fp:=fp) (s:=s) (H:=H) ok.kind ok.nd;exact(qa4 G.calm (qki G ok) (qw9 u G hit) (λC fp s H=>qxj r U λi o x T=>.inr (qb8 ok.tl i o x T)) (λC fp s H=>qhi u r l) (λC fp s H=>u.e _ _ r g _ f) (ok.fs X.env) P (qjk G K) (loc F) (.inl (hf x)) z).imp λD σ H h=>qcd (λQ q=>qb9 q) h
def s1_ok(IH:∀j,j<=n->AllOk fns dl j)(G:Good fns dl c X)(hf:∀x,X.fn x=Z)(h:CkS c s p):PS X p (tS X.K λτ st=>M.stepEx (M.rn fns dl n) τ st s):=by
 have A:=IH n (Qqj n);have hN:X.N.Nodup:=by rw[G.N]; exact G.nd
 have loc:∀{x:Y6},(c.sc.names.lookup x=Y .local\/c.sc.names.lookup x=Y .cell)->Loc X.env.scope x:=λ{x} h=>by rw[G.sc]; exact h
 cases h with
 |@set i e x p pos pos' hi hl R hs=>exact(qh0 hN (qjk G hi) (loc hl) (A.e c X G e p R) (hs X.env) (.inl (hf x))).imp λD σ H h=>qcd (λ_ q=>q) h
 |@setC i e x p pos pos' hi hl R hc hs=>
  by_cases a9:∃a,e=.gc a
  ·obtain⟨a,rfl⟩:=a9
   cases R with
   |of _ _ R=>
    cases R with
    |nm h=>cases h
   |gc ws wq hp hg ha=>
    cases n with
    |zero=>exact λpins s σ H Dn I q=>by obtain⟨m,st,τ,d,st',_,_,w,_⟩:=q; cases w
    |succ n=>exact(qgq (qce (λj hj=>IH j (Qxj hj)) G hf hi hl (.of ws wq ha) hg hc hs)).imp λ_ _ _ q=>q
  ·exact qce IH G hf hi hl R (λa z=>a9 ⟨a,z⟩) hc hs
 |@dset a i e pa pi pe tpos pos ha hi R=>
  refine(qcp (by have:=G.room.units; omega) (A.e c X G a pa ha) (A.e c X G i pi hi) (A.e c X G e pe R) (sh_sw R.sh _ _)).imp λDn σ H h=>?_;refine h.el λm st τ o st' R0 F g q=>qzj g λd1 s1 e1 g=>qzj g λd2 s2 e2 g=>qzj g λd3 s3 e3 g=>?_
  cases d2 with
  |loc l=>
   have g:=g;refine qzx g λkvs E g=>?_
   split at g
   ·rename_i hk;have q:=q.of g;rw[Qqn,decide_eq_true_eq]at hk;obtain⟨k,a8⟩:=qq1 hk.1;refine rsI R0 F e1 λx m1 H1 b1 t1 R1 i1=>rsI R1 (F.mono b1 t1) e2 λy m2 H2 b2 t2 R2 i2=>rsI R2 (F.mono (b1.trans b2) (t1.trans t2)) e3 λz U H3 b3 K R3 i3=>?_;obtain⟨W,xs,V,rfl,T,a6,a2⟩:=R3.wdict E (qzw b3 K _ _ i2);have hz:=qm0 a8 i3;subst hz;have l1:=a6.length;have l2:=qqy;refine⟨W,_,rfl,DPut.k T (by omega),?_⟩;have iv:=qzw (b2.trans b3) (t2.trans K) _ _ i1;exact S_nx q (b1.trans (b2.trans b3)) (t1.trans (t2.trans (K.trans (Tr.putD T)))) (R3.putD a2 V T (a6.put a8 iv)) (F.mono (b1.trans (b2.trans b3)) (t1.trans (t2.trans (K.trans (Tr.putD T)))))
   ·exact nn g
  |_=>exact nn g
 |@tds a i e pa pi pe tpos pos ha hi R=>
  refine(qcp (by have:=G.room.units; omega) (A.e c X G a pa ha) (A.e c X G i pi hi) (A.e c X G e pe R) (sh_sw R.sh _ _)).imp λDn σ H h=>?_;refine h.el λm st τ o st' R0 F g q=>qzj g λd1 s1 e1 g=>qzj g λd2 s2 e2 g=>qzj g λd3 s3 e3 g=>?_
  cases d2 with
  |loc l=>
   cases d3 with
   |fup k=>
    refine qzx g λkvs E g=>?_
    split at g
    ·rename_i hk;have q:=q.of g;refine rsI R0 F e1 λx m1 H1 b1 t1 R1 i1=>rsI R1 (F.mono b1 t1) e2 λy m2 H2 b2 t2 R2 i2=>rsI R2 (F.mono (b1.trans b2) (t1.trans t2)) e3 λz U H3 b3 K R3 i3=>?_;obtain⟨W,xs,V,rfl,T,a7,a2⟩:=R3.wtdict E (qzw b3 K _ _ i2);obtain⟨b,rfl,hb⟩:=i3.fup;have l1:=a7.length;have l2:=qqy;refine⟨W,_,rfl,DPut.t T (by rw[qdr]; exact hb) (by omega),?_⟩;have iv:=qzw (b2.trans b3) (t2.trans K) _ _ i1;have tp:Tr H3 (upd H3 W (.dT (putK xs (k.map Sum.inl) x))):=Tr.putT T;exact S_nx q (b1.trans (b2.trans b3)) (t1.trans (t2.trans (K.trans tp))) (R3.putC a2 rfl V tp ⟨_,qzk,qqb (Sub.refl _) tp.w _ _ (a7.put iv)⟩) (F.mono (b1.trans (b2.trans b3)) (t1.trans (t2.trans (K.trans tp))))
    ·exact nn g
   |_=>exact nn g
  |_=>exact nn g
 |@expr e p pos R hs=>
  refine(qls (A.e c X G e p R) (hs X.env)).imp λDn σ H h=>h.el λm st τ o st' R0 F g q=>qzd g λp e1 e2=>?_;cases e2;exact rsI R0 F e1 λx m1 H1 b1 t1 R1 i1=>S_nx q b1 t1 R1 (F.mono b1 t1)
 |@ret e p pos R=>
  refine(ps_ret (A.e c X G e p R)).imp λDn σ H h=>h.el λm st τ o st' R0 F g q=>qzd g λp e1 e2=>?_;cases e2;exact rsI R0 F e1 λx m1 H1 b1 t1 R1 i1=>q m1 H1 b1 t1 R1 x i1
 |@ite q a b pq pa pb pos hq ha hb=>
  refine(ps_if (A.t c X G q pq hq) (A.s c X G hf a pa ha) (A.s c X G hf b pb hb)).imp λDn σ H h=>h.el λm st τ o st' R0 F g r=>qzx g λp e1 g=>rsI R0 F e1 λm1 H1 b1 t1 R1=>?_
  cases hp:p.1 with
  |true=>
   rw[hp,Z8 rfl]at g;rw[Z8 rfl];exact rsI R1 (F.mono b1 t1) g (r.mono b1 t1)
  |false=>
   rw[hp,Z7 Qq0]at g;rw[Z7 Qq0];exact rsI R1 (F.mono b1 t1) g (r.mono b1 t1)
 |@forr t it body tg b7 pb pos ht hi hs hb=>
   refine(qh1 (by rw[G.xe]; exact PassesOwn.never) G.calm (qw9 A G hi) (qxj G ht λi _ x _=>.inl (hf x)) (A.s c X G hf body pb hb) (hs X.env)).imp λDn σ H h=>?_
   refine h.el λm st τ o st' R0 F g r=>qzx g λp e1 g=>rsI R0 F e1 λm1 H1 Jq b1 t1 R1 hJ=>⟨λj k a4 H'=>∃m2 Q P,Sub m1 m2/\Tr H1 H'/\Rel X.K m2 Q H'/\SlotOk X.K m2 H' P a4/\M.loop p.1 (λτ st d=>(M.setT t d τ).bind λu=>(M.rn fns dl n).ex u st body) k j P Q=Y (o,st'),
    ⟨_,m1,p.2,τ,Sub.refl _,Tr.refl _,R1,F.mono b1 t1,g⟩,?_⟩
   rintro j k a4 H' ⟨m2,Q,P,b2,t2,R2,S2,E⟩
   cases k with
   |zero=>exact nn E
   |succ k=>
    have E:=E;refine qzx E λoo e5 E=>?_
    cases oo with
    |none=>
     have r:=r.of E;exact .inl ⟨(hJ.mono b2 t2).done R2 e5,S_nx r (b1.trans b2) (t1.trans t2) R2 S2⟩
    |some d=>
     obtain⟨b5,hy⟩:=(hJ.mono b2 t2).next R2 e5;refine qzx E λz e6 E=>qzx e6 λa0 e7 e6=>.inr ⟨b5,λa1 H3=>∃U a5 a0,Sub m1 U/\Tr H1 H3/\Rel X.K U a5 H3/\SlotOk X.K U H3 a0 a1/\M.loop p.1 (λτ st d=>(M.setT t d τ).bind λu=>(M.rn fns dl n).ex u st body) k (j+1) a0 a5=Y (o,st'),λa1 H3 w3=>⟨k,Qzb k,w3⟩,λx H2 b4=>?_⟩;obtain⟨sm,ix⟩:=hy x H2 b4;have t2:=t2.trans (Tr.of_same sm);have R2:=R2.same sm;have S2:=S2.mono (Sub.refl _) (Tr.of_same sm);refine qnw ix S2 e7 λa1 S3=>rsI R2 S3 e6 λU H3 b3 K R3=>?_
     cases hz:z.1 with
     |nx N=>
      rw[hz]at E;exact λa3 S4=>⟨U,z.2,N,b2.trans b3,t2.trans K,R3,S4,E⟩
     |ct N=>
      rw[hz]at E;exact λa3 S4=>⟨U,z.2,N,b2.trans b3,t2.trans K,R3,S4,E⟩
     |bk N=>
      rw[hz]at E;have r:=r.of E;exact λa3 S4=>S_nx r (b1.trans (b2.trans b3)) (t1.trans (t2.trans K)) R3 S4
     |rt v=>
      rw[hz]at E;have r:=r.of E;exact λw iw=>r U H3 (b1.trans (b2.trans b3)) (t1.trans (t2.trans K)) R3 w iw
 |bad=>exact λpins s σ H Dn I q=>by obtain⟨m,st,τ,d,st',_,_,z,_⟩:=q; cases z
 |@setA C a f e pa pe tpos pos ha R hc=>
  obtain⟨h1,h2⟩:=G.mo.ats C f hc;refine(ps_fld (A.e c X G a pa ha) (A.e c X G e pe R) (sh_swA R.sh _ _)).imp λDn σ H h=>h.el λm st τ o st' R0 F g q=>qzj g λd1 s1 e1 g=>qzj g λd2 s2 e2 g=>qzx g λfs e3 g=>rsI R0 F e1 λx m1 H1 b1 t1 R1 i1=>rsI R1 (F.mono b1 t1) e2 λy m2 H2 b2 t2 R2 i2=>?_;obtain⟨l,p,dx,ys,rfl,hl,rfl,T,b0,a2⟩:=R2.inst e3 i2;dsimp only at g
  split at g
  ·rename_i b8;have q:=q.of g;have l1:=b0.length;exact⟨p,C,dx,ys,rfl,T,h1,h2,by omega,S_nx q (b1.trans b2) (t1.trans (t2.trans (Tr.putI T))) (R2.putI a2 hl T (b0.put (qzw b2 t2 _ _ i1))) (F.mono (b1.trans b2) (t1.trans (t2.trans (Tr.putI T))))⟩
  ·exact nn g
 |@ford t a body tg pa pb pos ht ha hb=>
  refine(qlr (by rw[G.xe]; exact PassesOwn.never) G.calm (A.e c X G a pa ha) (qxj G ht λi _ x _=>.inl (hf x)) (A.s c X G hf body pb hb) (qlc ha.sh X.env)).imp λDn σ H h=>?_;refine h.el λm st τ o st' R0 F g r=>qzj g λd1 s1 e1 g=>?_
  cases d1 with
  |loc l=>
   have g:=g;refine qzx g λkvs e2 g=>qzx g λw e3 g=>?_
   split at g
   case h_2=>exact nn g
   case h_1 b6 hw=>
   have r:=r.of g;refine rsI R0 F e1 λx m1 H1 b1 t1 R1 i1=>?_;obtain⟨W,xs,V,rfl,T,a6,a2⟩:=R1.wdict e2 i1;refine⟨W,xs,rfl,T,λob nf=>?_⟩;have R2:=R1.ice (o:=ob) a2 V T a6;have ti:=Tr.ice (o:=ob) T;have IK:=a6.keys;have lk:=IK.length;rw[Qqx]at lk;have fz:∀{H':Hp},Tr (upd H1 W (.frz ob (.dK xs))) H'->H' W=Y (.frz ob (.dK xs)):=λt2=>t2.frz W ob _ qzk
   refine⟨λj k a4 H'=>∃m2 Q P,Sub m1 m2/\Tr (upd H1 W (.frz ob (.dK xs))) H'/\Rel X.K m2 Q H'/\SlotOk X.K m2 H' P a4/\M.loop (.tup (M.keysOf kvs)) (λτ st d=>(M.setT t d τ).bind λu=>(M.rn fns dl n).ex u st body) k j P Q=Y w,
    ⟨_,m1,_,τ,Sub.refl _,Tr.refl _,R2,F.mono b1 (t1.trans ti),e3⟩,?_⟩
   rintro j k a4 H' ⟨m2,Q,P,b2,t2,R3,S2,E⟩
   cases k with
   |zero=>exact nn E
   |succ k=>
    have E:(Y (M.keysOf kvs)[j]?:Y4 (Y4 D)).bind (λo=>match o with
     |none=>Y (Out.nx P,Q)
     |some d=>((M.setT t d P).bind λu=>(M.rn fns dl n).ex u Q body).bind λz=>match z.1 with
      |.nx u=>M.loop (.tup (M.keysOf kvs)) (λτ st d=>(M.setT t d τ).bind λu=>(M.rn fns dl n).ex u st body) k (j+1) u z.2
      |.ct u=>M.loop (.tup (M.keysOf kvs)) (λτ st d=>(M.setT t d τ).bind λu=>(M.rn fns dl n).ex u st body) k (j+1) u z.2
      |.bk u=>Y (.nx u,z.2)
      |.rt v=>Y (.rt v,z.2))=Y w:=E
    rw[oBs]at E
    cases e5:(M.keysOf kvs)[j]? with
    |none=>
     rw[e5]at E;cases E;refine .inl ⟨⟨fz t2,by rw[<- lk]; exact Qzg.mp e5⟩,W,ob,xs,nf,fz t2,?_⟩;exact S_nx r (b1.trans b2) (t1.trans (Tr.thaw T t2)) (R3.thaw hw (b2 l W V) (fz t2)) (S2.monoW (Sub.refl _) (Tw.thaw (fz t2)))
    |some d=>
     rw[e5]at E;have hj:=(Qqk.mp e5).1;refine qzx E λz e6 E=>qzx e6 λa0 e7 e6=>.inr ⟨⟨fz t2,by omega⟩,λa1 H3=>∃U a5 a0,Sub m1 U/\Tr (upd H1 W (.frz ob (.dK xs))) H3/\Rel X.K U a5 H3/\SlotOk X.K U H3 a0 a1/\M.loop (.tup (M.keysOf kvs)) (λτ st d=>(M.setT t d τ).bind λu=>(M.rn fns dl n).ex u st body) k (j+1) a0 a5=Y w,λa1 H3 w3=>⟨k,Qzb k,w3⟩,?_⟩;rintro x H2 ⟨rfl,p,hp,rfl⟩;obtain⟨x',ex,ix⟩:=IK.get e5;rw[Qqw,hp]at ex;cases ex;refine qnw (qzw b2 (ti.trans t2) _ _ ix) S2 e7 λa1 S3=>rsI R3 S3 e6 λU H3 b3 K R4=>?_
     cases hz:z.1 with
     |nx N=>
      rw[hz]at E;exact λa3 S4=>⟨U,z.2,N,b2.trans b3,t2.trans K,R4,S4,E⟩
     |ct N=>
      rw[hz]at E;exact λa3 S4=>⟨U,z.2,N,b2.trans b3,t2.trans K,R4,S4,E⟩
     |bk N=>
      rw[hz]at E;cases E;exact λa3 S4=>⟨W,ob,xs,nf,fz (t2.trans K),S_nx r (b1.trans (b2.trans b3)) (t1.trans (Tr.thaw T (t2.trans K))) (R4.thaw hw ((b2.trans b3) l W V) (fz (t2.trans K))) (S4.monoW (Sub.refl _) (Tw.thaw (fz (t2.trans K))))⟩
     |rt v=>
      rw[hz]at E;cases E;exact λv' iv=>⟨W,ob,xs,nf,fz (t2.trans K),r U _ (b1.trans (b2.trans b3)) (t1.trans (Tr.thaw T (t2.trans K))) (R4.thaw hw ((b2.trans b3) l W V) (fz (t2.trans K))) v' (qz8 (Sub.refl _) (Tw.thaw (fz (t2.trans K))) _ _ iv)⟩
  |_=>exact nn g
theorem qlk(i:∀j,j<=n->AllOk fns dl j)(G:Good fns dl c X)(hf:∀x,X.fn x=Z):∀{k}{ps},CkSs c k ps->PSs X ps (tS X.K λτ st=>M.exs (M.stepEx (M.rn fns dl n)) k τ st)
 |_,_,.nil=>pss_nil.imp λl σ H h=>by
  refine h.el λm st τ o st' g f a q=>?_;have q:=q.of a;exact q m H (Sub.refl m) (Tr.refl H) g _ f
 |_,_,.doc t=>(qy0 ps_doc (qlk i G hf t)).imp λl σ H h=>h
 |_,_,.cons h t=>(qy0 (s1_ok i G hf h) (qlk i G hf t)).imp λl σ H u=>by
  refine u.el λm st τ o st' g f a q=>qzx a λp v a=>rsI g f v λm1 H1 b1 t1 e=>?_
  cases b:p.1 with
  |nx r=>
   rw[b]at a;exact λs w=>rsI e w a (q.mono b1 t1)
  |rt d=>
   rw[b]at a;have q:=q.of a;exact q m1 H1 b1 t1 e
  |bk d=>
   rw[b]at a;have q:=q.of a;exact q m1 H1 b1 t1 e
  |ct d=>
   rw[b]at a;have q:=q.of a;exact q m1 H1 b1 t1 e
end
def allOk(fns)(dl):∀n j,j<=n->AllOk fns dl j:=by
 intro n
 induction n with
 |zero=>intro j h; rw[Nat.le_zero.mp h]; exact qbn fns dl
 |succ n a=>
  intro j h;rcases Qz7 j (n+1) with z|z
  ·exact a j (by omega)
  ·have e:j=n+1:=by omega
   subst e;have A:=a n (Qqj n);exact⟨λc X G _ e p h=>e_ok A G h,λc X G _ e p h=>t_ok A G h,λc X G _ e d ps pos h=>w_ok A G h,λc X G hf b ps h=>qlk a G hf h⟩
structure FText (K:Qqq) (mg:Y6->Y4 Y9) (fns:L Fn) (names:L Y6) (glo:Glo) (f:Y1) (x:Y6):Prop where
 ex:∃(nm:Y6) (fa:Y8) (fd:Qr) (st:Stmt) (N ps:L Y6) (F:Fn),fns[f]?=Y F/\Fun K nm x st fa fd/\Lc K mg glo f x fa/\Binds K fd ps []/\FnScope N ps (qzy st)/\CkSs ⟨N,qzy st,names,glo⟩ F.body (qz0 st)/\F.np=ps.length/\F.nl=N.length
def qiy{K:Qqq}{R:Y8}{V:Qr}{st:Stmt}(ih:FTab P w K mg base glo fns names n)(Mg:Mo K mg glo w.params)(hF:fns[f]?=Y F)(o:Fun K nm x st R V)(c:FnScope N ps (qzy st))(I:CkSs ⟨N,qzy st,names,glo⟩ F.body (qz0 st))(u:F.np=ps.length)(C:F.nl=N.length):FnOk P w K mg base CX0 (2*(n+1)) R V ps (spN K fns (n+1) f):=by
 have j:∀{ds:L D}{a st':Y2}{d:D},M.callD fns (n+1) f ds a=Y (d,st')->ds.length=F.np/\((M.Lv fns n).ex (ds.map Y++List.replicate (F.nl - ds.length) B) a F.body).bind (λp=>match p.1 with
   |.rt d=>Y (d,p.2)
   |.nx _=>Y (D.non,p.2)
   |_=>B)=Y (d,st'):=λ{ds a st' d} e=>by
  have e:M.stepCall fns (M.Lv fns n) f ds a=Y (d,st'):=e;unfold M.stepCall at e;rw[hF]at e;dsimp only at e
  split at e
  ·rename_i U;exact⟨U,e⟩
  ·exact nn e
 refine o.ok c (λvs H Q E h=>?_) (λT A outer s H vs Q E hr h=>?_)
 ·obtain⟨m,a,ds,d,st',_,l,e,_⟩:=h;rw[<- l.length,(j e).1,u]
 ·obtain⟨m,a,ds,d,st',R0,l,e,q⟩:=h;obtain⟨U,e⟩:=j e;refine qzx e λp S b=>?_;obtain⟨k,S⟩:=M.lim1_is S;have G:Good fns n ⟨N,qzy st,names,glo⟩ (cxOf CX0 P w K mg base N x (qzy st) R T A outer s H E).nox:=⟨hr,rfl,rfl,rfl,c.nd,c.kind,ih,Mg,rfl⟩
  refine⟨_,(allOk fns n k k (Qqj k)).s _ _ G (λ_=>rfl) F.body (qz0 st) I,⟨m,a,ds.map Y++List.replicate (F.nl - ds.length) B,p.1,p.2,R0,⟨?_,λi d0 hi=>?_⟩,S,λm1 H1 b1 t1 X=>?_⟩⟩
  ·unfold L2.start;rw[Qqe,Qqe,Qqx,Qqx,Qjv,Qjv,C,l.length]
  ·unfold L2.start
   by_cases g:i<ds.length
   ·rw[Qq6 (by simpa using g),Qqw]at hi;have e3:ds[i]?=Y d0:=by
     cases z:ds[i]? with
     |none=>rw[z]at hi; cases hi
     |some y=>rw[z]at hi; cases hi; rfl
    obtain⟨v,e4,t⟩:=l.get e3;refine⟨v,?_,t⟩;rw[Qq6 (by rw[Qqx,<- l.length]; exact g),Qqw,e4]
    rfl
   ·rw[Qzp (by simpa using g),Qj6]at hi
    split at hi<;>cases hi
  ·cases r:p.1 with
   |rt W=>
    rw[r]at b;cases b;exact λv t=>q v m1 H1 b1 t1 X t
   |nx a0=>
    rw[r]at b;cases b;exact λa1 S1=>q _ m1 H1 b1 t1 X qk6
   |bk W=>rw[r]at b; cases b
   |ct W=>rw[r]at b; cases b
def tab_ok{K:Qqq}(T:∀f x,names[f]?=Y x->FText K mg fns names glo f x)(t:Mo K mg glo w.params):
  ∀n,FTab P w K mg base glo fns names n:=by
 intro n
 induction n with
 |zero=>
  intro f x j;obtain⟨nm,l,fd,st,N,ps,F,o,a,k,hb,b,i,c,g⟩:=(T f x j).ex;refine⟨l,fd,ps,k,?_,a.kp,hb⟩;refine⟨λvs H Q E h=>?_,λA outer s H p u vs Q E hr v r hv h=>?_⟩
  ·obtain⟨m,st,ds,d,st',_,_,e,_⟩:=h; cases e
  ·obtain⟨m,st,ds,d,st',_,_,e,_⟩:=h; cases e
 |succ n q=>
  intro f x j;obtain⟨nm,l,fd,st,N,ps,F,o,a,k,hb,b,i,c,g⟩:=(T f x j).ex;exact⟨l,fd,ps,k,qiy q t o a b i c g,a.kp,hb⟩
noncomputable def qlv(K:Qqq):Sp:=λvs H Q _=>∃(a:Y8) (ns:L J),vs=[.ref a]/\SqF K H a (ns.map V.int)/\ns.length<=63/\∀H',Q (.bl Z) H'
def law_sp{K:Qqq}(h:∀ns:L J,ns.length<=63->∃st',M.callD fns n f [.lst (ns.map D.int)] []=Y (.bl Z,st'))(vs)(H)(Q)(E)(q:qlv K vs H Q E):spN K fns n f vs H Q E:=by
 obtain⟨a,ns,rfl,hS,g,k⟩:=q;obtain⟨st',e⟩:=h ns g;refine⟨[],[],[.lst (ns.map D.int)],.bl Z,st',⟨rfl,λl p b c s d m j r w o=>?_,λl c b d m=>?_⟩,qzm (qbz hS (qxd ns)) qqz,e,λv m' H' _ _ _ i=>?_⟩
 ·simp at j
 ·simp at d
 ·rw[i.bl]; exact k H'
def qmf{K:Qqq}(b:Only H)(h:SqL K H a xs):SqF K H a xs:=by
 rcases h with (h|⟨o,h⟩)|h
 ·rcases b a with z|⟨ob,ys,z⟩
  ·rw[h]at z; cases z
  ·rw[h]at z; cases z
 ·exact .inl ⟨o,h⟩
 ·exact .inr h
def walk_law{l:PySem.W.OpenLaw}{K:Qt->Qqq}(e:l.most=Y 63)(b:d.params.defaults=[])(hr:Room k Z1)(i:∀(w:Qk) (h:Heap),YP w h->(K w.params).In h)(F:∀(w:Qk) (mg:Y6->Y4 Y9) (c:Y8) (h:Heap),(K w.params).In h->h.Ns mainGlobals mg->mg d.name=Y (.ref c)->
   ∃fd:Qr,(∀(s:Qz) (u:Y9),BindsTo s fd ⟨[u],[]⟩ [(x,u)])/\∀base:Heap,(K w.params).In base->base.Ns mainGlobals mg->FnOk l.prog w (K w.params) mg base CX0 k c fd [x] (qlv (K w.params))):
  PySem.W.WalkO q loose XP YP l.row.toRowW d [] (λf vs=>PySem.call f vs):=
 L2.walk_of e (by decide) b hr i F (λ_ _ a ns g j hS=>⟨a,ns,rfl,qmf j hS,g,λ_=>rfl⟩) λ_ _ _ _ _ z=>z
def qfr(elt)(gs)(sc)(q)(t)(p)(line)(env):swapsWith (.ListComp elt gs sc q) (Y (.Name t p)) line env=pure Y7\/swapsWith (.ListComp elt gs sc q) (Y (.Name t p)) line env=pure true:=by
 have e:swapsWith (.ListComp elt gs sc q) (Y (.Name t p)) line env=pure (env.blockKind==.function&&env.kindOf t==Y .local&&p.line==q.line && !(sc.names.any λ(n,k)=>n==t&&(k==.local||k==.cell))):=rfl;rw[e]
 cases (env.blockKind==.function&&env.kindOf t==Y .local&&p.line==q.line && !(sc.names.any λ(n,k)=>n==t&&(k==.local||k==.cell))) with
 |false=>exact .inl rfl
 |true=>exact .inr rfl
inductive ClK (K:Qqq) (cn:Y6) (C:Y8):Prop
 |mk (a:Qx5 K mainGlobals cn=Y (Y (.ref C))) (pg:PySem.W.plainGet K C Str.empty=Z) (hd:PySem.W.hasDictIn K C=Z) (po:PySem.W.plainOver K C=Z) (sa:PySem.W.findIn K (.ref C) "__setattr__" = Y (Y (.builtin "object.__setattr__"))) (mk:PySem.W.makesIn K C=Z) (kp:Qzr K (.ref C)=Z):ClK K cn C
def ClK.cls{K:Qqq}(h:ClK K b C):Cls K C:=by
 cases h with
 |mk a pg hd po sa mk kp=>exact⟨pg,hd,po,sa⟩
def ClK.mo{K:Qqq}(q:ClK K b C)(X:K.In h)(G:h.Ns mainGlobals mg):mg b=Y (.ref C)/\Cls K C/\PySem.W.makesIn K C=Z/\Qzr K (.ref C)=true:=by
 have c:=q.cls
 cases q with
 |mk a pg hd po sa mk kp=>exact⟨Qjz X G a,c,mk,kp⟩
noncomputable def sq(a b:Y6):Bool:=a.cps.toList==b.cps.toList
def qqw(h:sq a b=Z):a=b:=by
 obtain⟨⟨a⟩⟩:=a;obtain⟨⟨b⟩⟩:=b;have:a=b:=by simpa[sq] using h
 rw[this]
def qws(a):sq a a=true:=by simp[sq]
def qat(h:(!sq a b)=Z):(a==b)=false:=by
 cases e:a==b with
 |false=>rfl
 |true=>
  rw[beq_iff_eq]at e;rw[e,qws]at h;cases h
noncomputable def gd{α:Type}(b:Yc)(x:Y4 α):Y4 α:=bif b then x else B
def gd_iff:gd b x=Y e↔b=Z/\x=Y e:=by cases b<;>simp[gd]
noncomputable def lk:L (Y6×Qn)->Y6->Y4 Qn
 |[],_=>B
 |(y,k)::r,x=>bif sq x y then Y k else lk r x
theorem qv6:∀{l}{x},lk l x=l.lookup x
 |[],_=>rfl
 |(y,k)::r,x=>by
  unfold lk;rw[Qzv]
  cases e:sq x y with
  |true=>rw[qqw e,beq_self_eq_true]; rfl
  |false=>
   have:(x==y)=false:=by
    cases a:x==y with
    |false=>rfl
    |true=>rw[beq_iff_eq]at a; rw[a,qws]at e; cases e
   rw[this];exact qv6
noncomputable def ixS(x:Y6):L Y6->Y4 Y1
 |[]=>B
 |y::r=>bif sq y x then Y 0 else(ixS x r).map (· + 1)
theorem ixS_eq:∀{N}{i},ixS x N=Y i->N[i]?=Y x
 |[],_,h=>nomatch h
 |y::r,i,h=>by
  unfold ixS at h
  cases e:sq y x with
  |true=>rw[e]at h; cases h; rw[qqw e]; rfl
  |false=>
   rw[e]at h;obtain⟨j,hj,rfl⟩:=Qqd.mp (h);exact(ixS_eq hj :)
noncomputable def kG:Y4 Qn->Yc
 |some .globalImplicit=>Z
 |_=>Y7
noncomputable def kL:Y4 Qn->Yc
 |some .local=>Z
 |some .cell=>Z
 |_=>Y7
noncomputable def kV:Y4 Qn->Yc
 |some .local=>Z
 |some .cell=>Z
 |some .free=>Z
 |_=>Y7
def kG_eq(h:kG o=Z):o=Y .globalImplicit:=by
 unfold kG at h; split at h
 ·rfl
 ·cases h
def kL_eq(h:kL o=Z):o=Y .local\/o=Y .cell:=by
 unfold kL at h; split at h
 ·exact .inl rfl
 ·exact .inr rfl
 ·cases h
def qm1(h:kV o=Z):o=Y .local\/o=Y .cell\/o=Y .free:=by
 unfold kV at h; split at h
 ·exact .inl rfl
 ·exact .inr (.inl rfl)
 ·exact .inr (.inr rfl)
 ·cases h
noncomputable def isG(c:Ctx)(x:Y6):Bool:=kG (lk c.sc.names x)
noncomputable def isL(c:Ctx)(x:Y6):Bool:=kL (lk c.sc.names x)
def qz6(h:isG c x=Z):c.sc.names.lookup x=Y .globalImplicit:=qv6▸kG_eq h
def qaw(h:isL c x=Z):c.sc.names.lookup x=Y .local\/c.sc.names.lookup x=Y .cell:=qv6▸kL_eq h
noncomputable def noD(x:Y6):Bool:=!sq x ("__debug__" : Y6)
noncomputable def swOk:Qj->Yc
 |.ListComp ..=>Y7
 |.SetComp ..=>Y7
 |.DictComp ..=>Y7
 |_=>Z
def sw_ok(h:swOk p=Z)(t)(l)(env):swapsWith p t l env=pure false:=by
 cases p<;>first|rfl|cases h
abbrev TrE:=Ctx->Qj->Y4 E
noncomputable def qb5(c:Ctx)(x:Y6):Y4 E:=
 bif isG c x then(c.glo.cs.find? λq=>sq q.1 x).bind λq=>gd (noD x) (Y (.glo q.1 q.2))
 else(ixS x c.N).bind λi=>gd (kV (lk c.sc.names x)&&noD x && !sq x ("__classdict__" : Y6)) (Y (.var i))
noncomputable def trL(f:Qj->Y4 E):L Qj->Y4 (L E)
 |[]=>Y []
 |p::r=>(f p).bind λe=>(trL f r).map (e::·)
noncomputable def trP(f:Qj->Y4 E):L (Y4 Qj)->L Qj->Y4 (L E)
 |[],[]=>Y []
 |some k::ks,v::vs=>(f k).bind λa=>(f v).bind λb=>(trP f ks vs).map λr=>a::b::r
 |_,_=>B
noncomputable def trO(f:Qj->Y4 E):Y4 Qj->Y4 (Y4 E)
 |none=>Y B
 |some p=>(f p).map Y
noncomputable def qg2(c:Ctx):Qj->Y4 (Y6×L Y6×L D)
 |.Name x _=>gd (isG c x&&noD x) (c.glo.ds.find? λq=>sq q.1 x)
 |_=>B
noncomputable def inNeg:CmpOp->Y4 Yc
 |.In=>Y Y7
 |.NotIn=>Y Z
 |_=>B
noncomputable def qi4(o:Y1)(f:Qj->Y4 E)(c:Ctx)(a:Qj)(op:CmpOp)(b:Qj):Y4 E:=
 match inNeg op with
 |some neg=>match qg2 c b with
  |some q=>(f a).map λx=>.gin neg q.1 q.2.1 x
  |none=>(f a).bind λx=>(f b).map λy=>bif o==1 then .din neg x y else bif o==2 then .tdi neg x y else .cmp op x y
 |none=>(f a).bind λx=>(f b).map λy=>.cmp op x y
noncomputable def qi0(o:Y1)(f:Qj->Y4 E)(c:Ctx)(a:Qj):Qj->Y4 E
 |.Slice lo hi B _=>(f a).bind λx=>(trO f lo).bind λl=>(trO f hi).map λh=>bif o==2 then .tsli x l h else .sli x l h
 |b=>match qg2 c a with
  |some q=>(f b).map λy=>.gidx q.1 q.2.1 q.2.2 y
  |none=>(f a).bind λx=>(f b).map λy=>bif o==1 then .didx x y else .idx x y
noncomputable def bOf(x:Y6):Y4 M.Bq:=[M.Bq.len,.min,.tuple,.list,.all,.sorted,.any,.dict].find? λb=>sq (Str.ofString (qns b)) x
noncomputable def tyOf(x:Y6):Y4 M.Ty:=[M.Ty.bl,.int,.str,.tup,.lst].find? λt=>sq (Str.ofString t.name) x
noncomputable def qfc(c:Ctx):L Qj->Y4 (L M.Ty)
 |[]=>Y []
 |.Name x _::r=>(tyOf x).bind λt=>gd (isG c x) ((qfc c r).map (t::·))
 |_=>B
noncomputable def mOf(x:Y6):Y4 M.Mt:=[M.Mt.append,.extend,.index,.insert].find? λk=>sq (mName k) x
noncomputable def qi2(f:Qj->Y4 E)(c:Ctx)(a:Qj):Qj->Y4 E
 |.Name x _=>(tyOf x).bind λt=>gd (isG c x) ((f a).map λe=>.isi e [t] Y7)
 |.Tuple ps _ _=>(qfc c ps).bind λts=>gd (decide (ts.length<=1000)) ((f a).map λe=>.isi e ts Z)
 |_=>B
noncomputable def qi3(f:Qj->Y4 E)(c:Ctx)(x:Y6)(p:Qj)(r:L Qj):Y4 E:=
 match ixS x c.fns with
 |some k=>gd (qgl x) ((trL f (p::r)).map (.call k))
 |none=>match c.glo.cl.find? λq=>sq q.1 x with
  |some q=>(c.glo.ms.find? λz=>z.2.1==q.2&&sq z.2.2 ("__init__" : Y6)).bind λz=>gd (c.fns[z.1]?).isSome ((trL f (p::r)).map (.new q.2 z.1))
  |none=>match r with
   |[t]=>bif sq x ("isinstance" : Y6) then qi2 f c p t else(bOf x).bind λb=>gd (bOk b) ((trL f (p::r)).map (.bcall b))
   |_=>(bOf x).bind λb=>gd (bOk b) ((trL f (p::r)).map (.bcall b))
noncomputable def qdf(c:Ctx)(x:Y6):L Qj->Y4 Qj
 |[.Call (.Name y _) [a] [] _]=>gd (sq x ("len" : Y6)&&sq y ("set" : Y6)&&isG c y) (Y a)
 |_=>B
noncomputable def qb7(o:Y1)(f:Qj->Y4 E)(c:Ctx)(a:Qj)(m:Y6)(apos:Pos)(ps:L Qj)(pos:Pos):Y4 E:=
 gd (apos.endLine==pos.line) (bif Nat.ble 3 o then
  (c.glo.ms.find? λz=>z.2.1==o - 3&&sq z.2.2 m).bind λz=>(c.glo.cl.find? λq=>q.2==o - 3).bind λ_=>
   gd ((c.fns[z.1]?).isSome&&decide (ps.length<30)) ((f a).bind λe=>(trL f ps).map λes=>.mcall z.2.1 z.1 z.2.2 e es)
 else match ps with
  |[]=>B
  |p::r=>bif sq m ("get" : Y6) then(f a).bind λe=>(f p).bind λy=>gd r.isEmpty (Y (.dgt e y))
   else(mOf m).bind λk=>gd (decide ((p::r).length<30)) ((f a).bind λe=>(trL f (p::r)).map λes=>.meth e k es))
noncomputable def trT(c:Ctx):Qj->Y4 T
 |.Name x _=>(ixS x c.N).bind λi=>gd (isL c x) (Y (.var i))
 |.Tuple es _ _=>(trTs es).map .tup
 |_=>B
where trTs:L Qj->Y4 (L Y1)
 |[]=>Y []
 |.Name x _::r=>(ixS x c.N).bind λi=>gd (isL c x) ((trTs r).map (i::·))
 |_=>B
noncomputable def trI(f:Qj->Y4 E)(c:Ctx)(tg:Qj):Qj->Y4 E
 |.Call (.Name x p) ps [] pos=>
  bif isG c x&&sq x ("range" : Y6) then match ps with
   |[a]=>(f a).map .rng1
   |[a,b]=>(f a).bind λx=>(f b).map λy=>.rng2 x y
   |_=>B
  else bif isG c x&&sq x ("zip" : Y6) then match ps,tg with
   |[a,b],.Tuple _ _ _=>(f a).bind λx=>(f b).map λy=>.zip x y
   |_,_=>B
  else bif isG c x&&sq x ("enumerate" : Y6) then match ps,tg with
   |[a],.Tuple _ _ _=>(f a).map .enu
   |_,_=>B
  else bif isG c x&&sq x ("reversed" : Y6) then match ps with
   |[a]=>(f a).map .rev
   |_=>B
  else f (.Call (.Name x p) ps [] pos)
 |e=>f e
noncomputable def ndB:L Y6->Yc
 |[]=>Z
 |x::r=>!(r.any (sq x))&&ndB r
noncomputable def inN(sc:Scope):L Y6:=(sc.names.filter λy=>y.2==.local && !sq y.1 (".0" : Y6)).map (·.1)++(sc.names.filter λy=>y.2==.free).map (·.1)
noncomputable def inS(sc:Scope)(N:L Y6):L (Y4 Y1):=(inN sc).map λx=>bif kV (lk sc.names x) && !kL (lk sc.names x) then ixS x N else B
noncomputable def compOk(c:Ctx)(sc:Scope):Bool:=sc.kind==.function&&sc.names.all (λy=>y.2 != .cell)&&sc.names.all (λy=>y.2 != .free||(kV (lk c.sc.names y.1)&&lk c.sc.names y.1 != Y .local))&&sc.names.all (λy=>y.2 != .local||lk sc.names y.1==Y .local)&&ndB (inN sc)
noncomputable def qyh(R:TrE)(c:Ctx)(elt tg iter:Qj)(ifs:Y4 Qj)(sc:Scope):Y4 E:=
 gd (compOk c sc&&shOk iter) ((trI (R c) c tg iter).bind λi=>(trT (c.inn (inN sc) sc) tg).bind λt=>gd (tlOk (inN sc) (qa3 sc c.sc) t)
  ((trO (R (c.inn (inN sc) sc)) ifs).bind λk=>(R (c.inn (inN sc) sc) elt).map λe=>.comp t i k e (inS sc c.N)))
noncomputable def trC:Const->Y4 E
 |.int i=>Y (.lit (.int i))
 |.bool i=>Y (.lit (.bl i))
 |.none=>Y (.lit .non)
 |.str i=>Y (.lit (.str i))
 |_=>B
noncomputable def trU(f:Qj->Y4 E)(a:Qj):UnaryOp->Y4 E
 |.USub=>(f a).map .neg
 |.Not=>(f a).map .not
 |_=>B
noncomputable def bo:BoolOp->E->E->E
 |.And=>.and
 |.Or=>.or
noncomputable def trBo(f:Qj->Y4 E)(op:BoolOp)(pos:Pos):L Qj->Y4 E
 |[a,b]=>(f a).bind λx=>(f b).map λy=>bo op x y
 |a::b::d::r=>(f a).bind λx=>(f (.BoolOp op (b::d::r) pos)).map λy=>bo op x y
 |_=>B
noncomputable def trCp(o:Y1)(f:Qj->Y4 E)(c:Ctx)(a:Qj):L CmpOp->L Qj->Y4 E
 |[op],[b]=>qi4 o f c a op b
 |[op,op'],[b,d]=>(f a).bind λx=>(f b).bind λy=>(f d).map λz=>.cmp2 op op' x y z
 |_,_=>B
noncomputable def trCl(o:Y1)(f:Qj->Y4 E)(c:Ctx)(pos:Pos):Qj->L Qj->L Zu->Y4 E
 |.Name x _,p::r,[]=>gd (isG c x&&noD x) (match qdf c x (p::r) with
  |some a=>(f a).map .lenset
  |none=>qi3 f c x p r)
 |.Attribute a m apos,ps,[]=>qb7 o f c a m apos ps pos
 |_,_,_=>B
noncomputable def trDi(o:Y1)(f:Qj->Y4 E):L (Y4 Qj)->L Qj->Y4 E
 |[],[]=>Y (bif o==2 then .tdn else .dic [])
 |k::ks,v::vs=>gd (decide ((k::ks).length<=15)) ((trP f (k::ks) (v::vs)).map .dic)
 |_,_=>B
noncomputable def trLc(o:Y1)(R:TrE)(c:Ctx)(elt:Qj)(sc:Scope):L Comprehension->Y4 E
 |[⟨tg,iter,[],k⟩]=>gd (k==0) (qyh R c elt tg iter B sc)
 |[⟨tg,iter,[q],k⟩]=>gd (k==0) (qyh R c elt tg iter (Y q) sc)
 |_=>B
noncomputable def trX(o:Y1)(R:TrE)(c:Ctx):Qj->Y4 E
 |.Name x _=>(qb5 c x).map λe=>bif o==2 then .unt e else e
 |.Constant k _ _=>trC k
 |.BinOp a op b _=>(R c a).bind λx=>(R c b).map λy=>.bin op x y
 |.UnaryOp op a _=>trU (R c) a op
 |.BoolOp op ps pos=>trBo (R c) op pos ps
 |.Compare a os bs _=>trCp o (R c) c a os bs
 |.IfExp q a b _=>(R c q).bind λx=>(R c a).bind λy=>(R c b).map λz=>.ite x y z
 |.Tuple ps _ _=>(trL (R c) ps).map .tup
 |.List ps _=>(trL (R c) ps).map .lst
 |.Subscript a b _=>qi0 o (R c) c a b
 |.Call g ps ks pos=>trCl o (R c) c pos g ps ks
 |.Attribute a f _=>gd (Nat.ble 3 o) ((c.glo.ats.find? λz=>z.1==o - 3&&sq z.2 f).bind λz=>(R c a).map λe=>.attr z.1 e z.2)
 |.Dict ks vs _=>trDi o (R c) ks vs
 |.ListComp elt gs sc _=>trLc o R c elt sc gs
 |_=>B
noncomputable def isGc:E->Yc
 |.gc _=>Z
 |_=>Y7
noncomputable def pk(p:Pos):Nat:=(p.line*1000+p.col)*1000+p.endCol
noncomputable def trF(o:Y1->Y1)(R:TrE):TrE:=λc p=>gd (shOk p) (match o (pk p.pos) with
 |n=>(trX (n / 2) R c p).bind λe=>gd (qvs e) (Y (bif (n % 2==1)&&gcOk p && !isGc e then .gc e else e)))
noncomputable def trE(o:Y1->Y1):Y1->TrE
 |0=>λ_ _=>B
 |n+1=>trF o (trE o n)
def mD{α c:Type}{o:Y4 α}{f:α->c}{b:c}(h:o.map f=Y b):∃a,o=Y a/\f a=b:=Qqd.mp h
def aD(h:(a&&b)=Z):a=Z/\b=true:=(Qqn _ _).mp h
def bDk{α c:Type}{o:Y4 α}{f:α->Y4 c}{b:c}{P:Prop}(h:o.bind f=Y b)(k:∀a,o=Y a->f a=Y b->P):P:=qzx h k
def mDk{α c:Type}{o:Y4 α}{f:α->c}{b:c}{P:Prop}(h:o.map f=Y b)(k:∀a,o=Y a->f a=b->P):P:=qzd h k
def gDk{x:Y4 α}{e:α}{P:Prop}(h:gd b x=Y e)(k:b=Z->x=Y e->P):P:=k (gd_iff.mp h).1 (gd_iff.mp h).2
def aDk{P:Prop}(h:(a&&b)=Z)(k:a=Z->b=Z->P):P:=k ((Qqn _ _).mp h).1 ((Qqn _ _).mp h).2
def fD{α:Type}{p:α->Yc}{l:L α}{a:α}(h:l.find? p=Y a):a∈l/\p a=true:=⟨Qzu h,Qx0 h⟩
def TrO(Q:Ctx->E->Qj->Prop)(R:TrE):Prop:=∀{c:Ctx}{p:Qj}{e:E},R c p=Y e->Q c e p
abbrev Fo(Q:Ctx->E->Qj->Prop)(c:Ctx)(f:Qj->Y4 E):Prop:=∀{p:Qj}{e:E},f p=Y e->Q c e p
def qd2(h:inNeg a=Y neg):a=inOp neg:=by cases a<;>first|(cases h; done)|(cases h; rfl)
def qvf(h:qb5 c x=Y e):CkV c e x:=by
 unfold qb5 at h
 cases g:isG c x with
 |true=>
  rw[g]at h;refine bDk h λq b h=>gDk h λhd h=>?_;cases h;obtain⟨d,a⟩:=fD b;cases qqw a;exact .glo (qz6 g) d (qat hd)
 |false=>
  rw[g]at h;refine bDk h λi hi h=>gDk h λhd h=>?_;cases h;refine aDk hd λhd h2=>aDk hd λhd h1=>?_;rw[qv6]at hd;exact .var (ixS_eq hi) (qm1 hd) (qat h1) (qat h2)
section
variable (hf:Fo Q c f)
include hf
theorem qxt:∀{ps}{es},trL f ps=Y es->CkL (Q c) es ps
 |[],_,h=>by cases h; exact .nil
 |p::r,es,h=>by
  refine bDk h λe b h=>?_;obtain⟨t,a,rfl⟩:=mD h;exact .cons (hf b) (qxt a)
theorem qhm:∀{ks}{vs}{es},trP f ks vs=Y es->CkP (Q c) es ks vs
 |[],[],_,h=>by cases h; exact .nil
 |some k::ks,v::vs,es,h=>by
  refine bDk h λa e h=>bDk h λb hb h=>?_;obtain⟨t,d,rfl⟩:=mD h;exact .cons (hf e) (hf hb) (qhm d)
 |none::_,_,_,h=>by unfold trP at h; cases h
 |some _::_,[],_,h=>by unfold trP at h; cases h
 |[],_::_,_,h=>by unfold trP at h; cases h
theorem qve(h:trO f p=Y e):CkO (Q c) e p:=by
 cases p with
 |none=>cases h; exact .none
 |some p=>
  obtain⟨e,a,rfl⟩:=mD h;exact .some (hf a)
theorem qac(h:qg2 c b=Y q):∃pos,b=.Name q.1 pos/\c.sc.names.lookup q.1=Y .globalImplicit/\(q.1,q.2.1,q.2.2)∈c.glo.ds/\(q.1==("__debug__" : Y6))=false:=by
 unfold qg2 at h
 split at h
 ·rename_i x pos;refine gDk h λh1 h=>aDk h1 λh1 h2=>?_;obtain⟨d,a⟩:=fD h;have:=qqw a;subst this;exact⟨pos,rfl,qz6 h1,d,qat h2⟩
 ·exact nn h
theorem qfg(h:qi4 o f c a g b=Y e):CkG Q c e (.Compare a [g] [b] pos):=by
 have plain:∀{g e},((f a).bind λx=>(f b).map λy=>E.cmp g x y)=Y e->CkG Q c e (.Compare a [g] [b] pos):=λ{g e} h=>by
  refine bDk h λx d h=>?_;obtain⟨y,i,rfl⟩:=mD h;exact .cmp (hf d) (hf i)
 unfold qi4 at h
 split at h
 ·rename_i neg hn
  split at h
  ·rename_i q k;obtain⟨p0,rfl,h1,h2,l⟩:=qac hf k;obtain⟨x,d,rfl⟩:=mD h;rw[qd2 hn];exact .gin h1 h2 l (hf d)
  ·cases j:o==1 with
   |false=>
    rw[j]at h
    cases j:o==2 with
    |false=>rw[j]at h; exact plain h
    |true=>
     rw[j]at h;refine bDk h λx d h=>?_;obtain⟨y,i,rfl⟩:=mD h;rw[qd2 hn];exact .tdi (hf d) (hf i)
   |true=>
    rw[j]at h;refine bDk h λx d h=>?_;obtain⟨y,i,rfl⟩:=mD h;rw[qd2 hn];exact .din (hf d) (hf i)
 ·exact plain h
theorem qfd(h:qi0 o f c a b=Y e):CkG Q c e (.Subscript a b pos):=by
 unfold qi0 at h
 split at h
 ·refine bDk h λx d h=>bDk h λl i h=>?_;obtain⟨k,j,rfl⟩:=mD h
  cases o==2 with
  |false=>exact .sli (hf d) (qve hf i) (qve hf j)
  |true=>exact .tsli (hf d) (qve hf i) (qve hf j)
 ·split at h
  ·rename_i q m;obtain⟨p0,rfl,h1,h2,n⟩:=qac hf m;obtain⟨x,d,rfl⟩:=mD h;exact .gidx h1 h2 n (hf d)
  ·refine bDk h λx d h=>?_;obtain⟨y,g,rfl⟩:=mD h
   cases p:o==1 with
   |false=>exact .idx (hf d) (hf g)
   |true=>exact .didx (hf d) (hf g)
omit hf in
theorem qbt(h:tyOf x=Y t):t≠.non/\Str.ofString t.name=x:=by
 obtain⟨h1,h2⟩:=fD h;refine⟨?_,qqw h2⟩;rintro rfl;simp at h1
omit hf in
theorem qyf:∀{ps}{b},qfc c ps=Y b->CkTys c b ps
 |[],_,h=>by cases h; exact .nil
 |p::r,b,h=>by
  unfold qfc at h
  split at h
  ·rename_i a; cases a
  ·rename_i a;cases a;refine bDk h λt e h=>gDk h λg h=>?_;obtain⟨b,d,rfl⟩:=mD h;obtain⟨h1,rfl⟩:=qbt e;exact .cons h1 (qz6 g) (qyf d)
  ·exact nn h
theorem qfe(g:c.sc.names.lookup ("isinstance" : Y6)=Y .globalImplicit)(h:qi2 f c a t=Y e):CkG Q c e (.Call (.Name "isinstance" p0) [a,t] [] pos):=by
 unfold qi2 at h
 split at h
 ·refine bDk h λt b h=>gDk h λi h=>?_;obtain⟨e,d,rfl⟩:=mD h;obtain⟨h1,rfl⟩:=qbt b;exact .isi1 g h1 (qz6 i) (hf d)
 ·refine bDk h λj b h=>gDk h λi h=>?_;obtain⟨e,d,rfl⟩:=mD h;exact .isiN (of_decide_eq_true i) g (qyf b) (hf d)
 ·exact nn h
theorem bc_ok(g:isG c x=Z)(h:((bOf x).bind λb=>gd (bOk b) ((trL f (p::ps)).map (.bcall b)))=Y e):CkG Q c e (.Call (.Name x p0) (p::ps) [] pos):=by
 refine bDk h λb hb h=>gDk h λh1 h=>?_;obtain⟨es,a,rfl⟩:=mD h;have:=qqw (fD hb).2;subst this;exact .bcall (qz6 g) h1 (qxt hf a)
theorem qff(g:isG c x=Z)(hd:noD x=Z)(h:qi3 f c x p r=Y e):CkG Q c e (.Call (.Name x p0) (p::r) [] pos):=by
 unfold qi3 at h
 split at h
 ·rename_i k o;refine gDk h λh1 h=>?_;obtain⟨es,d,rfl⟩:=mD h;exact .call (qz6 g) (ixS_eq o) (qat hd) h1 (qxt hf d)
 ·split at h
  ·rename_i q m;refine bDk h λz i h=>gDk h λh1 h=>?_;obtain⟨es,d,rfl⟩:=mD h;obtain⟨y,j⟩:=Qz1.mp h1;obtain⟨n,l⟩:=fD m;obtain⟨b,a⟩:=fD i;refine aDk a λs hb=>?_;have:=qqw l;subst this;obtain⟨A,C,w⟩:=z;have v:=qqw hb;have u:=eq_of_beq s;subst v u;exact .new (qz6 g) j b n (qat hd) (qxt hf d)
  ·split at h
   ·rename_i t
    cases hi:sq x ("isinstance" : Y6) with
    |true=>
     rw[hi]at h;have:=qqw hi;subst this;exact qfe hf (qz6 g) h
    |false=>rw[hi]at h; exact bc_ok hf g h
   ·exact bc_ok hf g h
omit hf in
theorem qde(h:qdf c x ps=Y a):x=("len" : Y6)/\∃q b,ps=[.Call (.Name "set" q) [a] [] b]/\c.sc.names.lookup ("set" : Y6)=Y .globalImplicit:=by
 unfold qdf at h
 split at h
 ·rename_i y q d b;refine gDk h λh1 h=>?_;cases h;refine aDk h1 λh1 g=>?_;have h1:=aD h1;have:=qqw h1.2;subst this;exact⟨qqw h1.1,q,b,rfl,qz6 g⟩
 ·exact nn h
theorem qb6(h:qb7 o f c a m b ps pos=Y e):CkG Q c e (.Call (.Attribute a m b) ps [] pos):=by
 unfold qb7 at h;refine gDk h λn h=>?_
 cases u:Nat.ble 3 o with
 |true=>
  rw[u]at h;refine bDk h λz w h=>bDk h λq A h=>gDk h λh1 h=>aDk h1 λh1 h2=>bDk h λx d h=>?_;obtain⟨es,t,rfl⟩:=mD h;obtain⟨y,i⟩:=Qz1.mp h1;obtain⟨C,g⟩:=fD w;obtain⟨l,j⟩:=fD A;refine aDk g λF hb=>?_;obtain⟨K,N,I⟩:=z;obtain⟨P,R⟩:=q;have H:=qqw hb;have G:=eq_of_beq F;have v:=eq_of_beq j;subst H;rw[<- G]at v;subst v;exact .mcall (hf d) i C l (qxt hf t) (of_decide_eq_true h2) n
 |false=>
  rw[u]at h
  split at h
  ·exact nn h
  ·rename_i p r _
   cases s:sq m ("get" : Y6) with
   |true=>
    cases qqw s;rw[s]at h;refine bDk h λx d h=>bDk h λy i h=>?_
    cases r with
    |nil=>
     cases h;exact .dgt (hf d) (hf i) n
    |cons S r=>exact nn h
   |false=>
    rw[s]at h;refine bDk h λk D h=>gDk h λhn h=>bDk h λx d h=>?_;obtain⟨es,t,rfl⟩:=mD h;have:=qqw (fD D).2;subst this;exact .meth (hf d) (qxt hf t) (of_decide_eq_true hn) n
omit hf in
theorem qb3:∀{es}{is},trT.trTs c es=Y is->CkTs c is es
 |[],_,h=>by cases h; exact .nil
 |p::r,is,h=>by
  unfold trT.trTs at h
  split at h
  ·rename_i a; cases a
  ·rename_i a;cases a;refine bDk h λi hi h=>gDk h λg h=>?_;obtain⟨d,b,rfl⟩:=mD h;exact .cons (ixS_eq hi) (qaw g) (qb3 b)
  ·exact nn h
omit hf in
theorem qb4(h:trT c p=Y t):CkT c t p:=by
 unfold trT at h
 split at h
 ·refine bDk h λi hi h=>gDk h λg h=>?_;cases h;exact .var (ixS_eq hi) (qaw g)
 ·obtain⟨a,hi,rfl⟩:=mD h;exact .tup (qb3 hi)
 ·exact nn h
theorem qhn(h:trI f c tg p=Y e):CkI (Q c) c tg e p:=by
 unfold trI at h
 split at h
 ·rename_i x q ps pos
  cases hr:isG c x&&sq x ("range" : Y6) with
  |true=>
   rw[hr]at h;refine aDk hr λg a=>?_;have:=qqw a;subst this
   split at h
   ·obtain⟨x,a,rfl⟩:=mD h;exact .rng1 (qz6 g) (hf a)
   ·refine bDk h λx a h=>?_;obtain⟨y,b,rfl⟩:=mD h;exact .rng2 (qz6 g) (hf a) (hf b)
   ·exact nn h
  |false=>
   rw[hr]at h
   cases hr:isG c x&&sq x ("zip" : Y6) with
   |true=>
    rw[hr]at h;refine aDk hr λg a=>?_;have:=qqw a;subst this;dsimp only[cond]at h
    split at h
    ·refine bDk h λx a h=>?_;obtain⟨y,b,rfl⟩:=mD h;exact .zip (qz6 g) (hf a) (hf b)
    ·exact nn h
   |false=>
    rw[hr]at h
    cases hr:isG c x&&sq x ("enumerate" : Y6) with
    |true=>
     rw[hr]at h;refine aDk hr λg a=>?_;have:=qqw a;subst this;dsimp only[cond]at h
     split at h
     ·obtain⟨y,b,rfl⟩:=mD h;exact .enu (qz6 g) (hf b)
     ·exact nn h
    |false=>
     rw[hr]at h
     cases hr:isG c x&&sq x ("reversed" : Y6) with
     |true=>
      rw[hr]at h;refine aDk hr λg a=>?_;have:=qqw a;subst this;dsimp only[cond]at h
      split at h
      ·obtain⟨y,b,rfl⟩:=mD h;exact .rev (qz6 g) (hf b)
      ·exact nn h
     |false=>
      rw[hr]at h;exact .seq (hf h)
 ·exact .seq (hf h)
end
theorem qy6:∀{l},ndB l=Z->l.Nodup
 |[],_=>.nil
 |x::r,h=>by
  refine aDk h λh1 h2=>Qzj.mpr ⟨λa=>?_,qy6 h2⟩;rw[Qxd.mpr ⟨x,a,qws x⟩]at h1;cases h1
def qvg{R:TrE}(s:TrO Q R)(h:qyh R c elt tg a ifs sc=Y e):CkG Q c e (.ListComp elt [⟨tg,a,ifs.toList,0⟩] sc pos):=by
 unfold qyh at h;refine gDk h λb h=>aDk b λb q=>aDk b λb C=>aDk b λb D=>aDk b λb F=>aDk b λh1 h2=>bDk h λi hi h=>bDk h λt v h=>gDk h λp h=>?_;have w:=eq_of_beq h1;have f:=λy g=>by
  have:=Qzx.mp h2 y g;simpa using this
 have d:∀y∈sc.names,y.2=.free->c.sc.names.lookup y.1=Y .cell\/c.sc.names.lookup y.1=Y .free:=λy g e=>by
  have:=Qzx.mp F y g;rw[e]at this;refine aDk (this) λo hb=>?_;rw[qv6]at o hb;rcases qm1 o with z|z|z
  ·rw[z]at hb; cases hb
  ·exact .inl z
  ·exact .inr z
 have m:∀y∈sc.names,y.2=.local->sc.names.lookup y.1=Y .local:=λy g e=>by
  have:=Qzx.mp D y g;rw[e]at this;rw[<- qv6];exact eq_of_beq (this)
 have n:(inS sc c.N).length=(inN sc).length:=by unfold inS; rw[Qqx]
 have l:∀(j i:Y1),(inS sc c.N)[j]?=Y (Y i)->∃x,(inN sc)[j]?=Y x/\c.N[i]?=Y x/\sc.names.lookup x=Y .free:=λj i hj=>by
  unfold inS at hj;rw[Qqw]at hj;refine mDk hj λx u hj=>⟨x,u,?_⟩
  cases hb:kV (lk sc.names x) && !kL (lk sc.names x) with
  |false=>rw[hb]at hj; cases hj
  |true=>
   rw[hb]at hj;refine aDk hb λo hb=>⟨ixS_eq hj,?_⟩
   rw[<- qv6];rcases qm1 o with z|z|z
   ·rw[z]at hb; cases hb
   ·rw[z]at hb; cases hb
   ·exact z
 have hs:=λenv x=>qlc q env x;have ok:CpOk c sc (inS sc c.N) (inN sc) a t:=⟨w,f,d,m,n,l,qy6 C,hs,p⟩
 refine bDk h λk r h=>?_;obtain⟨e,A,rfl⟩:=mD h;exact .comp ok (qhn (s) hi) (qb4 v) (qve s r) (s A)
def bo_ok(h:Q c x p)(k:Q c y (boT a pos (q::r))):CkG Q c (bo a x y) (.BoolOp a (p::q::r) pos):=by
 cases a with
 |And=>exact .and h k
 |Or=>exact .or h k
def trX_ok{R:TrE}(d:TrO Q R)(w:shOk p=Z)(h:trX o R c p=Y e):CkG Q c e p:=by
 cases p with
 |Name x q=>
  obtain⟨y,l,rfl⟩:=mD h
  cases o==2 with
  |false=>exact .nm (qvf l)
  |true=>exact .unt (qvf l)
 |Constant k _ _=>
  cases k with
  |int i=>cases h; exact .int
  |bool i=>cases h; exact .bl
  |none=>cases h; exact .non
  |str i=>cases h; exact .str
  |_=>exact nn h
 |BinOp a n b q=>
  refine bDk h λx j h=>?_;obtain⟨y,l,rfl⟩:=mD h;exact .bin (d j) (d l)
 |UnaryOp n a q=>
  cases n with
  |USub=>
   obtain⟨x,j,rfl⟩:=mD h;exact .neg (d j)
  |Not=>
   obtain⟨x,j,rfl⟩:=mD h;exact .not (d j)
  |_=>exact nn h
 |BoolOp n ps q=>
  have h:trBo (R c) n q ps=Y e:=h;unfold trBo at h
  split at h
  ·refine bDk h λx j h=>?_;obtain⟨y,l,rfl⟩:=mD h;exact bo_ok (d j) (d l)
  ·refine bDk h λx j h=>?_;obtain⟨y,l,rfl⟩:=mD h;exact bo_ok (d j) (d l)
  ·exact nn h
 |Compare a os bs q=>
  have h:trCp o (R c) c a os bs=Y e:=h;unfold trCp at h
  split at h
  ·exact qfg d h
  ·refine bDk h λx j h=>bDk h λy l h=>?_;obtain⟨z,m,rfl⟩:=mD h;exact .cmp2 (d j) (d l) (d m)
  ·exact nn h
 |IfExp q a b _=>
  refine bDk h λx j h=>bDk h λy l h=>?_;obtain⟨z,m,rfl⟩:=mD h;exact .ite (d j) (d l) (d m)
 |Tuple ps _ _=>
  obtain⟨x,j,rfl⟩:=mD h;exact .tup (qxt d j)
 |List ps _=>
  obtain⟨x,j,rfl⟩:=mD h;exact .lst (qxt d j)
 |Subscript a b _=>exact qfd d h
 |Call g ps ks q=>
  have h:trCl o (R c) c q g ps ks=Y e:=h;unfold trCl at h
  split at h
  ·refine gDk h λh1 h=>aDk h1 λg hd=>?_
   split at h
   ·rename_i a s;obtain⟨x,j,rfl⟩:=mD h;obtain⟨rfl,q,v,e,hs⟩:=qde s;cases e;exact .lenset (qz6 g) hs (d j)
   ·exact qff d g hd h
  ·exact qb6 d h
  ·exact nn h
 |Attribute a f _=>
  refine gDk h λA h=>bDk h λz m h=>?_;obtain⟨x,j,rfl⟩:=mD h;obtain⟨t,r⟩:=fD m;refine aDk r λs hb=>?_;have:=qqw hb;subst this;exact .attr (d j) t
 |Dict ks vs _=>
  have h:trDi o (R c) ks vs=Y e:=h;unfold trDi at h
  split at h
  ·cases h
   cases o==2 with
   |false=>exact .dic0
   |true=>exact .tdn
  ·refine gDk h λh1 h=>?_;obtain⟨x,j,rfl⟩:=mD h;exact .dic (qhm d j) (of_decide_eq_true h1)
  ·exact nn h
 |ListComp elt u sc _=>
  have h:trLc o R c elt sc u=Y e:=h;unfold trLc at h
  split at h
  ·refine gDk h λh1 h=>?_;cases eq_of_beq h1;exact qvg (ifs:=B) d h
  ·refine gDk h λh1 h=>?_;cases eq_of_beq h1;exact qvg (ifs:=Y _) d h
  ·exact nn h
 |_=>exact nn h
def trF_ok{R:TrE}(g:TrO Q R):TrO (CkF Q) (trF o R):=λ{c p e} h=>by
 unfold trF at h;refine gDk h λa h=>bDk h λx f h=>gDk h λd h=>?_;cases h;have k:=trX_ok g a f
 cases hc:(o (pk p.pos) % 2==1)&&gcOk p && !isGc x with
 |false=>exact .of a d k
 |true=>
  refine aDk hc λh1 h2=>aDk h1 λ_ h1=>.gc a d h1 (λb e=>?_) k;rw[e]at h2;cases h2
theorem qyg:∀n,TrO (CkN n) (trE o n)
 |0=>λh=>nomatch h
 |n+1=>trF_ok (qyg n)
noncomputable def qij:Qj->Yc
 |.ListComp ..=>Z
 |_=>Y7
noncomputable def qi5(o:Y1->Y1)(f:Qj->Y4 E)(c:Ctx)(p:Qj):Qj->Y4 S
 |.Name x _=>(ixS x c.N).bind λi=>gd (isL c x) ((f p).map λe=>.set (.var i) e)
 |.Subscript a i tp=>(f p).bind λe=>(f a).bind λx=>(f i).map λy=>bif o (pk tp) / 2==2 then .tds x y e else .dset x y e
 |.Attribute a m tp=>(f p).bind λe=>gd (Nat.ble 3 (o (pk tp) / 2)) ((c.glo.ats.find? λz=>z.1==o (pk tp) / 2 - 3&&sq z.2 m).bind λz=>(f a).map λx=>.setA z.1 x z.2 e)
 |_=>B
noncomputable def trS1(o:Y1->Y1)(f:Qj->Y4 E)(Bq:L Stmt->L S)(c:Ctx):Stmt->Y4 S
 |.Assign [t] p _=>qi5 o f c p t
 |.Expr p _=>gd (swOk p) ((f p).map .expr)
 |.Return (Y p) _=>(f p).map .ret
 |.If q a b _=>(f q).map λe=>.ite e (Bq a) (Bq b)
 |.For tg it b [] pos=>gd (shOk it) ((trT c tg).bind λt=>bif o (pk pos) / 2==1 then(f it).map λe=>.ford t e (Bq b) else(trI f c tg it).map λe=>.forr t e (Bq b))
 |_=>B
noncomputable def qm6:Stmt->Yc
 |.Expr (.Constant (.str _) _ _) _=>Z
 |_=>Y7
noncomputable def trSL(g:Stmt->S):L Stmt->L S
 |[]=>[]
 |p::r=>bif qm6 p then trSL g r else g p::trSL g r
noncomputable def trSs(o:Y1->Y1)(f:TrE)(c:Ctx):Y1->L Stmt->L S
 |0,ps=>trSL (λ_=>.bad) ps
 |n+1,ps=>trSL (λp=>(trS1 o (f c) (trSs o f c n) c p).getD .bad) ps
theorem qks(a:∀p,CkS c (g p) p):∀ps,CkSs c (trSL g ps) ps
 |[]=>.nil
 |p::r=>by
  unfold trSL
  cases hd:qm6 p with
  |false=>exact .cons (a p) (qks a r)
  |true=>
   unfold qm6 at hd
   split at hd
   ·exact .doc (qks a r)
   ·cases hd
def qfh(hf:Fo CkE c f)(h:qi5 o f c p t=Y s):CkS c s (.Assign [t] p pos):=by
 unfold qi5 at h
 split at h
 ·rename_i x g;refine bDk h λi hi h=>gDk h λl h=>?_;obtain⟨e,b,rfl⟩:=mD h
  cases hc:qij p with
  |true=>
   unfold qij at hc
   split at hc
   ·exact .setC (ixS_eq hi) (qaw l) (hf b) ⟨_,_,_,_,rfl⟩ λenv _=>qfr _ _ _ _ _ _ _ env
   ·cases hc
  |false=>
   refine .set (ixS_eq hi) (qaw l) (hf b) λenv=>sw_ok ?_ _ _ _;have:=(hf b).sh
   cases p<;>first|rfl|(cases hc; done)|(cases this; done)
 ·rename_i a i g;refine bDk h λe b h=>bDk h λx d h=>?_;obtain⟨y,k,rfl⟩:=mD h
  cases o (pk g) / 2==2 with
  |false=>exact .dset (hf d) (hf k) (hf b)
  |true=>exact .tds (hf d) (hf k) (hf b)
 ·rename_i a m g;refine bDk h λe b h=>gDk h λ_ h=>bDk h λz n h=>?_;obtain⟨x,d,rfl⟩:=mD h;obtain⟨q,j⟩:=fD n;refine aDk j λ_ hb=>?_;have:=qqw hb;subst this;exact .setA (hf d) (hf b) q
 ·exact nn h
def qi1(hf:Fo CkE c f)(d:∀ps,CkSs c (Bq ps) ps)(h:trS1 o f Bq c p=Y s):CkS c s p:=by
 unfold trS1 at h
 split at h
 ·exact qfh hf h
 ·refine gDk h λh1 h=>?_;obtain⟨e,a,rfl⟩:=mD h;exact .expr (hf a) λenv=>sw_ok h1 _ _ _
 ·obtain⟨e,a,rfl⟩:=mD h;exact .ret (hf a)
 ·obtain⟨e,a,rfl⟩:=mD h;exact .ite (hf a) (d _) (d _)
 ·rename_i tg it b pos;refine gDk h λh1 h=>bDk h λt g h=>?_
  cases i:o (pk pos) / 2==1 with
  |true=>
   rw[i]at h;obtain⟨e,a,rfl⟩:=mD h;exact .ford (qb4 g) (hf a) (d _)
  |false=>
   rw[i]at h;obtain⟨e,a,rfl⟩:=mD h;exact .forr (qb4 g) (qhn hf a) (λenv x=>qlc h1 _ _) (d _)
 ·exact nn h
theorem qkr(hf:TrO CkE f):∀n ps,CkSs c (trSs o f c n ps) ps
 |0,ps=>qks (λ_=>.bad) ps
 |n+1,ps=>qks (λp=>by
  cases h:trS1 o (f c) (trSs o f c n) c p with
  |none=>exact .bad
  |some s=>exact qi1 (hf) (qkr hf n) h) ps
noncomputable def argN(st:Stmt):L Y6:=(qqf st).args.map (·.arg)
noncomputable def locN(st:Stmt):L Y6:=argN st++((qzy st).names.filter λy=>kL (Y y.2) && !((argN st).any (sq y.1))).map (·.1)
noncomputable def trFn(o:Y1->Y1)(names:L Y6)(glo:Glo)(st:Stmt):Fn:=
 ⟨(argN st).length,(locN st).length,trSs o (trE o 30) ⟨locN st,qzy st,names,glo⟩ 12 (qz0 st)⟩
noncomputable def scOk(st:Stmt):Bool:=(qzy st).kind==.function && !(qzy st).isCoroutine && !(qzy st).isGenerator&&ndB (locN st)&&(argN st).all (λx=>kL (lk (qzy st).names x))&&(qzy st).names.all (λy=>y.2 != .free)
def qcg{st:Stmt}(h:scOk st=Z):FnScope (locN st) (argN st) (qzy st):=by
 refine aDk h λh c=>aDk h λh d=>aDk h λh e=>aDk h λh f=>aDk h λh1 h2=>?_;refine⟨eq_of_beq h1,by simpa using h2,by simpa using f,qy6 e,by unfold locN; rw[List.take_left],λx b=>?_,λy a=>?_⟩
 ·have:=kL_eq (Qzx.mp d x b);rwa [qv6]at this
 ·simpa using Qzx.mp c y a
abbrev Orc:=L (Y1×L Y1)
abbrev Rw:=Y4 Y8×Y6×Y6×Stmt×Orc
noncomputable def orc:Orc->Y1->Y1
 |[],_=>0
 |(v,l)::r,k=>bif l.any (k.beq ·) then v else orc r k
noncomputable def msT:Y1->L Rw->L (Y1×Y8×Y6)
 |_,[]=>[]
 |n,(Y C,m,_)::r=>(n,C,m)::msT (n+1) r
 |n,(B,_)::r=>msT (n+1) r
noncomputable def fnsT(names:L Y6)(glo:Glo)(t:L Rw):L Fn:=t.map λr=>trFn (orc r.2.2.2.2) names glo r.2.2.2.1
def ms_mem:∀{n},q∈msT n t->∃k r,q.1=n+k/\t[k]?=Y r/\r.1=Y q.2.1/\r.2.1=q.2.2:=by
 induction t with
 |nil=>exact λh=>nomatch h
 |cons a t b=>
  obtain⟨C,m,z⟩:=a;intro n h;have up:q∈msT (n+1) t->∃k r,q.1=n+k/\((C,m,z)::t)[k]?=Y r/\r.1=Y q.2.1/\r.2.1=q.2.2:=λh=>by
   obtain⟨k,r,e,w⟩:=b h;exact⟨k+1,r,by lia,w⟩
  cases C with
  |none=>exact up h
  |some C=>
   rcases Qqa.mp h with rfl|h
   ·exact⟨0,_,rfl,rfl,rfl,rfl⟩
   ·exact up h
abbrev Bd(r:Rw):Prop:=∀(kV doc pm:Y9) (an:Y4 Y8) (cdv ct:Y9) (us:L Y9),us.length=(argN r.2.2.2.1).length->bindArgs (PySem.W.fnOf r.2.1 r.2.2.1 (qqf r.2.2.2.1) (qz0 r.2.2.2.1) (qzy r.2.2.2.1) .none kV doc pm an cdv ct) ⟨us,[]⟩=pure ((argN r.2.2.2.1).zip us)
inductive RwK (K:Qqq):Rw->Prop
 |fn {x:Y6}{st:Stmt}{o:Orc}{f:Y8}{od an:Y4 Y8}{sl:Array (Y4 Y9)}{oc kV dc pm cd ct:Y9}(a:Qx5 K mainGlobals x=Y (Y (.ref f))) (l:K.lookup f=Y ⟨oc,od,.func (PySem.W.fnOf x x (qqf st) (qz0 st) (qzy st) .none kV dc pm an cd ct),sl⟩) (c:PySem.W.codeIn K cd x=Z) (k:Qzr K (.ref f)=Z):RwK K (B,x,x,st,o)
 |me {C:Y8}{m x:Y6}{st:Stmt}{o:Orc}{f:Y8}{od an:Y4 Y8}{sl:Array (Y4 Y9)}{oc kV dc pm cd ct:Y9}(a:PySem.W.findIn K (.ref C) m=Y (Y (.ref f))) (fn:PySem.W.isFn K (.ref f)=Z) (l:K.lookup f=Y ⟨oc,od,.func (PySem.W.fnOf m x (qqf st) (qz0 st) (qzy st) .none kV dc pm an cd ct),sl⟩) (c:PySem.W.codeIn K cd x=Z) (k:Qzr K (.ref f)=Z):RwK K (Y C,m,x,st,o)
noncomputable def rwOk(r:Rw):Bool:=scOk r.2.2.2.1&&(r.1.isNone||(qgl r.2.2.1).not)
def qfp{K:Qqq}(X:K.In h)(G:h.Ns mainGlobals mg)(d:glo.ms=msT 0 t)(hs:∀r∈t,RwK K r)(hb:∀r∈t,Bd r)(hc:t.all rwOk=Z)(f)(x)(e:(t.map (·.2.2.1))[f]?=Y x):FText K mg (fnsT (t.map (·.2.2.1)) glo t) (t.map (·.2.2.1)) glo f x:=by
 rw[Qqw]at e;obtain⟨r,hr,rfl⟩:=mD e;have i:=Qqo hr;have g:(fnsT (t.map (·.2.2.1)) glo t)[f]?=Y (trFn (orc r.2.2.2.2) (t.map (·.2.2.1)) glo r.2.2.2.1):=by
  unfold fnsT;rw[Qqw,hr]
  rfl
 have d:∀C m,(f,C,m)∈glo.ms->r.1=Y C/\r.2.1=m:=λC m w=>by
  rw[d]at w;obtain⟨k,r',e,h1,h2⟩:=ms_mem w;obtain rfl:f=k:=e.trans (Qx4 k);cases hr.symm.trans h1;exact h2
 refine aDk (Qzx.mp hc r i) λh1 h2=>?_;have b:=hb r i;have s:=qcg h1
 cases hs r i with
 |fn a l c k=>exact⟨_,_,_,_,_,_,_,g,qwk l c k,⟨λ_=>Qjz X G a,λC m w=>nomatch (d C m w).1⟩,(qwk l c k).binds b,s,qkr (qyg 30) 12 _,rfl,rfl⟩
 |@me C m x st o f p an sl q kV dc n u ct a fn l c k=>
  refine⟨_,_,_,_,_,_,_,g,qwk l c k,⟨λz=>?_,λC m w=>?_⟩,(qwk l c k).binds b,s,qkr (qyg 30) 12 _,rfl,rfl⟩
  ·have h2:=h2;rw[z]at h2;cases h2
  ·obtain⟨e,j⟩:=d C m w;cases e;cases j;exact⟨a,fn,k⟩
structure Vof (K:Qqq) (u:Y9) (d:D):Prop where
 ex:∃v,RelV v u/\∀m H,IsD K m H d v
structure Vsf (K:Qqq) (us:L Y9) (ds:L D):Prop where
 ex:∃vs,Vals vs us/\∀m H,IsDs K m H ds vs
structure Enf (prm:Qt) (K:Qqq) (es:L Qo) (ks:L Y6) (ds:L D):Prop where
 ex:∃us vs,EntOk prm es ks us/\Vals vs us/\∀m H,IsDs K m H ds vs
def vInt{K:Qqq}:Vof K (.int i t) (.int i):=⟨.int _,⟨_,rfl⟩,λm H=>mkInt _⟩
def vStr{K:Qqq}:Vof K (.str s t) (.str s):=⟨.str _,⟨_,rfl⟩,λm H=>mkStr _⟩
def vNil{K:Qqq}:Vsf K [] []:=⟨[],.nil,λ_ _=>qqz⟩
def vCons{K:Qqq}:Vof K u d->Vsf K us ds->Vsf K (u::us) (d::ds)
 |⟨v,a,b⟩,⟨vs,c,e⟩=>⟨v::vs,.cons a c,λm H=>qzm (b m H) (e m H)⟩
def vTup{K:Qqq}{gd:Y4 Y8}(h:K.lookup a=Y ⟨.type "tuple",gd,.seq vs.toArray b,gs⟩)(q:Vsf K vs ds)(n:Nat.ble vs.length sizeLine=Z):Vof K (.ref a) (.tup ds):=by
 obtain⟨vs,c,d⟩:=q;exact⟨.ref _,rfl,λm H=>qqu (.inr ⟨_,_,_,h,rfl,rfl,Nat.le_of_ble_eq_true n,c⟩) (d m H)⟩
def eNil{K:Qqq}:Enf a K [] [] []:=⟨[],[],.nil,.nil,λ_ _=>qqz⟩
def eCons{K:Qqq}:Vof K u d->Enf g K es ks ds->Enf g K (⟨PyData.keyHash g k,.str k t,u⟩::es) (k::ks) (d::ds)
 |⟨v,a,b⟩,⟨us,vs,e,c,f⟩=>⟨_,v::vs,.cons e,.cons a c,λm H=>qzm (b m H) (f m H)⟩
inductive GlK (K:Qqq) (q:Y6×D):Prop
 |mk {v:Y9}(g:Qx5 K mainGlobals q.1=Y (Y v)) (h:Vof K v q.2):GlK K q
inductive GdK (prm:Qt) (K:Qqq) (q:Y6×L Y6×L D):Prop
 |mk {a:Y8}{es:L Qo}{ep:Y1}(g:Qx5 K mainGlobals q.1=Y (Y (.ref a))) (l:K.lookup a=Y { cls:=.type "dict",data:=.dict es.toArray ep }) (h:Enf prm K es q.2.1 q.2.2) (n:(a==Qg)=Y7):GdK prm K q
noncomputable def gloOk(g:Glo):Bool:=(g.ats.all λq=>g.cl.any λz=>z.2==q.1)&&g.ds.all λq=>ndB q.2.1
def glo_mo{K:Qqq}(X:K.In h)(G:h.Ns mainGlobals mg)(hc:gloOk glo=Z)(r:∀q∈glo.ds,GdK prm K q)(p:∀q∈glo.cs,GlK K q)(j:∀q∈glo.cl,ClK K q.1 q.2)(o:∀q∈glo.ats,PySem.W.findIn K (.ref q.1) q.2=Y B)(z:∀x∈bNm,Qx5 K mainGlobals x=Y B):Mo K mg glo prm:=by
 refine aDk hc λc1 c2=>⟨λs C i=>(j _ i).mo X G,λC f i=>⟨?_,o _ i⟩,λx ks ds i=>?_,λx d i=>?_,λx i=>PySem.W.mg_none_of X G (z x i)⟩
 ·obtain⟨y,m,e⟩:=Qxd.mp (Qzx.mp c1 _ i);have e:=eq_of_beq e;subst e;exact(j _ m).cls
 ·cases r _ i with
  |mk g l q n=>
   obtain⟨k,vs,e,c,d⟩:=q.ex;exact⟨_,Qjz X G g,⟨k,vs,_,_,l,e,c,d⟩,qy6 (Qzx.mp c2 _ i),n⟩
 ·cases p _ i with
  |mk g q=>
   obtain⟨v,a,b⟩:=q.ex;exact⟨_,v,Qjz X G g,a,b⟩
def law_mk{l:PySem.W.OpenLaw}{K:Qqq}{st:Stmt}(X:K.In h)(G:h.Ns mainGlobals mg)(d:mg x=Y (.ref f))(e:t[i]?=Y (B,x,x,st,o))(p:argN st=[y])(u:glo.ms=msT 0 t)(hb:∀r∈t,Bd r)(hc:(t.all rwOk&&gloOk glo)=Z)(ok:∀ns:L J,ns.length<=63->∃st',M.callD (fnsT (t.map (·.2.2.1)) glo t) (n+1) i [.lst (ns.map D.int)] []=Y (.bl Z,st'))(hs:∀r∈t,RwK K r)(H:∀q∈glo.ds,GdK w.params K q)(E:∀q∈glo.cs,GlK K q)(C:∀q∈glo.cl,ClK K q.1 q.2)(A:∀q∈glo.ats,PySem.W.findIn K (.ref q.1) q.2=Y B)(z:∀x∈bNm,Qx5 K mainGlobals x=Y B):∃fd:Qr,(∀(s:Qz) (v:Y9),BindsTo s fd ⟨[v],[]⟩ [(y,v)])/\∀base:Heap,K.In base->base.Ns mainGlobals mg->FnOk l.prog w K mg base CX0 (2*(n+1)) f fd [y] (qlv K):=by
 refine aDk hc λc1 c2=>?_;have g:=glo_mo X G c2 H E C A z;have T:=qfp X G u hs hb c1;have j:=Qqo e;have b:=hb _ j;have s:=qcg (aD (Qzx.mp c1 _ j)).1
 cases hs _ j with
 |fn a m c k=>
  cases d.symm.trans (Qjz X G a);have F:=λbase=>(qiy (P:=l.prog) (base:=base) (tab_ok T g _) g (by unfold fnsT; rw[Qqw,e]; rfl) (qwk m c k) s (qkr (qyg 30) 12 _) rfl rfl).imp (law_sp ok);have b:=b;dsimp only[Bd]at b;rw[p]at F b;exact⟨_,λs v=>.of_eq (b _ _ _ _ _ _ [v] rfl),λbase _ _=>F base⟩
end MS
end
open M.D renaming int->O,loc->Y3,tup->Ya,lst->Yd
open M.Yb renaming lst->Y5
open M.E renaming var->Ye
section
namespace K35
open PySem L2 MS
open M (D Fn)
noncomputable abbrev tF(x:Y6)(i:Y1)(l:Orc):Rw:=(B,x,x,top i,l)
noncomputable abbrev tM(C:Y8)(m x:Y6)(i j:Y1)(l:Orc):Rw:=(Y C,m,x,cb (top i) j,l)
noncomputable def tab:L Rw:=[tF "inside" 14 [],
 tF "has_one" 15 [(1,[27015052])],
 tF "can_part" 16 [],
 tF "parted" 17 [],
 tF "in_ground" 18 [],
 tF "counted" 20 [],
 tF "through" 21 [(1,[50011030])],
 tM 191 "__init__" "Claim.__init__" 23 0 [(388,[55008018,56008019,57008017,58008017,59008019,60008018])],
 tM 191 "piece" "Claim.piece" 23 1 [(388,[63042051,63054063,64008020,64023034])],
 tM 191 "twin" "Claim.twin" 23 2 [(388,[68016051,68027037,68039050,69008019,69022032])],
 tM 191 "state" "Claim.state" 23 3 [(388,[73011021,75017026,77011022])],
 tM 273 "__init__" "Claims.__init__" 24 0 [(552,[83008017,84008017,85008016])],
 tM 273 "names" "Claims.names" 24 1 [(552,[88020029])],
 tM 273 "named" "Claims.named" 24 2 [(2,[91011032,93015030]),(552,[91023032,93015024])],
 tM 273 "standing" "Claims.standing" 24 3 [(552,[96033041,96045054]),(2,[96045060]),(388,[96045071])],
 tM 273 "stake" "Claims.stake" 24 4 [(552,[99008017,99059068,100008037]),(2,[99008022]),(1,[99070075])],
 tM 273 "vest" "Claims.vest" 24 5 [(552,[103016025,106012020]),(2,[103016031]),(388,[104011027,104054066,105012024])],
 tM 273 "vest_all" "Claims.vest_all" 24 6 [(553,[109020032]),(552,[110012042])],
 tM 273 "change" "Claims.change" 24 7 [(2,[114011032,116016031]),(552,[114023032,116016025,120019039,123033042]),(388,[117011027,122012022,123012022,123044054,125012023,127012023])],
 tM 273 "part" "Claims.part" 24 8 [(552,[131016025,136008017,138012020,138028036]),(2,[131016034,136008022]),(388,[132024036,135008020,136025056,137011023])],
 tM 273 "twin" "Claims.twin" 24 9 [(2,[143008047,144012022,144025040]),(552,[143020029,144025034,145023032,146008018,147008017,147025033]),(388,[144025047])],
 tF "bounds" 34 [],
 tF "fits" 35 [],
 tF "all_fit" 36 [(1,[168015079]),(2,[168028039])],
 tF "is_cell" 37 [(1,[170040072])],
 tF "good_steps" 38 [(1,[172040081])],
 tF "good_outcrops" 39 [(1,[176015059])],
 tF "sound_vein" 40 [],
 tF "numbers_agree" 41 [],
 tF "sound" 42 [(1,[192011049])],
 tF "climbed" 45 [],
 tF "met_columns" 46 [(1290,[205012028,206012030,209022034]),(2,[208037050])],
 tF "columns_at" 47 [(1290,[212021033]),(1291,[216016029]),(2,[217008017,218051060]),(1,[218021061])],
 tF "ground_of" 49 [(1290,[222011029])],
 tF "outcrop" 50 [(1290,[224011030])],
 tF "outcrops" 51 [],
 tF "covers" 52 [],
 tF "standing_grounds" 54 [(1291,[231058074])],
 tF "ranked" 55 [],
 tF "heirs" 56 [(1,[242012052,242028051,243018041])],
 tF "first_claim" 57 [],
 tF "title" 58 [(1,[247023041])],
 tF "owner" 59 [(1,[249012030]),(1290,[250038056])],
 tF "over" 60 [(1,[252025048])],
 tF "check_district" 66 [],
 tF "check_day" 67 [],
 tM 642 "__init__" "Field.__init__" 68 0 [(1290,[271008019,272008017,273008016,274008018,275008019,276008019,277008016,278008018]),(4,[277019021])],
 tM 642 "enter" "Field.enter" 68 1 [(1290,[282021032,284018026,286008016,287015032])],
 tM 642 "answer" "Field.answer" 68 2 [(1290,[291019040,293019040,295019041,297019039,299019039,300015026,300034042]),(552,[300015049])],
 tM 642 "enter_vein" "Field.enter_vein" 68 3 [(1290,[303008018,303019027,304008019,304029037]),(2,[303008028]),(552,[304008047])],
 tM 642 "enter_join" "Field.enter_join" 68 4 [(2,[310011033,310037060,314011030,316008025]),(1290,[310023033,310050060,314019030,316008019])],
 tM 642 "enter_stake" "Field.enter_stake" 68 5 [(2,[321008048,322028044]),(1290,[321020030,322028038,323008019,323026034]),(552,[323008065])],
 tM 642 "enter_dig" "Field.enter_dig" 68 6 [(4,[328015024,330011027,332008022,333034038]),(1290,[330019027,332008016,333008054,334008065]),(1,[333022039]),(1291,[334022057])],
 tM 642 "enter_pay" "Field.enter_pay" 68 7 [(1290,[338008050])],
 tM 642 "gatekeeper" "Field.gatekeeper" 68 8 [(1,[342016033]),(1290,[343042059])],
 tM 642 "owe" "Field.owe" 68 9 [(1290,[347012022,347031039])],
 tM 642 "pass_to" "Field.pass_to" 68 10 [(1290,[351017025,353008016])],
 tM 642 "size" "Field.size" 68 12 [(1290,[359015026])],
 tM 642 "veins" "Field.veins" 68 14 [(1290,[365020030])],
 tM 642 "vein" "Field.vein" 68 16 [(2,[371011033,373015031]),(1290,[371023033,373015025])],
 tM 642 "joined" "Field.joined" 68 17 [(2,[376011033]),(1290,[376023033,378015026])],
 tM 642 "claim" "Field.claim" 68 18 [(1290,[381016027]),(552,[381016039]),(388,[382016027,382029041,382043053,382055067,382069080])],
 tM 642 "standing" "Field.standing" 68 21 [(1290,[391015026,391036044]),(552,[391015045])],
 tM 642 "entries" "Field.entries" 68 22 [(1290,[394020030])],
 tM 642 "twin" "Field.twin" 68 23 [(1290,[397022033,397038049,397054065,397070079,398008017,398020028,399008019,399027037,400008020,400028039,401008020,401023034,402008017,402025033,403008019,403027037]),(552,[401023041])],
 tF "_law_draw" 70 [],
 tF "_law_same" 71 [(1,[425024108,425025072])],
 tF "_law_size" 72 [(1,[434017101,435017111,435030111])],
 tF "_law_term" 73 [(1,[439011085])],
 tF "_law_rect" 74 [(1,[441013127,441020126,442013131,442020130])],
 tF "_law_steps" 75 [(1,[445017125,445018039])],
 tF "_law_outs" 76 [(1,[451072085])],
 tF "_law_who" 77 [(1,[457054073])],
 tF "_law_pick" 78 [],
 tF "_law_vein" 79 [(1,[463075124])],
 tF "_law_claim_fact" 80 [(1,[471011129])],
 tF "_law_fact" 81 [(1,[474017105,475017116])],
 tF "_law_plan" 82 [(1,[485016029])],
 tF "_law_dig" 83 [(1,[495056073])],
 tF "_law_pay" 84 [(1,[502081093])],
 tF "_law_dug" 85 [(1,[505036093])],
 tF "_law_brought" 86 [(1,[519017055,520017054]),(1290,[523034062,524056084])],
 tF "law" 87 [(1,[529021100,531016018,540056087,545024086,545036086,546015057]),(1290,[534021038,535008036,539020062]),(1291,[546025045])]]
noncomputable def names:L Y6:=tab.map (·.2.2.1)
noncomputable def glo:Glo:=⟨[("COIN",.int 10),("COINS",.tup [.int 1,.int 1000000]),("DAYS",.tup [.int 1,.int 400]),("DEPTHS",.tup [.int 0,.int 12]),("FOLK",.tup [.int 1,.int 40]),("LEFT",.int 0),("LENGTHS",.tup [.int 1,.int 24]),("LINES",.tup [.int 1,.int 23]),("LOW",.int 3),("MOST_COLUMNS",.int 16),("MOVES",.tup [.tup [.int 0,.int 0],.tup [.int 1,.int 0],.tup [.int (-1),.int 0],.tup [.int 0,.int 1],.tup [.int 0,.int (-1)]]),("RIGHT",.int 2),("SIDES",.tup [.int 0,.int 1]),("STEPS",.tup [.int 0,.int 4]),("TERMS",.tup [.int 1,.int 400]),("TOP",.int 1)],[("ASKS",["join","stake","work","sell","part","give","dig","pay"],[.tup [.str "day",.str "day",.str "below"],.tup [.str "folk",.str "x",.str "y",.str "x",.str "y"],.tup [.str "day"],.tup [.str "day",.str "folk"],.tup [.str "day",.str "side",.str "line",.str "folk"],.tup [.str "day"],.tup [.str "folk",.str "x",.str "y",.str "x",.str "y",.str "floor",.str "coins"],.tup [.str "folk",.str "folk",.str "coins"]])],msT 0 tab,[("Claim",191),("Claims",273),("Field",642)],[(191,"days"),(191,"given"),(191,"ground"),(191,"last"),(191,"owner"),(191,"vested"),(273,"book"),(273,"row"),(273,"year"),(642,"day"),(642,"debts"),(642,"dug"),(642,"extent"),(642,"found"),(642,"joints"),(642,"staked"),(642,"year")]⟩
noncomputable def fns:L Fn:=fnsT names glo tab
end K35
end
section
namespace K35
open PySem (Str)
open M
noncomputable abbrev sO(x:String):D:=.str (Str.ofString x)
structure Cl where
 nm:J
 j:Y1
 o:J
 g:J×J×J×J
 ds:L J
 la:J
 v:Y4 J
 gv:Y4 J
noncomputable def oD:Y4 J->D
 |none=>.non
 |some i=>.int i
noncomputable def rD(g:J×J×J×J):D:=.tup [.int g.1,.int g.2.1,.int g.2.2.1,.int g.2.2.2]
noncomputable def Cl.cel(c:Cl)(x:D):Yb:=.obj 191 [("owner",.int c.o),("ground",rD c.g),("days",x),("last",.int c.la),("vested",oD c.v),("given",oD c.gv)]
noncomputable abbrev Cl.cell(c:Cl):Yb:=c.cel (.loc (c.j+8))
noncomputable def Cl.dl(c:Cl):Yb:=.lst Z (c.ds.map .int)
structure Zt where
 s:D
 dg:L (L J×D)
 es:L D
noncomputable def FS(sz:Zt)(T d:J)(fo jo bo:L (D×D))(ro:L D)(rest:Y2):Y2:=
 .obj 642 [("extent",sz.s),("year",.int T),("day",.int d),("found",.loc 1),("joints",.loc 2),("staked",.loc 3),("dug",.loc 6),("debts",.loc 7)]::.dic Z fo::.dic Z jo::.obj 273 [("year",.int T),("book",.loc 4),("row",.loc 5)]::.dic Z bo::.lst Z ro::.tdc Z sz.dg::.lst Z sz.es::rest
def isN(h:o=B):isNon (oD o)=true:=by rw[h]; rfl
def isS(h:o=Y x):isNon (oD o)=false:=by rw[h]; rfl
def nnN(h:o=B):(!isNon (oD o))=false:=by rw[h]; rfl
def nnS(h:o=Y x):(!isNon (oD o))=true:=by rw[h]; rfl
section
variable {sz:Zt}{T d:J}{fo jo bo:L (D×D)}{ro:L D}{rest:Y2}
noncomputable def stW(c:Cl)(day:J):String:=if c.gv.isSome then "given" else if c.la<day then "fallen" else if c.v.isNone then "unvested" else "stands"
def qhp(m){S:Y2}(c)(day)(h:S[p]?=Y (c.cel y)):callD fns (m+1) 10 [Y3 p,O day] S=Y (sO (stW c day),S):=by
 unfold stW
 cases b:c.gv with
 |some x=>
  exact qzz 0 [] 1 (λq=>_/\_/\q) [.r (c.cel y),.b Z] ⟨h,nnS b,rfl⟩
 |none=>
  by_cases a:c.la<day
  ·rw[Z8 a];exact qzz 0 [] 1 (λq=>_/\_/\_/\_/\q) [.r (c.cel y),.b Y7,.r (c.cel y),.b Z] ⟨h,nnN b,h,Z5 a,rfl⟩
  ·rw[Z7 a]
   cases hv:c.v with
   |none=>exact qzz 0 [] 1 (λq=>_/\_/\_/\_/\_/\_/\q) [.r (c.cel y),.b Y7,.r (c.cel y),.b Y7,.r (c.cel y),.b Z] ⟨h,nnN b,h,Z6 a,h,isN hv,rfl⟩
   |some x=>exact qzz 0 [] 1 (λq=>_/\_/\_/\_/\_/\_/\q) [.r (c.cel y),.b Y7,.r (c.cel y),.b Y7,.r (c.cel y),.b Y7] ⟨h,nnN b,h,Z6 a,h,isS hv,rfl⟩
def qqs(m)(c)(day)(h:rest[c.j+1]?=Y c.cell):callD fns (m+1) 10 [Y3 (c.j+9),O day] (FS sz T d fo jo bo ro rest)=Y (sO (stW c day),FS sz T d fo jo bo ro rest):=qhp m c day h
end
noncomputable def cD(p:J×J):D:=.tup [.int p.1,.int p.2]
noncomputable def inB(g:J×J×J×J)(p:J×J):Bool:=decide (g.1<=p.1)&&decide (p.1<=g.2.2.1)&&(decide (g.2.1<=p.2)&&decide (p.2<=g.2.2.2))
def qjt(m)(st)(g)(p):callD fns (m+1) 0 [rD g,cD p] st=Y (.bl (inB g p),st):=by
 unfold inB
 by_cases h1:g.1<=p.1
 ·by_cases h2:p.1<=g.2.2.1
  ·by_cases a:g.2.1<=p.2
   ·by_cases b:p.2<=g.2.2.2
    ·rw[Z5 h1,Z5 h2,Z5 a,Z5 b];exact qzz 0 [] 1 (λq=>_/\_/\_/\_/\q) [.b Z,.b Z,.b Z,.b Z] ⟨Z5 h1,Z5 h2,Z5 a,Z5 b,rfl⟩
    ·rw[Z5 h1,Z5 h2,Z5 a,Z6 b];exact qzz 0 [] 1 (λq=>_/\_/\_/\_/\q) [.b Z,.b Z,.b Z,.b Y7] ⟨Z5 h1,Z5 h2,Z5 a,Z6 b,rfl⟩
   ·rw[Z5 h1,Z5 h2,Z6 a,Bool.false_and];exact qzz 0 [] 1 (λq=>_/\_/\_/\q) [.b Z,.b Z,.b Y7] ⟨Z5 h1,Z5 h2,Z6 a,rfl⟩
  ·rw[Z5 h1,Z6 h2];exact qzz 0 [] 1 (λq=>_/\_/\q) [.b Z,.b Y7] ⟨Z5 h1,Z6 h2,rfl⟩
 ·rw[Z6 h1];exact qzz 0 [] 1 (λq=>_/\q) [.b Y7] ⟨Z6 h1,rfl⟩
theorem asB:∀bs:L Yc,asBools (bs.map .bl)=Y bs
 |[]=>rfl
 |b::r=>by show(asBools (r.map .bl)).map (b::·)=_; rw[asB r]; rfl
def nlB(bs:L Yc):noLocs (bs.map .bl)=true:=qzi λ_ _=>rfl
def qcy(h:τ[i]?=Y (Y q))(a:rowAt st q=Y ds):∃s,src (RL c) τ st (.var i)=Y (s,st)/\(∀i,s.at st i=Y ds[i]?)/\s.size st=ds.length:=by
 have e:=qje c τ st (.var i) (q,st) (by show(match τ[i]? with|some (Y d)=>Y (d,st)|_=>B)=_; rw[h])
 cases q with
 |tup xs=>
  cases a;exact⟨.tup ds,by show((RL c).ev τ st (.var i)).bind _=_; rw[e]; rfl,λi=>rfl,rfl⟩
 |lst xs=>
  have a:=a;exact⟨.lst (.lst xs),by show((RL c).ev τ st (.var i)).bind _=_; rw[e]; rfl,qqp a,qzt a⟩
 |loc l=>
  have a:seqAt st (Y3 l)=Y ds:=a;exact⟨.lst (Y3 l),by show((RL c).ev τ st (.var i)).bind _=_; rw[e]; show(seqAt st (Y3 l)).map _=_; rw[a]; rfl,qqp a,qzt a⟩
 |_=>cases a
def qyv{α:Type}(xs:L α)(f g:α->D)(h:τ[i]?=Y (Y q))(m:rowAt st q=Y (xs.map f))(n:xs.length<lim)(b:inner sr τ=B::a)(o:∀x∈xs,(RL c).ev (Y (f x)::a) st elt=Y (g x,st)):
  stepEv (RL c) τ st (.comp (.var 0) (Ye i) B elt sr)=Y (Y3 st.length,st++[Y5 Z (xs.map g)]):=by
 obtain⟨s,h1,h2,p⟩:=qcy h m;refine qai h1 h2 p b (by simp) (by simpa using n) λk d e hd j=>?_;rw[Qqw]at hd j;obtain⟨x,l,rfl⟩:=Qqd.mp hd;rw[l]at j;cases j;exact o x (Qqo l)
noncomputable def hasB(g:J×J×J×J)(ps:L (J×J)):Bool:=ps.any (inB g)
def qiv(m)(a:rowAt st q=Y (ps.map cD))(b:ps.length<lim):callD fns (m+2) 1 [rD g,q] st=Y (.bl (hasB g ps),st):=by
 have h1:=qyv (c:=callD fns (m+1)) (τ:=[Y (rD g),Y q]) (i:=1) (elt:=.call 0 [Ye 1,Ye 0]) (sr:=[B,Y 0]) ps cD (λp=>.bl (inB g p)) rfl a b rfl λp _=>qzf 0 [0] 1 (λq=>_/\q) [.c (.bl (inB g p),st)] ⟨qjt m st g p,rfl⟩;have e:ps.map (λp=>D.bl (inB g p))=(ps.map (inB g)).map .bl:=by rw[Qq7]; rfl
 rw[e]at h1;have d:bfun st .any [Yd ((ps.map (inB g)).map .bl)]=Y (.bl (hasB g ps),st):=by
  show(asBools _).map _=_;rw[asB];simp[hasB,List.any_map,Function.comp_def]
 exact qzz 0 [] 2 (λq=>_/\_/\_/\q) [.c (Y3 st.length,st++[Y5 Z ((ps.map (inB g)).map .bl)]),.l ((ps.map (inB g)).map .bl),.c (.bl (hasB g ps),st)] ⟨h1,qzc (st:=st) (nlB (ps.map (inB g))),d,rfl⟩
def gl{c:Yb}:(st++[c])[st.length]?=Y c:=by simp
def sl{c':Yb}:(st++[c]).set st.length c'=st++[c']:=by simp
def qez(P:Y1->Sl->Y2->Prop)(h:τ[i]?=Y (Y q))(r:P 0 τ st)(n:∀k a st',P k a st'->rowAt st' q=Y ds)(hs:∀k a st' d,ds[k]?=Y d->P k a st'->∃b f,((setT t d a).bind λm=>(RL c).ex m st' body)=Y (.nx b,f)/\P (k+1) b f):
  ∃a st',stepEx (RL c) τ st (.forr t (.var i) body)=Y (.nx a,st')/\P ds.length a st':=by
 have e:=qje c τ st (.var i) (q,st) (by show(match τ[i]? with|some (Y d)=>Y (d,st)|_=>B)=_; rw[h]);have g:∀s:Src,src (RL c) τ st (.var i)=Y (s,st)->s.size st=ds.length->(∀k a st',P k a st'->s.at st' k=Y ds[k]?)->∃a st',stepEx (RL c) τ st (.forr t (.var i) body)=Y (.nx a,st')/\P ds.length a st':=λs h1 h2 u=>by
  obtain⟨a,st',p,o⟩:=qjz P (λ_ _=>False) r h2 u (λk a st' d hd j=>by
   obtain⟨b,f,p,o⟩:=hs k a st' d hd j
   exact .inl ⟨b,f,.inl p,o⟩)
  refine⟨a,st',?_,o.resolve_right id⟩;show(src (RL c) τ st (.var i)).bind _=_;rw[h1];exact p
 have h1:=n 0 τ st r
 cases q with
 |tup xs=>
  cases h1;exact g (.tup ds) (by show((RL c).ev τ st (.var i)).bind _=_; rw[e]; rfl) rfl λk a st' _=>rfl
 |lst xs=>
  exact g (.lst (.lst xs)) (by show((RL c).ev τ st (.var i)).bind _=_; rw[e]; rfl) (qzt h1) λk a st' j=>qqp (show seqAt st' (.lst xs)=_ from n k a st' j) k
 |loc l=>
  have h1:seqAt st (Y3 l)=Y ds:=h1;exact g (.lst (Y3 l)) (by show((RL c).ev τ st (.var i)).bind _=_; rw[e]; show(seqAt st (Y3 l)).map _=_; rw[h1]; rfl) (qzt h1) λk a st' j=>qqp (show seqAt st' (Y3 l)=_ from n k a st' j) k
 |_=>cases h1
def qw8(h:ks≠[]):idxD (st++[.lst w (ks.map O)]) (Y3 st.length) (O (-1))=Y (O (ks.getLast h)):=by
 have a:=Qxt.mpr h;show(seqAt (st++[.lst w (ks.map O)]) (Y3 st.length)).bind _=_;have:seqAt (st++[.lst w (ks.map O)]) (Y3 st.length)=Y (ks.map O):=by show listAt _ _=_; unfold listAt; rw[gl]
 rw[this];show atI (ks.map D.int) (-1)=_;unfold atI ixN;rw[Z7 (by decide),Z8 (by simp; lia)];simp only[oBs,Qqx];rw[show(-1+(ks.length:J)).toNat=ks.length - 1 by lia,Qqw,List.getLast_eq_getElem,Qqi (by lia)]
 rfl
noncomputable def chS(T:J)(ks:L J)(x:J):L Int:=if h:ks=[] then [x] else if x<=ks.getLast h+T then ks++[x] else ks
def chS_ne(T)(ks)(x):chS T ks x≠[]:=by
 unfold chS
 split
 ·exact List.cons_ne_nil _ _
 ·rename_i h
  split
  ·simp
  ·exact h
theorem qih{T:J}:∀{xs ks},xs≠[]\/ks≠[]->xs.foldl (chS T) ks≠[]
 |[],_,h=>h.resolve_left λz=>z rfl
 |x::r,ks,_=>qih (xs:=r) (.inr (chS_ne T ks x))
def qbc(m){T:J}{xs:L J}(y:xs.length<1000)(v:∀r,rowAt (st++r) q=Y (xs.map O)):callD fns (m+1) 5 [O T,q] st=Y (Y3 st.length,st++[Y5 Z ((xs.foldl (chS T) []).map O)]):=by
 obtain⟨f,st',h1,k,o,ks,rfl,rfl,u,A⟩:=qez (c:=callD fns m) (i:=1) (t:=.var 3) (body:=[.ite (.or (.not (.var 2)) (.cmp .LtE (.var 3) (.bin .Add (.idx (.var 2) (.neg (.lit (O 1)))) (.var 0)))) [.expr (.meth (.var 2) .append [.var 3])] []])
  (λk f st'=>k<=xs.length/\∃o ks,f=[Y (O T),Y q,Y (Y3 st.length),o]/\st'=st++[Y5 Z ((ks:L J).map O)]/\ks=(xs.take k).foldl (chS T) []/\ks.length<=k)
  rfl ⟨Qq8 _,B,[],rfl,rfl,rfl,Qqj _⟩ (λk f st' h=>by obtain⟨_,o,ks,_,rfl,_⟩:=h; exact v _) (λk f st' d hd h=>by
   obtain⟨z,o,ks,rfl,rfl,h1,h2⟩:=h;rw[Qqw]at hd;obtain⟨x,n,rfl⟩:=Qqd.mp hd;have j:=(Qqk.mp n).1;have tk:(xs.take (k+1)).foldl (chS T) []=chS T ks x:=by rw[Qxc,n,Qju,<- h1]; rfl
   have g:(ks.map D.int).length<lim:=by simp; unfold lim; lia
   have s:(st++[Yb.lst Z (ks.map O)]).set st.length (Y5 Z (ks.map O++[O x]))=st++[Y5 Z ((ks++[x]).map O)]:=by rw[sl]; simp
   have l:=gl (st:=st) (c:=Y5 Z (ks.map O))
   by_cases e:ks=[]
   ·subst e;exact⟨[Y (O T),Y q,Y (Y3 st.length),Y (O x)],(st++[Yb.lst Z []]).set st.length (Y5 Z [O x]),qze 0 [] 0 (λq=>_/\_/\_/\_/\q) [.r (Y5 Z []),.k,.r (Y5 Z []),.r (Y5 Z []),.b Z] ⟨l,l,l,Z5 g,rfl⟩,j,Y (O x),[x],rfl,sl,tk.symm,by simp⟩
   ·have p:(!(ks.map D.int).isEmpty)=true:=by cases ks with|nil=>exact absurd rfl e|cons a b=>rfl
    by_cases hc:x<=ks.getLast e+T
    ·exact⟨[Y (O T),Y q,Y (Y3 st.length),Y (O x)],(st++[Yb.lst Z (ks.map O)]).set st.length (Y5 Z (ks.map O++[O x])),qze 0 [] 0 (λq=>_/\_/\_/\_/\_/\_/\_/\q) [.r (Y5 Z (ks.map O)),.b Z,.i (O (ks.getLast e)),.b Z,.r (Y5 Z (ks.map O)),.r (Y5 Z (ks.map O)),.b Z] ⟨l,p,qw8 (st:=st) (w:=Z) e,Z5 hc,l,l,Z5 g,rfl⟩,j,Y (O x),ks++[x],rfl,s,by rw[tk]; unfold chS; rw[dif_neg e,Z8 hc],by simp; lia⟩
    ·exact⟨[Y (O T),Y q,Y (Y3 st.length),Y (O x)],st++[Y5 Z (ks.map O)],qze 0 [] 0 (λq=>_/\_/\_/\_/\q) [.r (Y5 Z (ks.map O)),.b Z,.i (O (ks.getLast e)),.b Y7] ⟨l,p,qw8 (st:=st) (w:=Z) e,Z6 hc,rfl⟩,j,Y (O x),ks,rfl,rfl,by rw[tk]; unfold chS; rw[dif_neg e,Z7 hc],by lia⟩)
 rw[Qqx,Qzc]at u;rw[<- u];exact qzz 0 [] 1 (λq=>_/\q) [.s (.nx [Y (O T),Y q,Y (Y3 st.length),o],st++[Y5 Z (ks.map O)])] ⟨h1,rfl⟩
def nlI(ks:L J):noLocs (ks.map O)=true:=qzi λ_ _=>rfl
noncomputable def thr(T:J)(xs:L J):Int:=(xs.foldl (chS T) []).getLast?.getD 0+T
def qkv(m){T:J}(a:xs≠[])(c:xs.length<1000)(b:∀r,rowAt (st++r) q=Y (xs.map O)):callD fns (m+2) 6 [O T,q] st=Y (O (thr T xs),st):=by
 have h2:=qbc m (T:=T) c b;have h1:=qih (T:=T) (xs:=xs) (ks:=[]) (.inl a);unfold thr;generalize xs.foldl (chS T) []=ks at h1 h2;rw[List.getLast?_eq_some_getLast h1];have e:idxD st (.lst (ks.map O)) (O (-1))=Y (O (ks.getLast h1)):=by
  have:=qw8 (st:=[]) (w:=Z) h1;exact this
 exact qzz 0 [5] 2 (λq=>_/\_/\_/\q) [.c (Y3 st.length,st++[Y5 Z (ks.map O)]),.l (ks.map O),.i (O (ks.getLast h1))] ⟨h2,qzc (st:=st) (nlI ks),e,rfl⟩
noncomputable def ik(st:Y2)(C:Y1)(F:L (Y6×D)):Y1->Y2
 |0=>st++[.obj C (F.take 0)]
 |k+1=>(ik st C F k).set st.length (.obj C (F.take (k+1)))
theorem qnj:∀k,ik st C F k=st++[.obj C (F.take k)]
 |0=>rfl
 |k+1=>by show(ik st C F k).set _ _=_; rw[qnj k,sl]
def ik_at(k):(ik st C F k)[st.length]?=Y (.obj C (F.take k)):=by rw[qnj k,gl]
noncomputable def clF(o:J)(g:J×J×J×J)(dl:D)(la:J):L (Y6×D):=[("owner",.int o),("ground",rD g),("days",dl),("last",.int la),("vested",.non),("given",.non)]
def cinit(m)(st)(o la)(g)(dl):callD fns (m+1) 7 [Y3 st.length,O o,rD g,dl,O la] (st++[.obj 191 []])=Y (.non,st++[.obj 191 (clF o g dl la)]):=by
 have h:=λk=>ik_at (st:=st) (C:=191) (F:=clF o g dl la) k;exact qz1 0 [] 1 (.non,ik st 191 (clF o g dl la) 6) (λq=>_/\_/\_/\_/\_/\_/\q) [.r (.obj 191 ((clF o g dl la).take 0)),.r (.obj 191 ((clF o g dl la).take 1)),.r (.obj 191 ((clF o g dl la).take 2)),.r (.obj 191 ((clF o g dl la).take 3)),.r (.obj 191 ((clF o g dl la).take 4)),.r (.obj 191 ((clF o g dl la).take 5))] ⟨h 0,h 1,h 2,h 3,h 4,h 5,by rw[qnj]; rfl⟩
structure Inv (Bq:Y1) (rest:Y2) (cs:L Cl):Prop where
 lo:∀c∈cs,Bq<=c.j
 at_:∀c∈cs,rest[c.j]?=Y c.dl/\rest[c.j+1]?=Y c.cell
 pw:cs.Pairwise λa b=>a.j+1<b.j
 ne:∀c∈cs,c.ds≠[]/\c.ds.length<900
 nd:(cs.map (·.nm)).Nodup
noncomputable def qzb(cs:L Cl):L (D×D):=cs.map λc=>(.int c.nm,.loc (c.j+9))
def Inv.inj{Bq:Y1}(h:Inv Bq rest cs)(g:a∈cs)(hb:b∈cs)(e:a.nm=b.nm):a=b:=by
 have:=h.nd;clear h
 induction cs with
 |nil=>cases g
 |cons c r i=>
  rw[Qqh,Qzj]at this;rcases Qqa.mp g with rfl|f<;>rcases Qqa.mp hb with rfl|d
  ·rfl
  ·exact absurd (Qqv.mpr ⟨b,d,e.symm⟩) this.1
  ·exact absurd (Qqv.mpr ⟨a,f,e⟩) this.1
  ·exact i f d this.2
def qwa(a)(r)(n):dget (qzb (a::r)) (O n)=bif a.nm==n then Y (Y3 (a.j+9)) else dget (qzb r) (O n):=by
 unfold dget qzb;rw[Qqh,Qzy];show Option.map _ (match (a.nm==n) with|true=>_|false=>_)=_;cases a.nm==n<;>rfl
def qnh(h:∀c∈cs,c.nm≠n):dget (qzb cs) (O n)=none:=by
 induction cs with
 |nil=>rfl
 |cons c r a=>
  rw[qwa,beq_false_of_ne (h c (.head _))];exact a λc hc=>h c (.tail _ hc)
def qhq(h:c∈cs)(b:(cs.map (·.nm)).Nodup):dget (qzb cs) (O c.nm)=Y (Y3 (c.j+9)):=by
 induction cs with
 |nil=>cases h
 |cons a r d=>
  rw[qwa];rw[Qqh,Qzj]at b;rcases Qqa.mp h with rfl|h'
  ·rw[beq_self_eq_true]; rfl
  ·rw[beq_false_of_ne λe=>b.1 (Qqv.mpr ⟨c,h',e.symm⟩)];exact d h' b.2
def Inv.get{Bq:Y1}(h:Inv Bq rest cs)(hc:c∈cs):dget (qzb cs) (O c.nm)=Y (Y3 (c.j+9)):=qhq hc h.nd
def Inv.apart{Bq:Y1}(h:Inv Bq rest cs)(g:a∈cs)(hb:b∈cs)(e:a.nm≠b.nm):a.j+1<b.j\/b.j+1<a.j:=by
 have:=h.pw;clear h
 induction cs with
 |nil=>cases g
 |cons c r i=>
  rw[Qxg]at this;rcases Qqa.mp g with rfl|f<;>rcases Qqa.mp hb with rfl|d
  ·exact absurd rfl e
  ·exact .inl (this.1 b d)
  ·exact .inr (this.1 a f)
  ·exact i f d this.2
noncomputable def upd(cs:L Cl)(c':Cl):L Cl:=cs.map λx=>if x.nm=c'.nm then c' else x
def qx7(hc:c∈cs)(a:(cs.map (·.nm)).Nodup)(e:c'.nm=c.nm)(j:c'.j=c.j):qzb (upd cs c')=qzb cs:=by
 unfold qzb upd;rw[Qq7];refine Qz6 λx f=>?_;show(D.int (if x.nm=c'.nm then c' else x).nm,D.loc ((if x.nm=c'.nm then c' else x).j+9))=_
 by_cases h:x.nm=c'.nm
 ·have g:x=c:=by
   have:∀{l:L Cl},(l.map (·.nm)).Nodup->x∈l->c∈l->x.nm=c.nm->x=c:=λ{l} a f hc e=>by
    induction l with
    |nil=>cases f
    |cons y r i=>
     rw[Qqh,Qzj]at a;rcases Qqa.mp f with rfl|b<;>rcases Qqa.mp hc with rfl|d
     ·rfl
     ·exact absurd (Qqv.mpr ⟨c,d,e.symm⟩) a.1
     ·exact absurd (Qqv.mpr ⟨x,b,e⟩) a.1
     ·exact i a.2 b d
   exact this a f hc (h.trans e)
  rw[Z8 h,e,j,g]
 ·rw[Z7 h]
def qye:(upd cs c').map (·.nm)=cs.map (·.nm):=by
 unfold upd;rw[Qq7];refine Qz6 λx _=>?_;show(if x.nm=c'.nm then c' else x).nm=x.nm
 by_cases h:x.nm=c'.nm
 ·rw[Z8 h,h]
 ·rw[Z7 h]
def Inv.put{Bq:Y1}(h:Inv Bq rest cs)(hc:c∈cs)(e:c'.nm=c.nm)(g:c'.j=c.j)(hd:c'.ds≠[]/\c'.ds.length<900):Inv Bq ((rest.set c.j c'.dl).set (c.j+1) c'.cell) (upd cs c'):=by
 have lt:=(Qqk.mp (h.at_ c hc).2).1;refine⟨λx f=>?_,λx f=>?_,?_,λx f=>?_,by rw[qye]; exact h.nd⟩
 ·obtain⟨y,d,rfl⟩:=Qqv.mp f
  by_cases hn:y.nm=c'.nm
  ·rw[Z8 hn,g]; exact h.lo c hc
  ·rw[Z7 hn]; exact h.lo y d
 ·obtain⟨y,d,rfl⟩:=Qqv.mp f
  by_cases hn:y.nm=c'.nm
  ·rw[Z8 hn,g];constructor
   ·rw[Qqt (by lia),Qzz (by lia)]
   ·rw[Qzz (by rw[Qzt]; lia)]
  ·rw[Z7 hn];have:=h.at_ y d;rcases h.apart d hc (λz=>hn (z.trans e.symm)) with z|z
   ·exact⟨by rw[Qqt (by lia),Qqt (by lia)]; exact this.1,by rw[Qqt (by lia),Qqt (by lia)]; exact this.2⟩
   ·exact⟨by rw[Qqt (by lia),Qqt (by lia)]; exact this.1,by rw[Qqt (by lia),Qqt (by lia)]; exact this.2⟩
 ·unfold upd;rw[List.pairwise_map];have i:∀y∈cs,(if y.nm=c'.nm then c' else y).j=y.j:=λy d=>by
   by_cases hn:y.nm=c'.nm
   ·rw[Z8 hn,g,h.inj d hc (hn.trans e)]
   ·rw[Z7 hn]
  refine List.Pairwise.imp_of_mem (λ{a b} j hb z=>?_) h.pw;rw[i a j,i b hb];exact z
 ·obtain⟨y,d,rfl⟩:=Qqv.mp f
  by_cases hn:y.nm=c'.nm
  ·rw[Z8 hn]; exact hd
  ·rw[Z7 hn]; exact h.ne y d
theorem Inv.cell{Bq:Y1}(h:Inv Bq rest cs)(hc:c∈cs)(e:c'.nm=c.nm)(a:c'.j=c.j)(hd:c'.ds=c.ds):Inv Bq (rest.set (c.j+1) c'.cell) (upd cs c'):=by
 have:=h.put hc e a (hd▸h.ne c hc);have lt:=(Qqk.mp (h.at_ c hc).2).1;have z:rest.set c.j c'.dl=rest:=by
  apply Qjt;intro i
  by_cases hi:c.j=i
  ·subst hi;rw[Qzz (by lia),(h.at_ c hc).1];unfold Cl.dl;rw[hd]
  ·rw[Qqt hi]
 rwa [z]at this
def Inv.more{Bq:Y1}(h:Inv Bq rest cs)(r):Inv Bq (rest++r) cs:=
 ⟨h.lo,λc hc=>⟨by rw[Qq6 (Qqk.mp (h.at_ c hc).1).1]; exact(h.at_ c hc).1,by rw[Qq6 (Qqk.mp (h.at_ c hc).2).1]; exact(h.at_ c hc).2⟩,h.pw,h.ne,h.nd⟩
def Inv.add{Bq:Y1}(h:Inv Bq rest cs)(c)(g:c.j=rest.length)(f:∀x∈cs,x.nm≠c.nm)(hd:c.ds≠[]/\c.ds.length<900)(i:Bq<=rest.length):Inv Bq (rest++[c.dl,c.cell]) (cs++[c]):=by
 have m:=h.more [c.dl,c.cell];refine⟨λx d=>?_,λx d=>?_,?_,λx d=>?_,?_⟩
 ·rcases Qql.mp d with d|d
  ·exact h.lo x d
  ·cases Qqy.mp d; lia
 ·rcases Qql.mp d with d|d
  ·exact m.at_ x d
  ·cases Qqy.mp d;rw[g];constructor<;>simp
 ·rw[Qje];refine⟨h.pw,List.pairwise_singleton ..,λa e b hb=>?_⟩;cases Qqy.mp hb;have:=(Qqk.mp (h.at_ a e).2).1
  lia
 ·rcases Qql.mp d with d|d
  ·exact h.ne x d
  ·cases Qqy.mp d; exact hd
 ·rw[Qqm,Qxb];refine⟨h.nd,by simp,λa e b hb=>?_⟩;obtain⟨x,d,rfl⟩:=Qqv.mp e;simp only[Qqh,Qxy,Qqy]at hb;subst hb;exact f x d
def qaf(d:∀x∈cs,x.nm≠c.nm):dput (qzb cs) (O c.nm) (Y3 (c.j+9))=qzb (cs++[c]):=by
 unfold dput;have:(qzb cs).any (λp=>eqT p.1 (O c.nm))=false:=by
  rw[Qjo];intro p b;obtain⟨x,a,rfl⟩:=Qqv.mp b;show ¬ (x.nm==c.nm)=Z;simpa using d x a
 rw[this];simp[qzb]
def qqr{Bq:Y1}{rest:Y2}(h:Bq<=i):(rest.set i c).take Bq=rest.take Bq:=by
 apply Qjt;intro k;rw[Qx3,Qx3]
 by_cases a:k<Bq
 ·rw[Z8 a,Z8 a,Qqt (by lia)]
 ·rw[Z7 a,Z7 a]
def qbs{R:L Cl}(e:c'.nm=c.nm)(h:((A++c::R).map (·.nm)).Nodup):upd (A++c::R) c'=A++c'::R:=by
 rw[Qqm,Qqh,Qxb,Qzj]at h;have a:∀x∈A,x.nm≠c'.nm:=λx d=>by
  rw[e];exact h.2.2 _ (Qqv.mpr ⟨x,d,rfl⟩) _ (Qq2 ..)
 have b:∀x∈R,x.nm≠c'.nm:=λx d z=>h.2.1.1 (Qqv.mpr ⟨x,d,by rw[z,e]⟩);unfold upd;rw[Qqm,Qqh,Z8 e.symm];have g:A.map (λx=>if x.nm=c'.nm then c' else x)=A:=by
  conv=>rhs; rw[<- Qji A]
  exact Qz6 λx d=>Z7 (a x d)
 have f:R.map (λx=>if x.nm=c'.nm then c' else x)=R:=by
  conv=>rhs; rw[<- Qji R]
  exact Qz6 λx d=>Z7 (b x d)
 rw[g,f]
noncomputable abbrev rowD(ro:L J):L D:=ro.map .int
section
variable {sz:Zt}{T d:J}{fo jo:L (D×D)}{ro:L J}{rest:Y2}{cs:L Cl}{Bq:Y1}
noncomputable abbrev FC(sz:Zt)(T d:J)(fo jo:L (D×D))(cs:L Cl)(ro:L J)(rest:Y2):Y2:=FS sz T d fo jo (qzb cs) (rowD ro) rest
def qxk(c)(day):(stW c day = "unvested"/\c.v=B/\c.gv=B/\day<=c.la)\/(stW c day = "stands"/\c.v≠B/\c.gv=B/\day<=c.la)\/(stW c day = "given"/\c.gv≠B)\/(stW c day = "fallen"/\c.la<day/\c.gv=B):=by
 unfold stW
 cases b:c.gv with
 |some x=>exact .inr (.inr (.inl ⟨rfl,by simp⟩))
 |none=>
  by_cases a:c.la<day
  ·exact .inr (.inr (.inr ⟨by simp[a],a,rfl⟩))
  ·cases hv:c.v with
   |none=>exact .inl ⟨by simp[a],rfl,rfl,by lia⟩
   |some x=>exact .inr (.inl ⟨by simp[a],by simp,rfl,by lia⟩)
noncomputable def hit(day:J)(ps:L (J×J))(c:Cl):Bool:=decide (stW c day = "unvested")&&hasB c.g ps
noncomputable def vst(day:J)(ps:L (J×J))(c:Cl):Cl:=if hit day ps c then { c with v:=Y day } else c
def qbr(m)(I:Inv Bq rest cs)(hc:c∈cs)(day)(i:rowAt (FC sz T d fo jo cs ro rest) q=Y (ps.map cD))(j:ps.length<lim)(hr:ro.length<1000):
  callD fns (m+3) 16 [Y3 3,O c.nm,O day,q] (FC sz T d fo jo cs ro rest)=Y (.non,if hit day ps c then FC sz T d fo jo cs (ro++[c.nm]) (rest.set (c.j+1) (vst day ps c).cell) else FC sz T d fo jo cs ro rest):=by
 have hs:=qqs (sz:=sz) (T:=T) (d:=d) (fo:=fo) (jo:=jo) (bo:=qzb cs) (ro:=rowD ro) (m+1) c day (I.at_ c hc).2;have b:=I.get hc;have f:=qiv m (g:=c.g) i j;have a:=(I.at_ c hc).2;have no:∀w,stW c day=w->(w = "stands"\/w = "given"\/w = "fallen")->hit day ps c=false:=λw e h=>by
  unfold hit;rw[e];rcases h with rfl|rfl|rfl<;>rfl
 rcases qxk c day with⟨e,h1,h2,k⟩|⟨e,_⟩|⟨e,_⟩|⟨e,_⟩
 ·rw[e]at hs;have hi:hit day ps c=hasB c.g ps:=by unfold hit; rw[e]; rfl
  cases hb:hasB c.g ps with
  |true=>
   rw[hb]at hi f;have hv:vst day ps c={ c with v:=Y day }:=by unfold vst; rw[hi]; rfl
   rw[hi,Z8 rfl,hv];have el:rowD (ro++[c.nm])=rowD ro++[O c.nm]:=by simp
   unfold FC;rw[el];exact qzz 8 [10,1] 3 (λq=>_/\_/\_/\_/\_/\_/\_/\q) [.q (Y (Y3 (c.j+9))),.r c.cell,.c (sO "unvested",FC sz T d fo jo cs ro rest),.r c.cell,.c (.bl Z,FC sz T d fo jo cs ro rest),.r c.cell,.b Z] ⟨b,a,hs,a,f,a,Z5 (show(rowD ro).length<lim by simp; unfold lim; lia),rfl⟩
  |false=>
   rw[hb]at hi f;rw[hi,Z7 (by simp)];exact qzz 8 [10,1] 3 (λq=>_/\_/\_/\_/\_/\q) [.q (Y (Y3 (c.j+9))),.r c.cell,.c (sO "unvested",FC sz T d fo jo cs ro rest),.r c.cell,.c (.bl Y7,FC sz T d fo jo cs ro rest)] ⟨b,a,hs,a,f,rfl⟩
 ·rw[no _ e (.inl rfl),Z7 (by simp)];rw[e]at hs;exact qzz 8 [10,1] 3 (λq=>_/\_/\_/\q) [.q (Y (Y3 (c.j+9))),.r c.cell,.c (sO "stands",FC sz T d fo jo cs ro rest)] ⟨b,a,hs,rfl⟩
 ·rw[no _ e (.inr (.inl rfl)),Z7 (by simp)];rw[e]at hs;exact qzz 8 [10,1] 3 (λq=>_/\_/\_/\q) [.q (Y (Y3 (c.j+9))),.r c.cell,.c (sO "given",FC sz T d fo jo cs ro rest)] ⟨b,a,hs,rfl⟩
 ·rw[no _ e (.inr (.inr rfl)),Z7 (by simp)];rw[e]at hs;exact qzz 8 [10,1] 3 (λq=>_/\_/\_/\q) [.q (Y (Y3 (c.j+9))),.r c.cell,.c (sO "fallen",FC sz T d fo jo cs ro rest)] ⟨b,a,hs,rfl⟩
def qxp{ds:L D}(P:Y1->Sl->Y2->Prop)(m:src (RL c) τ st it=Y (s,st))(l:s.size st=ds.length)(j:∀k a st',P k a st'->s.at st' k=Y ds[k]?)(n:P 0 τ st)(hs:∀k a st' d,ds[k]?=Y d->P k a st'->∃b e,((setT t d a).bind λf=>(RL c).ex f st' body)=Y (.nx b,e)/\P (k+1) b e):
  ∃a st',stepEx (RL c) τ st (.forr t it body)=Y (.nx a,st')/\P ds.length a st':=by
 obtain⟨a,st',h,g⟩:=qjz P (λ_ _=>False) n l j (λk a st' d hd i=>by
  obtain⟨b,e,h,g⟩:=hs k a st' d hd i
  exact .inl ⟨b,e,.inl h,g⟩)
 refine⟨a,st',?_,g.resolve_right id⟩;show(src (RL c) τ st it).bind _=_;rw[m];exact h
def qqq(day)(ps)(c):(vst day ps c).nm=c.nm/\(vst day ps c).j=c.j/\(vst day ps c).ds=c.ds:=by
 unfold vst;cases hit day ps c<;>exact⟨rfl,rfl,rfl⟩
noncomputable def rvF(day:J)(ps:L (J×J))(r:Y2)(c:Cl):Y2:=if hit day ps c then r.set (c.j+1) (vst day ps c).cell else r
def qim(m)(I:Inv Bq rest cs)(day)(ps)(z:ps.length<lim)(hr:ro.length+cs.length<1000):
  ∃a,(∀sz:Zt,callD fns (m+4) 17 [Y3 3,O day,.tup (ps.map cD)] (FC sz T d fo jo cs ro rest)=Y (.non,FC sz T d fo jo (cs.map (vst day ps)) (ro++(cs.filter (hit day ps)).map (·.nm)) a))/\Inv Bq a (cs.map (vst day ps))/\a.take Bq=rest.take Bq/\a.length=rest.length:=by
 have f:∀sz:Zt,callD fns (m+4) 17 [Y3 3,O day,.tup (ps.map cD)] (FC sz T d fo jo cs ro rest)=Y (.non,FC sz T d fo jo (cs.map (vst day ps)) (ro++(cs.filter (hit day ps)).map (·.nm)) (cs.foldl (rvF day ps) rest))/\Inv Bq (cs.foldl (rvF day ps) rest) (cs.map (vst day ps))/\(cs.foldl (rvF day ps) rest).take Bq=rest.take Bq/\(cs.foldl (rvF day ps) rest).length=rest.length:=λsz=>by
  have bk:∀A R:L Cl,qzb (A.map (vst day ps)++R)=qzb (A++R):=λA R=>by
   unfold qzb;rw[Qqm,Qqm,Qq7]
   congr 1
   exact Qz6 λc _=>by
    show(D.int (vst day ps c).nm,D.loc ((vst day ps c).j+9))=_;rw[(qqq day ps c).1,(qqq day ps c).2.1]
  have keys:keysOf (qzb cs)=cs.map λc=>D.int c.nm:=by unfold keysOf qzb; rw[Qq7]; rfl
  have s:(RL (callD fns (m+3))).ev [Y (Y3 3),Y (O day),Y (.tup (ps.map cD)),B] (FC sz T d fo jo cs ro rest) (.gc (.mcall 273 12 "names" (.var 0) []))=Y (.lst (cs.map λc=>D.int c.nm),FC sz T d fo jo cs ro rest):=by
   have g:=qzc (st:=FC sz T d fo jo cs ro rest) (ds:=keysOf (qzb cs)) (by rw[keys]; exact qzi λ_ _=>rfl);rw[<- keys];exact qzf 8 [] 3 (λq=>_/\q) [.l (keysOf (qzb cs))] ⟨g,rfl⟩
  obtain⟨b,st',h1,o,r',h2,w,j,n,C,l⟩:=qxp (it:=.gc (.mcall 273 12 "names" (.var 0) [])) (ds:=cs.map λc=>D.int c.nm) (t:=.var 3) (body:=[.expr (.mcall 273 16 "vest" (.var 0) [.var 3,.var 1,.var 2])])
   (λk b st'=>∃o r',b=[Y (Y3 3),Y (O day),Y (.tup (ps.map cD)),o]/\st'=FC sz T d fo jo ((cs.take k).map (vst day ps)++cs.drop k) (ro++((cs.take k).filter (hit day ps)).map (·.nm)) r'/\Inv Bq r' ((cs.take k).map (vst day ps)++cs.drop k)/\r'.take Bq=rest.take Bq/\r'.length=rest.length/\r'=(cs.take k).foldl (rvF day ps) rest)
   (by show((RL (callD fns (m+3))).ev _ _ _).bind _=_; rw[s]; rfl) (by simp[Src.size,seqAt]) (λk b st' h=>rfl) ⟨B,rest,rfl,by simp,by simpa using I,rfl,rfl,rfl⟩ (λk b st' x u h=>by
    obtain⟨o,r',rfl,rfl,Jq,j,n,l⟩:=h;rw[Qqw]at u;obtain⟨c,hc,rfl⟩:=Qqd.mp u;have v:=(Qqk.mp hc).1;have i:=(Qqk.mp hc).2;have dr:cs.drop k=c::cs.drop (k+1):=by rw[Qx1 v,i]
    have tk:cs.take (k+1)=cs.take k++[c]:=by rw[Qzn v,i]
    rw[dr]at Jq ⊢;have r:c∈(cs.take k).map (vst day ps)++c::cs.drop (k+1):=by simp
    have p:(ro++((cs.take k).filter (hit day ps)).map (·.nm)).length<1000:=by
     have:=Qxm (hit day ps) (cs.take k);rw[Qqe,Qqx];rw[Qzk]at this
     lia
    have hv:=qbr (sz:=sz) (T:=T) (d:=d) (fo:=fo) (jo:=jo) m Jq r day (q:=.tup (ps.map cD)) rfl z p;generalize hS:(if hit day ps c=Z then _ else _:Y2)=y at hv;refine⟨[Y (Y3 3),Y (O day),Y (.tup (ps.map cD)),Y (O c.nm)],y,qze 8 [16] 3 (λq=>_/\q) [.c (.non,y)] ⟨hv,rfl⟩,Y (O c.nm),if hit day ps c then r'.set (c.j+1) (vst day ps c).cell else r',rfl,?_,?_,?_,?_,by rw[tk,Qju,<- l]; rfl⟩
    ·rw[<- hS]
     cases e:hit day ps c with
     |true=>
      have hb:qzb ((cs.take (k+1)).map (vst day ps)++cs.drop (k+1))=qzb ((cs.take k).map (vst day ps)++c::cs.drop (k+1)):=by rw[bk,bk,Qjw,<- dr,Qjw]
      rw[Z8 rfl,Z8 rfl];unfold FC;rw[hb,tk,Qx2,Qqm];simp[e]
     |false=>
      rw[Z7 (by simp),Z7 (by simp),tk,Qqm,Qx2,Qqm];have:vst day ps c=c:=by unfold vst; rw[e]; rfl
      simp[e,this]
    ·rw[tk,Qqm,Qzq];show Inv Bq _ (List.map (vst day ps) (cs.take k)++vst day ps c::cs.drop (k+1))
     cases e:hit day ps c with
     |true=>
      have:=Jq.cell r (qqq day ps c).1 (qqq day ps c).2.1 (qqq day ps c).2.2;rwa [qbs (qqq day ps c).1 Jq.nd]at this
     |false=>
      have:vst day ps c=c:=by unfold vst; rw[e]; rfl
      rw[this];exact Jq
    ·cases e:hit day ps c with
     |true=>
      rw[Z8 rfl,qqr (by have:=Jq.lo c r; lia)];exact j
     |false=>exact j
    ·cases e:hit day ps c with
     |true=>rw[Z8 rfl,Qzt]; exact n
     |false=>exact n)
  simp only[Qqx,Qzc,List.drop_length,Qq5]at w j l;subst h2 w;rw[<- l];exact⟨qzz 8 [] 4 (λq=>_/\q) [.s (.nx [Y (Y3 3),Y (O day),Y (.tup (ps.map cD)),o],FC sz T d fo jo (cs.map (vst day ps)) (ro++(cs.filter (hit day ps)).map (·.nm)) r')] ⟨h1,rfl⟩,j,n,C⟩
 exact⟨_,λsz=>(f sz).1,(f ⟨.non,[],[]⟩).2⟩
end
section
variable {sz:Zt}{T d:J}{fo jo:L (D×D)}{ro:L J}{rest:Y2}{cs:L Cl}{Bq:Y1}
theorem set2{b':Yb}:∀{rest},(rest++[a,b]).set (rest.length+1) b'=rest++[a,b']
 |[]=>rfl
 |x::r=>congrArg (x::·) (set2)
def bk1(e:c'.nm=c.nm)(a:c'.j=c.j):qzb (cs++[c'])=qzb (cs++[c]):=by simp[qzb,e,a]
def qia(bo)(r)(s):(FS sz T d fo jo bo r s).length=s.length+8:=by simp[FS]
def qf0(m)(I:Inv Bq rest cs)(s:Bq<=rest.length)(dy o)(g)(k:∀bo r,rowAt (FS sz T d fo jo bo (rowD ro) (rest++r)) q=Y (ps.map cD))(l:ps.length<lim)(hr:ro.length+cs.length<900)(f:∀x∈cs,x.nm≠dy)(t:thr T [dy]=a):
  callD fns (m+4) 15 [Y3 3,O dy,O o,rD g,q] (FC sz T d fo jo cs ro rest)=Y (.non,FC sz T d fo jo (cs++[vst dy ps ⟨dy,rest.length,o,g,[dy],a,B,B⟩]) (ro++if hit dy ps ⟨dy,rest.length,o,g,[dy],a,B,B⟩ then [dy] else []) (rest++[Y5 Z [O dy],(vst dy ps ⟨dy,rest.length,o,g,[dy],a,B,B⟩).cell]))/\
   Inv Bq (rest++[Y5 Z [O dy],(vst dy ps ⟨dy,rest.length,o,g,[dy],a,B,B⟩).cell]) (cs++[vst dy ps ⟨dy,rest.length,o,g,[dy],a,B,B⟩]):=by
 have i:=qkv (m+1) (st:=FC sz T d fo jo cs ro (rest++[Y5 Z [O dy]])) (T:=T) (q:=Yd [O dy]) (xs:=[dy]) (by simp) (by simp) (λr=>rfl);rw[t]at i;generalize hc:(⟨dy,rest.length,o,g,[dy],a,B,B⟩:Cl)=c;have c1:c.nm=dy:=by rw[<- hc]
 have c2:c.j=rest.length:=by rw[<- hc]
 have c3:c.dl=Y5 Z [O dy]:=by rw[<- hc]; rfl
 have c4:c.cell=.obj 191 (clF o g (Y3 (rest.length+8)) a):=by rw[<- hc]; rfl
 have Jq:=I.add c c2 (by rw[c1]; exact f) (by rw[<- hc]; simp) s;have V:=qqq dy ps c;have b:=cinit (m+2) (FC sz T d fo jo cs ro (rest++[Y5 Z [O dy]])) o a g (Y3 (rest.length+8));have hv:=qbr m Jq (c:=c) (by simp) dy (k _ _) l (by lia);have h:FS sz T d fo jo (dput (qzb cs) (O dy) (Y3 (FC sz T d fo jo cs ro (rest++[Y5 Z [O dy]])).length)) (rowD ro) (rest++[Y5 Z [O dy]]++[.obj 191 (clF o g (Y3 (rest.length+8)) a)])=FC sz T d fo jo (cs++[c]) ro (rest++[c.dl,c.cell]):=by
  have:(FC sz T d fo jo cs ro (rest++[Y5 Z [O dy]])).length=c.j+9:=by rw[qia,c2]; simp
  rw[this,<- c1,qaf (by rw[c1]; exact f),c1,<- c3,<- c4];simp
 rw[c1,<- h]at hv;have p:=qzc (st:=FC sz T d fo jo cs ro (rest++[Y5 Z [O dy]])) (ds:=[O dy]) rfl;generalize hS:(if hit dy ps c=Z then _ else _:Y2)=j at hv;have e:decide ((qzb cs).length<lim)=true:=Z5 (by unfold qzb lim; rw[Qqx]; lia);have run:callD fns (m+4) 15 [Y3 3,O dy,O o,rD g,q] (FC sz T d fo jo cs ro rest)=Y (.non,j):=
  qzz 8 [6,7,16] 4 (λq=>_/\_/\_/\_/\_/\q) [.l [O dy],.c (O a,FC sz T d fo jo cs ro (rest++[Y5 Z [O dy]])),.c (.non,FC sz T d fo jo cs ro (rest++[Y5 Z [O dy]])++[.obj 191 (clF o g (Y3 (rest.length+8)) a)]),.b Z,.c (.non,j)] ⟨p,i,b,e,hv,rfl⟩
 rw[run,<- hS];rw[h]
 cases n:hit dy ps c with
 |true=>
  have:=Jq.cell (by simp) V.1 V.2.1 V.2.2;rw[qbs V.1 Jq.nd,c2,set2]at this;rw[c3]at this;refine⟨?_,this⟩;rw[Z8 rfl,Z8 rfl,c2,set2,c3];unfold FC;rw[bk1 V.1 V.2.1]
 |false=>
  have:vst dy ps c=c:=by unfold vst; rw[n]; rfl
  rw[this,<- c3];refine⟨?_,Jq⟩;rw[Z7 (by simp),Z7 (by simp),Qq5]
end
def over(day:J)(c:Cl):Prop:=c.gv≠B\/c.la<day
def Ow(c:Cl):Prop:=1<=c.o/\c.o<=40
inductive Op (day:J):L Cl->L J->L Cl->L J->Prop
 |same {cs ro}:Op day cs ro cs ro
 |upd {cs ro c c'} (hc:c∈cs) (hn:c'.nm=c.nm) (hv:c'.v=c.v) (hw:Ow c'):Op day cs ro (upd cs c') ro
 |vein {cs ro} (ps:L (J×J)):Op day cs ro (cs.map (vst day ps)) (ro++(cs.filter (hit day ps)).map (·.nm))
 |stake {cs ro c} (ps:L (J×J)) (hn:c.nm=day) (hv:c.v=B) (hw:Ow c):Op day cs ro (cs++[vst day ps c]) (ro++if hit day ps c then [day] else [])
 |part0 {cs ro c c' p} (hc:c∈cs) (hn:c'.nm=c.nm) (hv:c'.v=c.v) (hw:Ow c') (pw:Ow p) (pn:p.nm=day) (pv:p.v=c.v) (h:c.v=B):Op day cs ro (K35.upd cs c'++[p]) ro
 |part1 {cs ro c c' p A R} (hc:c∈cs) (hn:c'.nm=c.nm) (hv:c'.v=c.v) (hw:Ow c') (pw:Ow p) (pn:p.nm=day) (hr:ro=A++c.nm::R):Op day cs ro (K35.upd cs c'++[p]) (A++c.nm::day::R)
def ix1:idxD st (Ya (a::b::r)) (O 1)=Y b:=by
 show atI (a::b::r) 1=_;unfold atI ixN;rw[Z8 (by decide),Z8 (by simp; lia)]
 rfl
section
variable {sz:Zt}{T d:J}{fo jo:L (D×D)}{ro:L J}{rest:Y2}{cs:L Cl}{Bq:Y1}
def chg_no(m)(day n)(w)(r)(e:∀c∈cs,c.nm≠n):callD fns (m+1) 18 [Y3 3,O day,Ya (sO w::O n::r)] (FC sz T d fo jo cs ro rest)=Y (sO "noclaim",FC sz T d fo jo cs ro rest):=
 qzz 8 [] 1 (λq=>_/\_/\q) [.i (O n),.q B] ⟨ix1 (st:=FC sz T d fo jo cs ro rest) (a:=sO w) (b:=O n) (r:=r),qnh e,rfl⟩
def qhb(m)(I:Inv Bq rest cs)(day)(w)(r)(hc:c∈cs)(h:over day c):callD fns (m+2) 18 [Y3 3,O day,Ya (sO w::O c.nm::r)] (FC sz T d fo jo cs ro rest)=Y (sO "ended",FC sz T d fo jo cs ro rest):=by
 have hs:=qqs (sz:=sz) (T:=T) (d:=d) (fo:=fo) (jo:=jo) (bo:=qzb cs) (ro:=rowD ro) m c day (I.at_ c hc).2;have g:=I.get hc;have f:=(I.at_ c hc).2;rcases qxk c day with⟨e,h1,h2,i⟩|⟨e,h1,h2,i⟩|⟨e,_⟩|⟨e,_⟩
 ·rcases h with z|z
  ·exact absurd h2 z
  ·lia
 ·rcases h with z|z
  ·exact absurd h2 z
  ·lia
 ·rw[e]at hs;exact qzz 8 [10] 2 (λq=>_/\_/\_/\_/\_/\q) [.i (O c.nm),.q (Y (Y3 (c.j+9))),.q (Y (Y3 (c.j+9))),.r c.cell,.c (sO "given",FC sz T d fo jo cs ro rest)] ⟨ix1 (st:=FC sz T d fo jo cs ro rest) (a:=sO w) (b:=O c.nm) (r:=r),g,g,f,hs,rfl⟩
 ·rw[e]at hs;exact qzz 8 [10] 2 (λq=>_/\_/\_/\_/\_/\q) [.i (O c.nm),.q (Y (Y3 (c.j+9))),.q (Y (Y3 (c.j+9))),.r c.cell,.c (sO "fallen",FC sz T d fo jo cs ro rest)] ⟨ix1 (st:=FC sz T d fo jo cs ro rest) (a:=sO w) (b:=O c.nm) (r:=r),g,g,f,hs,rfl⟩
def qaz(a:¬ over day c):stW c day = "unvested"\/stW c day = "stands":=by
 rcases qxk c day with⟨e,_⟩|⟨e,_⟩|⟨_,e⟩|⟨_,e,_⟩
 ·exact .inl e
 ·exact .inr e
 ·exact absurd (.inl e) a
 ·exact absurd (.inr e) a
def qhc(m)(I:Inv Bq rest cs)(day)(hc:c∈cs)(f:¬ over day c):callD fns (m+2) 18 [Y3 3,O day,Ya [sO "give",O c.nm]] (FC sz T d fo jo cs ro rest)=Y (sO "good",FC sz T d fo jo cs ro (rest.set (c.j+1) { c with gv:=Y day:Cl }.cell)):=by
 have hs:=qqs (sz:=sz) (T:=T) (d:=d) (fo:=fo) (jo:=jo) (bo:=qzb cs) (ro:=rowD ro) m c day (I.at_ c hc).2;have b:=I.get hc;have a:=(I.at_ c hc).2;rcases qaz f with e|e
 ·rw[e]at hs;exact qzz 8 [10] 2 (λq=>_/\_/\_/\_/\_/\q) [.q (Y (Y3 (c.j+9))),.q (Y (Y3 (c.j+9))),.r c.cell,.c (sO "unvested",FC sz T d fo jo cs ro rest),.r c.cell] ⟨b,b,a,hs,a,rfl⟩
 ·rw[e]at hs;exact qzz 8 [10] 2 (λq=>_/\_/\_/\_/\_/\q) [.q (Y (Y3 (c.j+9))),.q (Y (Y3 (c.j+9))),.r c.cell,.c (sO "stands",FC sz T d fo jo cs ro rest),.r c.cell] ⟨b,b,a,hs,a,rfl⟩
def qha(m)(I:Inv Bq rest cs)(day o)(hc:c∈cs)(f:¬ over day c):callD fns (m+2) 18 [Y3 3,O day,Ya [sO "sell",O c.nm,O o]] (FC sz T d fo jo cs ro rest)=Y (sO "good",FC sz T d fo jo cs ro (rest.set (c.j+1) { c with o:=o:Cl }.cell)):=by
 have hs:=qqs (sz:=sz) (T:=T) (d:=d) (fo:=fo) (jo:=jo) (bo:=qzb cs) (ro:=rowD ro) m c day (I.at_ c hc).2;have b:=I.get hc;have a:=(I.at_ c hc).2;rcases qaz f with e|e
 ·rw[e]at hs;exact qzz 8 [10] 2 (λq=>_/\_/\_/\_/\_/\q) [.q (Y (Y3 (c.j+9))),.q (Y (Y3 (c.j+9))),.r c.cell,.c (sO "unvested",FC sz T d fo jo cs ro rest),.r c.cell] ⟨b,b,a,hs,a,rfl⟩
 ·rw[e]at hs;exact qzz 8 [10] 2 (λq=>_/\_/\_/\_/\_/\q) [.q (Y (Y3 (c.j+9))),.q (Y (Y3 (c.j+9))),.r c.cell,.c (sO "stands",FC sz T d fo jo cs ro rest),.r c.cell] ⟨b,b,a,hs,a,rfl⟩
def qhy(m)(I:Inv Bq rest cs)(day)(hc:c∈cs)(k:¬ over day c)(o:c.ds.length<899)(l:thr T (c.ds++[day])=g):callD fns (m+3) 18 [Y3 3,O day,Ya [sO "work",O c.nm]] (FC sz T d fo jo cs ro rest)=Y (sO "good",FC sz T d fo jo cs ro ((rest.set c.j { c with ds:=c.ds++[day],la:=g:Cl }.dl).set (c.j+1) { c with ds:=c.ds++[day],la:=g:Cl }.cell)):=by
 have hs:=qqs (sz:=sz) (T:=T) (d:=d) (fo:=fo) (jo:=jo) (bo:=qzb cs) (ro:=rowD ro) (m+1) c day (I.at_ c hc).2;have i:=I.get hc;obtain⟨b,f⟩:=I.at_ c hc;have lt:=(Qqk.mp b).1;have a:(rest.set c.j (Y5 Z (c.ds.map O++[O day])))[c.j+1]?=Y c.cell:=by rw[Qqt (by lia)]; exact f
 have h:(c.ds.map D.int).length<lim:=by rw[Qqx]; unfold lim; lia
 have j:=qkv m (T:=T) (q:=Y3 (c.j+8)) (xs:=c.ds++[day]) (by simp) (by simp; lia) (λr=>by
  show listAt _ _=_;unfold listAt;have:(FC sz T d fo jo cs ro (rest.set c.j (Y5 Z (c.ds.map O++[O day])))++r)[c.j+8]?=((rest.set c.j (Y5 Z (c.ds.map O++[O day])))++r)[c.j]?:=rfl;rw[this,Qq6 (by rw[Qzt]; exact lt),Qzz lt]
  simp)
 rw[l]at j;have n:({ c with ds:=c.ds++[day],la:=g:Cl }).dl=Y5 Z (c.ds.map O++[O day]):=by unfold Cl.dl; simp
 rw[n];rcases qaz k with e|e
 ·rw[e]at hs;exact qzz 8 [10,6] 3 (λq=>_/\_/\_/\_/\_/\_/\_/\_/\_/\_/\_/\q) [.q (Y (Y3 (c.j+9))),.q (Y (Y3 (c.j+9))),.r c.cell,.c (sO "unvested",FC sz T d fo jo cs ro rest),.r c.cell,.r c.dl,.r c.dl,.b Z,.r c.cell,.c (O g,FC sz T d fo jo cs ro (rest.set c.j (Y5 Z (c.ds.map O++[O day])))),.r c.cell] ⟨i,i,f,hs,f,b,b,Z5 h,a,j,a,rfl⟩
 ·rw[e]at hs;exact qzz 8 [10,6] 3 (λq=>_/\_/\_/\_/\_/\_/\_/\_/\_/\_/\_/\q) [.q (Y (Y3 (c.j+9))),.q (Y (Y3 (c.j+9))),.r c.cell,.c (sO "stands",FC sz T d fo jo cs ro rest),.r c.cell,.r c.dl,.r c.dl,.b Z,.r c.cell,.c (O g,FC sz T d fo jo cs ro (rest.set c.j (Y5 Z (c.ds.map O++[O day])))),.r c.cell] ⟨i,i,f,hs,f,b,b,Z5 h,a,j,a,rfl⟩
end
section
variable {sz:Zt}{T d:J}{fo jo:L (D×D)}{ro:L J}{rest:Y2}{cs:L Cl}{Bq:Y1}
def ga(X){S:Y2}{p:Y1}(h:S[p]?=Y c):(S++X)[p]?=Y c:=by rw[Qq6 (Qqk.mp h).1]; exact h
def qh2(m){S:Y2}(c:Cl)(hc:S[p]?=Y (c.cel (Y3 q)))(hd:S[q]?=Y c.dl)(o)(g):callD fns (m+2) 8 [Y3 p,O o,rD g] S=Y (Y3 (S.length+1),S++[c.dl,(⟨0,0,o,g,[],c.la,c.v,B⟩:Cl).cel (Y3 S.length)]):=by
 have a:=cinit m (S++[c.dl]) o c.la g (Y3 S.length);have b:=gl (st:=S++[c.dl]) (c:=.obj 191 (clF o g (Y3 S.length) c.la));refine qz1 0 [7] 2 (Y3 (S++[c.dl]).length,(S++[c.dl]++[Yb.obj 191 (clF o g (Y3 S.length) c.la)]).set (S++[c.dl]).length ((⟨0,0,o,g,[],c.la,c.v,B⟩:Cl).cel (Y3 S.length))) (λq=>_/\_/\_/\_/\_/\_/\q) [.r (c.cel (Y3 q)),.r c.dl,.r (c.cel (Y3 q)),.c (.non,S++[c.dl]++[.obj 191 (clF o g (Y3 S.length) c.la)]),.r (c.cel (Y3 q)),.r (.obj 191 (clF o g (Y3 S.length) c.la))] ⟨hc,hd,ga [c.dl] hc,a,ga [.obj 191 (clF o g (Y3 S.length) c.la)] (ga [c.dl] hc),b,?_⟩;rw[sl];simp
def qgk(m){c:Cl}(a:rest[c.j]?=Y c.dl)(b:rest[c.j+1]?=Y c.cell)(nm o)(g):callD fns (m+2) 8 [Y3 (c.j+9),O o,rD g] (FC sz T d fo jo cs ro rest)=Y (Y3 (rest.length+9),FC sz T d fo jo cs ro (rest++[c.dl,(⟨nm,rest.length,o,g,c.ds,c.la,c.v,B⟩:Cl).cell])):=by
 have:=qh2 m (S:=FC sz T d fo jo cs ro rest) (p:=c.j+9) (q:=c.j+8) c b a o g;rw[qia]at this;exact this
def qc5(m)(g)(s line)(hs:s=0\/s=1):(∀st:Y2,callD fns (m+2) 3 [rD g,O s,O line] st=Y (.non,st))\/∃a b,∀st:Y2,callD fns (m+2) 3 [rD g,O s,O line] st=Y (Ya [rD a,rD b],st):=by
 rcases hs with rfl|rfl
 ·by_cases h1:g.1<line
  ·by_cases h2:line<=g.2.2.1
   ·exact .inr ⟨(g.1,g.2.1,line - 1,g.2.2.2),(line,g.2.1,g.2.2.1,g.2.2.2),λst=>qzz 0 [] 2 (λq=>_/\_/\q) [.b Z,.b Z,.k] ⟨Z5 h1,Z5 h2,rfl⟩⟩
   ·exact .inl (λst=>qzz 0 [] 2 (λq=>_/\_/\q) [.b Z,.b Y7] ⟨Z5 h1,Z6 h2,rfl⟩)
  ·exact .inl (λst=>qzz 0 [] 2 (λq=>_/\q) [.b Y7] ⟨Z6 h1,rfl⟩)
 ·by_cases h1:g.2.1<line
  ·by_cases h2:line<=g.2.2.2
   ·exact .inr ⟨(g.1,g.2.1,g.2.2.1,line - 1),(g.1,line,g.2.2.1,g.2.2.2),λst=>qzz 0 [] 2 (λq=>_/\_/\q) [.b Z,.b Z,.k] ⟨Z5 h1,Z5 h2,rfl⟩⟩
   ·exact .inl (λst=>qzz 0 [] 2 (λq=>_/\_/\q) [.b Z,.b Y7] ⟨Z5 h1,Z6 h2,rfl⟩)
  ·exact .inl (λst=>qzz 0 [] 2 (λq=>_/\q) [.b Y7] ⟨Z6 h1,rfl⟩)
def qnz(X:L D)(y z)(Z9):(X++y::Z9).take (X.length+1)++z::(X++y::Z9).drop (X.length+1)=X++y::z::Z9:=by
 induction X with
 |nil=>rfl
 |cons x r a=>exact congrArg (x::·) a
def eqI(a b):eqT (O a) (O b)=(a==b):=rfl
def row_ix{R:L J}(h:n ∉ A)(st:Y2):(if flat 9 (O n)&&flats 9 (rowD (A++n::R)) then((rowD (A++n::R)).findIdx? λy=>eqT y (O n)).map λ(j:Y1)=>(D.int (j:J),st) else B)=Y (O (A.length:J),st):=by
 have f:∀l:L J,flats 9 (rowD l)=true:=λl=>by
  induction l with
  |nil=>rfl
  |cons a r b=>show(flat 9 (O a)&&flats 9 (rowD r))=Z; rw[b]; rfl
 rw[f,show flat 9 (O n)=Z from rfl,Qxr,Z8 rfl];have:(rowD (A++n::R)).findIdx? (λy=>eqT y (O n))=Y A.length:=by
  induction A with
  |nil=>show(if (n==n)=Z then _ else _)=_; simp
  |cons a r b=>
   have c:(a==n)=false:=by simp only[Qqa,not_or]at h; simpa using λe=>h.1 e.symm
   show List.findIdx? _ (D.int a::rowD (r++n::R))=_;rw[List.findIdx?_cons];rw[eqI,c];simp only[Qzw,if_false];rw[b (λz=>h (Qqs _ z))]
   rfl
 rw[this]
 rfl
def qmw(m)(I:Inv Bq rest cs)(hB:Bq<=rest.length)(day line o s)(hs:s=0\/s=1)(hc:c∈cs)(hw:Ow c)(U:1<=o/\o<=40)(hr:ro.length+cs.length<900)(hn:∀x∈cs,x.nm≠day)(hv:c.v≠B->∃A R,ro=A++c.nm::R/\c.nm ∉ A):
  ∃w r C f,(∀sz:Zt,callD fns (m+3) 19 [Y3 3,O day,Ya [sO "part",O c.nm,O s,O line,O o]] (FC sz T d fo jo cs ro rest)=Y (sO w,FC sz T d fo jo r C f))/\Inv Bq f r/\Op day cs ro r C/\f.take Bq=rest.take Bq/\rest.length<=f.length/\(∀c∈r,∃x,x.ds.length<=c.ds.length/\c.ds.length<=x.ds.length+1/\x∈cs):=by
 have V:=I.get hc;obtain⟨W,j⟩:=I.at_ c hc;rcases qc5 (m:=m) c.g s line hs with P|⟨a,b,P⟩
 ·exact⟨"nocut",cs,ro,rest,λsz=>qzz 8 [3] 3 (λq=>_/\_/\_/\q) [.q (Y (Y3 (c.j+9))),.r c.cell,.c (.non,FC sz T d fo jo cs ro rest),.k] ⟨V,j,P (FC sz T d fo jo cs ro rest),rfl⟩,I,.same,rfl,Qqj _,λc hc=>⟨c,by lia,by lia,hc⟩⟩
 ·have Jq:=I.cell (c':={ c with g:=a }) hc rfl rfl rfl;have lt:=(Qqk.mp j).1;have k1:(rest.set (c.j+1) ({ c with g:=a }:Cl).cell)[c.j]?=Y ({ c with g:=a }:Cl).dl:=by rw[Qqt (by lia)]; exact W
  have u:(rest.set (c.j+1) ({ c with g:=a }:Cl).cell)[c.j+1]?=Y ({ c with g:=a }:Cl).cell:=Qzz (by lia);have i:=λsz:Zt=>qgk (sz:=sz) (T:=T) (d:=d) (fo:=fo) (jo:=jo) (cs:=cs) (ro:=ro) (m:=m) (c:={ c with g:=a }) k1 u day o b;have X:=qx7 (c':={ c with g:=a }) hc I.nd rfl rfl;generalize l:rest.set (c.j+1) ({ c with g:=a }:Cl).cell=k at Jq k1 u i;have a0:k.length=rest.length:=by rw[<- l,Qzt]
  have Q:k.take Bq=rest.take Bq:=by rw[<- l]; exact qqr (by have:=I.lo c hc; lia)
  generalize h:(⟨day,k.length,o,b,({ c with g:=a }:Cl).ds,({ c with g:=a }:Cl).la,({ c with g:=a }:Cl).v,B⟩:Cl)=p at i;have p1:p.nm=day:=by rw[<- h]
  have p2:p.j=k.length:=by rw[<- h]
  have p3:p.dl=({ c with g:=a }:Cl).dl:=by rw[<- h]; rfl
  have p4:p.v=c.v:=by rw[<- h]
  have p5:Ow p:=by rw[<- h]; exact U
  have E:∀x∈upd cs { c with g:=a },x.nm≠p.nm:=λx hx=>by
   have:x.nm∈(upd cs { c with g:=a }).map (·.nm):=Qqv.mpr ⟨x,hx,rfl⟩;rw[qye]at this;obtain⟨y,v,e⟩:=Qqv.mp this;rw[<- e,p1];exact hn y v
  have J2:=Jq.add p p2 E (by rw[<- h]; exact I.ne c hc) (by lia);rw[p3]at J2;have t:dput (qzb cs) (O day) (Y3 (k.length+9))=qzb (upd cs { c with g:=a }++[p]):=by
   rw[<- qaf E,X,p1,p2]
  have tk:(k++[({ c with g:=a }:Cl).dl,p.cell]).take Bq=rest.take Bq:=by rw[Qjg (by lia),Q]
  have ln:rest.length<=(k++[({ c with g:=a }:Cl).dl,p.cell]).length:=by rw[Qqe]; lia
  have N:(k++[({ c with g:=a }:Cl).dl,p.cell])[c.j+1]?=Y ({ c with g:=a }:Cl).cell:=by rw[Qq6 (by lia)]; exact u
  have K:decide ((qzb cs).length<lim)=true:=Z5 (by unfold qzb lim; rw[Qqx]; lia);have H:∀y∈upd cs { c with g:=a }++[p],∃x,x.ds.length<=y.ds.length/\y.ds.length<=x.ds.length+1/\x∈cs:=λy v=>by
   rcases Qql.mp v with v|v
   ·obtain⟨z,hz,rfl⟩:=Qqv.mp v
    by_cases e:z.nm=({ c with g:=a }:Cl).nm
    ·rw[Z8 e]; exact⟨c,Qqj _,Qxv _,hc⟩
    ·rw[Z7 e]; exact⟨z,Qqj _,Qxv _,hz⟩
   ·cases Qqy.mp v;exact⟨c,by rw[<- h]; exact Qqj _,by rw[<- h]; exact Qxv _,hc⟩
  cases n:c.v with
  |none=>
   refine⟨"good",upd cs { c with g:=a }++[p],ro,k++[({ c with g:=a }:Cl).dl,p.cell],λsz=>?_,J2,.part0 hc rfl rfl hw p5 p1 p4 n,tk,ln,H⟩;rw[<- l]at i u N t ⊢;unfold FC;rw[<- t];exact qzz 8 [3,8] 3 (λq=>_/\_/\_/\_/\_/\_/\_/\_/\_/\q) [.q (Y (Y3 (c.j+9))),.r c.cell,.c (Ya [rD a,rD b],FC sz T d fo jo cs ro rest),.k,.r c.cell,.r ({ c with g:=a }:Cl).cell,.c (Y3 ((rest.set (c.j+1) ({ c with g:=a }:Cl).cell).length+9),FC sz T d fo jo cs ro (rest.set (c.j+1) ({ c with g:=a }:Cl).cell++[({ c with g:=a }:Cl).dl,p.cell])),.b Z,.r ({ c with g:=a }:Cl).cell,.b Y7] ⟨V,j,P (FC sz T d fo jo cs ro rest),j,u,i sz,K,N,nnN n,rfl⟩
  |some x=>
   obtain⟨A,R,e,hA⟩:=hv (by rw[n]; simp);refine⟨"good",upd cs { c with g:=a }++[p],A++c.nm::day::R,k++[({ c with g:=a }:Cl).dl,p.cell],λsz=>?_,J2,.part1 hc rfl rfl hw p5 p1 e,tk,ln,H⟩;rw[<- l]at i u N t ⊢;have G:=row_ix (R:=R) hA (FS sz T d fo jo (dput (qzb cs) (O day) (Y3 ((rest.set (c.j+1) ({ c with g:=a }:Cl).cell).length+9))) (rowD ro) (rest.set (c.j+1) ({ c with g:=a }:Cl).cell++[({ c with g:=a }:Cl).dl,p.cell]));rw[<- e]at G;have F:(rowD ro).length=ro.length:=by simp
   have a1:ro.length=A.length+(R.length+1):=by rw[e]; simp
   have hok:decide (0<=(A.length:J)+1/\(A.length:J)+1<=(rowD ro).length/\(rowD ro).length<lim)=true:=Z5 ⟨by lia,by rw[F]; lia,by rw[F]; unfold lim; lia⟩;have S:(rowD ro).take ((A.length:J)+1).toNat++O day::(rowD ro).drop ((A.length:J)+1).toNat=rowD (A++c.nm::day::R):=by
    rw[show((A.length:J)+1).toNat=(rowD A).length+1 by simp,e];have:=qnz (rowD A) (O c.nm) (O day) (rowD R);simpa[rowD] using this
   unfold FC;rw[<- t,<- S];exact qzz 8 [3,8] 3 (λq=>_/\_/\_/\_/\_/\_/\_/\_/\_/\_/\_/\q) [.q (Y (Y3 (c.j+9))),.r c.cell,.c (Ya [rD a,rD b],FC sz T d fo jo cs ro rest),.k,.r c.cell,.r ({ c with g:=a }:Cl).cell,.c (Y3 ((rest.set (c.j+1) ({ c with g:=a }:Cl).cell).length+9),FC sz T d fo jo cs ro (rest.set (c.j+1) ({ c with g:=a }:Cl).cell++[({ c with g:=a }:Cl).dl,p.cell])),.b Z,.r ({ c with g:=a }:Cl).cell,.b Z,.c (O (A.length:J),FS sz T d fo jo (dput (qzb cs) (O day) (Y3 ((rest.set (c.j+1) ({ c with g:=a }:Cl).cell).length+9))) (rowD ro) (rest.set (c.j+1) ({ c with g:=a }:Cl).cell++[({ c with g:=a }:Cl).dl,p.cell])),.b Z] ⟨V,j,P (FC sz T d fo jo cs ro rest),j,u,i sz,K,N,nnS n,G,hok,rfl⟩
end
structure RowI (day:J) (cs:L Cl) (ro:L J):Prop where
 in1:∀n∈ro,∃c∈cs,c.nm=n
 in2:∀c∈cs,c.v≠B->c.nm∈ro
 le:∀c∈cs,c.nm<=day
 ow:∀c∈cs,Ow c
noncomputable def voD(vs:L (J×D×L (J×J))):L (D×D):=vs.map λv=>(.int v.1,.tup [v.2.1,.tup (v.2.2.map cD)])
section
variable {sz:Zt}{T d:J}{fo jo:L (D×D)}{ro:L J}{rest:Y2}{cs:L Cl}{Bq:Y1}
def qh6(h:Op day cs ro cs' f):(∀c∈cs',(∃x∈cs,x.nm=c.nm)\/c.nm=day)/\cs'.length<=cs.length+1/\f.length+cs.length<=ro.length+cs'.length+cs.length:=by
 have e:∀(cs:L Cl) b,(upd cs b).length=cs.length:=λcs b=>by unfold upd; simp
 have un:∀(cs:L Cl) b,∀c∈upd cs b,∃x∈cs,x.nm=c.nm:=λcs b c hc=>by
  have:c.nm∈(upd cs b).map (·.nm):=Qqv.mpr ⟨c,hc,rfl⟩;rw[qye]at this;exact Qqv.mp this
 cases h with
 |same=>exact⟨λc hc=>.inl ⟨c,hc,rfl⟩,by lia,by lia⟩
 |upd hc hn hv g=>exact⟨λc hc=>.inl (un _ _ c hc),by rw[e]; lia,by rw[e]; lia⟩
 |vein ps=>
  refine⟨λc hc=>?_,by simp,?_⟩
  ·obtain⟨x,a,rfl⟩:=Qqv.mp hc;exact .inl ⟨x,a,(qqq day ps x).1.symm⟩
  ·have:=Qxm (hit day ps) cs;simp
   lia
 |@stake c ps hn hv g=>
  refine⟨λx a=>?_,by simp,?_⟩
  ·rcases Qql.mp a with a|a
   ·exact .inl ⟨x,a,rfl⟩
   ·cases Qqy.mp a;exact .inr ((qqq day ps c).1.trans hn)
  ·split<;>simp<;>lia
 |@part0 c b p hc hn hv g pw pn i h=>
  refine⟨λx a=>?_,by simp[e],by simp[e]<;>lia⟩;rcases Qql.mp a with a|a
  ·exact .inl (un _ _ x a)
  ·cases Qqy.mp a; exact .inr pn
 |@part1 c b p A R hc hn hv g pw pn hr=>
  subst hr;refine⟨λx a=>?_,by simp[e],by simp[e]; lia⟩;rcases Qql.mp a with a|a
  ·exact .inl (un _ _ x a)
  ·cases Qqy.mp a; exact .inr pn
inductive CF':D->Prop
 |work (n:J):CF' (.tup [sO "work",.int n])
 |give (n:J):CF' (.tup [sO "give",.int n])
 |sell (n o:J) (ho:1<=o/\o<=40):CF' (.tup [sO "sell",.int n,.int o])
 |part (n s l o:J) (hs:s=0\/s=1) (ho:1<=o/\o<=40):CF' (.tup [sO "part",.int n,.int s,.int l,.int o])
def qab(cs:L Cl)(n):(∀c∈cs,c.nm≠n)\/∃c∈cs,c.nm=n:=by
 by_cases h:∃c∈cs,c.nm=n
 ·exact .inr h
 ·exact .inl λc hc e=>h ⟨c,hc,e⟩
theorem qv3:∀{l:L J},n∈l->∃A R,l=A++n::R/\n ∉ A
 |a::r,h=>by
  by_cases e:a=n
  ·exact⟨[],r,by rw[e]; rfl,by simp⟩
  ·rcases Qqa.mp h with z|z
   ·exact absurd z.symm e
   ·obtain⟨A,R,rfl,b⟩:=qv3 z;exact⟨a::A,R,rfl,by simp only[Qqa,not_or]; exact⟨λq=>e q.symm,b⟩⟩
def qei(m)(I:Inv Bq rest cs)(P:Bq<=rest.length)(p day)(hd:p<day)(hr:ro.length+cs.length<900)(F:∀c∈cs,c.ds.length<899)(Rw:RowI p cs ro)(hf:CF' f):
  ∃w b g a,(∀sz:Zt,callD fns (m+4) 18 [Y3 3,O day,f] (FC sz T d fo jo cs ro rest)=Y (sO w,FC sz T d fo jo b g a))/\Inv Bq a b/\Op day cs ro b g/\a.take Bq=rest.take Bq/\rest.length<=a.length/\(∀c∈b,∃x,x.ds.length<=c.ds.length/\c.ds.length<=x.ds.length+1/\(x∈cs)):=by
 have self:∀c∈cs,∃x,x.ds.length<=c.ds.length/\c.ds.length<=x.ds.length+1/\x∈cs:=λc hc=>⟨c,by lia,by lia,hc⟩
 have j:∀{c v:Cl},c∈cs->c.ds.length<=v.ds.length->v.ds.length<=c.ds.length+1->∀y∈upd cs v,∃x,x.ds.length<=y.ds.length/\y.ds.length<=x.ds.length+1/\x∈cs:=λ{c v} hc h1 h2 y K=>by
  obtain⟨z,H,rfl⟩:=Qqv.mp K
  by_cases e:z.nm=v.nm
  ·rw[Z8 e]; exact⟨c,h1,h2,hc⟩
  ·rw[Z7 e]; exact self z H
 have no:∀n w r,(∀c∈cs,c.nm≠n)->∃E b g a,(∀sz:Zt,callD fns (m+4) 18 [Y3 3,O day,Ya (sO w::O n::r)] (FC sz T d fo jo cs ro rest)=Y (sO E,FC sz T d fo jo b g a))/\Inv Bq a b/\Op day cs ro b g/\a.take Bq=rest.take Bq/\rest.length<=a.length/\(∀c∈b,∃x,x.ds.length<=c.ds.length/\c.ds.length<=x.ds.length+1/\(x∈cs)):=λn w r h=>
  ⟨"noclaim",cs,ro,rest,λ_=>chg_no (m+3) day n w r h,I,.same,rfl,Qqj _,self⟩
 have A:∀c w r,c∈cs->over day c->∃E b g a,(∀sz:Zt,callD fns (m+4) 18 [Y3 3,O day,Ya (sO w::O c.nm::r)] (FC sz T d fo jo cs ro rest)=Y (sO E,FC sz T d fo jo b g a))/\Inv Bq a b/\Op day cs ro b g/\a.take Bq=rest.take Bq/\rest.length<=a.length/\(∀c∈b,∃x,x.ds.length<=c.ds.length/\c.ds.length<=x.ds.length+1/\(x∈cs)):=λc w r h i=>
  ⟨"ended",cs,ro,rest,λ_=>qhb (m+2) I day w r h i,I,.same,rfl,Qqj _,self⟩
 cases hf with
 |work n=>
  rcases qab cs n with h|⟨c,hc,rfl⟩
  ·exact no n _ _ h
  ·by_cases i:over day c
   ·exact A c _ _ hc i
   ·have h:=λsz:Zt=>qhy (sz:=sz) (T:=T) (d:=d) (fo:=fo) (jo:=jo) (ro:=ro) (m+1) I day hc i (F c hc) rfl;generalize thr T (c.ds++[day])=G at h;refine⟨"good",upd cs { c with ds:=c.ds++[day],la:=G },ro,_,?_,I.put hc rfl rfl ⟨by simp,by have:=F c hc; simp; lia⟩,.upd hc rfl rfl (Rw.ow c hc),?_,?_,j hc (by simp) (by simp)⟩
    ·intro sz;unfold FC;rw[qx7 (c':={ c with ds:=c.ds++[day],la:=G }) hc I.nd rfl rfl];exact h sz
    ·rw[qqr (by have:=I.lo c hc; lia),qqr (I.lo c hc)]
    ·simp
 |give n=>
  rcases qab cs n with h|⟨c,hc,rfl⟩
  ·exact no n _ _ h
  ·by_cases i:over day c
   ·exact A c _ _ hc i
   ·refine⟨"good",upd cs { c with gv:=Y day },ro,_,?_,I.cell hc rfl rfl rfl,.upd hc rfl rfl (Rw.ow c hc),qqr (by have:=I.lo c hc; lia),by simp,j hc (Qqj _) (by simp)⟩;intro sz;unfold FC;rw[qx7 (c':={ c with gv:=Y day }) hc I.nd rfl rfl];exact qhc (m+2) I day hc i
 |sell n o t=>
  rcases qab cs n with h|⟨c,hc,rfl⟩
  ·exact no n _ _ h
  ·by_cases i:over day c
   ·exact A c _ _ hc i
   ·refine⟨"good",upd cs { c with o:=o },ro,_,?_,I.cell hc rfl rfl rfl,.upd hc rfl rfl t,qqr (by have:=I.lo c hc; lia),by simp,j hc (Qqj _) (by simp)⟩;intro sz;unfold FC;rw[qx7 (c':={ c with o:=o }) hc I.nd rfl rfl];exact qha (m+2) I day o hc i
 |part n s l o hs t=>
  rcases qab cs n with h|⟨c,hc,rfl⟩
  ·exact no n _ _ h
  ·by_cases i:over day c
   ·exact A c _ _ hc i
   ·obtain⟨w,b,g,a,h1,h2,U,S,R,Q⟩:=qmw (T:=T) (d:=d) (fo:=fo) (jo:=jo) m I P day l o s hs hc (Rw.ow c hc) t hr (λx N e=>by have:=Rw.le x N; lia) (λhv=>qv3 (Rw.in2 c hc hv));have C:=I.get hc;have u:=(I.at_ c hc).2;refine⟨w,b,g,a,λsz=>?_,h2,U,S,R,Q⟩;have h1:=h1 sz;have k:=qqs (sz:=sz) (T:=T) (d:=d) (fo:=fo) (jo:=jo) (bo:=qzb cs) (ro:=rowD ro) (m+2) c day u;rcases qaz i with e|e
    ·rw[e]at k;exact qzz 8 [10,19] 4 (λq=>_/\_/\_/\_/\_/\q) [.q (Y (Y3 (c.j+9))),.q (Y (Y3 (c.j+9))),.r c.cell,.c (sO "unvested",FC sz T d fo jo cs ro rest),.c (sO w,FC sz T d fo jo b g a)] ⟨C,C,u,k,h1,rfl⟩
    ·rw[e]at k;exact qzz 8 [10,19] 4 (λq=>_/\_/\_/\_/\_/\q) [.q (Y (Y3 (c.j+9))),.q (Y (Y3 (c.j+9))),.r c.cell,.c (sO "stands",FC sz T d fo jo cs ro rest),.c (sO w,FC sz T d fo jo b g a)] ⟨C,C,u,k,h1,rfl⟩
end
section
variable {sz:Zt}{T d:J}{fo jo:L (D×D)}{ro:L J}{rest:Y2}{cs:L Cl}{Bq:Y1}
def day_ok(m)(st)(day)(b:1<=day)(a:day<=400):callD fns (m+2) 45 [O day] st=Y (.non,st):=
 qzz 0 [] 2 (λq=>_/\_/\q) [.b Z,.b Z] ⟨Z5 b,Z5 a,rfl⟩
def qqe(m){S:Y2}(c:1<=day)(b:day<=400)(hd:d<day)(hs:callD fns (m+6) 29 [sz.s,f] (FC sz T d fo jo cs ro rest)=Y (.bl Z,FC sz T d fo jo cs ro rest))(a:callD fns (m+6) 48 [Y3 0,f] (FC sz T day fo jo cs ro rest)=Y (v,S)):
  callD fns (m+7) 47 [Y3 0,O day,f] (FC sz T d fo jo cs ro rest)=Y (v,S):=
 qzz 8 [45,29,48] 7 (λq=>_/\_/\_/\_/\q) [.c (.non,FC sz T d fo jo cs ro rest),.c (.bl Z,FC sz T d fo jo cs ro rest),.b Y7,.c (v,S)] ⟨day_ok (m+4) (FC sz T d fo jo cs ro rest) day c b,hs,Z6 (show ¬ day<=d by lia),a,rfl⟩
def qfx(m){S:Y2}(hf:CF' f)(h:callD fns (m+4) 18 [Y3 3,O d,f] (FC sz T d fo jo cs ro rest)=Y (v,S)):callD fns (m+5) 48 [Y3 0,f] (FC sz T d fo jo cs ro rest)=Y (v,S):=by
 cases hf with
 |work n=>exact qzz 8 [18] 5 (λq=>_/\q) [.c (v,S)] ⟨h,rfl⟩
 |give n=>exact qzz 8 [18] 5 (λq=>_/\q) [.c (v,S)] ⟨h,rfl⟩
 |sell n o _=>exact qzz 8 [18] 5 (λq=>_/\q) [.c (v,S)] ⟨h,rfl⟩
 |part n s l o hs _=>exact qzz 8 [18] 5 (λq=>_/\q) [.c (v,S)] ⟨h,rfl⟩
def qhf(m)(a b f)(hj:jo.length<1000):∃w c,(∀sz:Zt,callD fns (m+2) 48 [Y3 0,Ya [sO "join",O a,O b,O f]] (FC sz T d fo jo cs ro rest)=Y (sO w,FC sz T d fo c cs ro rest))/\c.length<=jo.length+1/\(c=jo\/(b<a/\(dget fo (O b)).isSome/\c=dput jo (O a) (Ya [O b,O f]))):=by
 have h:decide (jo.length<lim)=true:=Z5 (by unfold lim; lia);have dl:∀v,(dput jo (O a) v).length<=jo.length+1:=λv=>by unfold dput; split<;>simp
 cases h1:dget fo (O a) with
 |none=>exact⟨"novein",jo,λsz=>qzz 8 [] 2 (λq=>_/\q) [.q B] ⟨h1,rfl⟩,by lia,.inl rfl⟩
 |some x=>
  cases h2:dget fo (O b) with
  |none=>exact⟨"novein",jo,λsz=>qzz 8 [] 2 (λq=>_/\_/\q) [.q (Y x),.q B] ⟨h1,h2,rfl⟩,by lia,.inl rfl⟩
  |some y=>
   by_cases e:a<=b
   ·exact⟨"order",jo,λsz=>qzz 8 [] 2 (λq=>_/\_/\_/\q) [.q (Y x),.q (Y y),.b Z] ⟨h1,h2,Z5 e,rfl⟩,by lia,.inl rfl⟩
   ·cases g:dget jo (O a) with
    |some z=>exact⟨"joined",jo,λsz=>qzz 8 [] 2 (λq=>_/\_/\_/\_/\q) [.q (Y x),.q (Y y),.b Y7,.q (Y z)] ⟨h1,h2,Z6 e,g,rfl⟩,by lia,.inl rfl⟩
    |none=>exact⟨"good",dput jo (O a) (Ya [O b,O f]),λsz=>qzz 8 [] 2 (λq=>_/\_/\_/\_/\_/\q) [.q (Y x),.q (Y y),.b Y7,.q B,.b Z] ⟨h1,h2,Z6 e,g,h,rfl⟩,dl _,.inr ⟨by lia,rfl,rfl⟩⟩
def qxr(h:∀p∈kvs,eqT p.1 (O n)=Y7):dput kvs (O n) v=kvs++[(O n,v)]:=by
 unfold dput;have:kvs.any (λp=>eqT p.1 (O n))=false:=by
  rw[Qjo];intro p a;rw[h p a];simp
 rw[this];simp
def qfw(h:∀v∈vs,v.1≠n)(s)(ps):dput (voD vs) (O n) (Ya [s,Ya (ps.map cD)])=voD (vs++[(n,s,ps)]):=by
 rw[qxr λp a=>?_]
 ·simp[voD]
 ·obtain⟨v,hv,rfl⟩:=Qqv.mp a;show(v.1==n)=Y7;simpa using h v hv
def qhe(m)(I:Inv Bq rest cs)(s)(ps)(vs)(hv:∀v∈vs,v.1≠d)(b:vs.length<1000)(f:ps.length<1000)(hr:ro.length+cs.length<1000):
  ∃a,(∀sz:Zt,callD fns (m+6) 48 [Y3 0,Ya [sO "vein",s,Ya (ps.map cD)]] (FC sz T d (voD vs) jo cs ro rest)=Y (sO "good",FC sz T d (voD (vs++[(d,s,ps)])) jo (cs.map (vst d ps)) (ro++(cs.filter (hit d ps)).map (·.nm)) a))/\Inv Bq a (cs.map (vst d ps))/\a.take Bq=rest.take Bq/\a.length=rest.length:=by
 obtain⟨a,h1,h2,e,c⟩:=qim (T:=T) (d:=d) (fo:=voD (vs++[(d,s,ps)])) (jo:=jo) m I d ps (by unfold lim; lia) hr;refine⟨a,λsz=>?_,h2,e,c⟩;have h1:=h1 sz;have hb:decide ((voD vs).length<lim)=true:=Z5 (by unfold voD lim; rw[Qqx]; lia);rw[<- qfw hv]at h1 ⊢;exact qzz 8 [17] 6 (λq=>_/\_/\q) [.b Z,.c (.non,FC sz T d (dput (voD vs) (O d) (Ya [s,Ya (ps.map cD)])) jo (cs.map (vst d ps)) (ro++(cs.filter (hit d ps)).map (·.nm)) a)] ⟨hb,h1,rfl⟩
end
section
variable {sz:Zt}{T d:J}{jo:L (D×D)}{ro:L J}{rest:Y2}{cs:L Cl}{Bq:Y1}
noncomputable def FSf(sz:Zt)(T d:J)(fo jo bo:L (D×D))(ro:L D)(rest:Y2):Y2:=
 .obj 642 [("extent",sz.s),("year",.int T),("day",.int d),("found",.loc 1),("joints",.loc 2),("staked",.loc 3),("dug",.loc 6),("debts",.loc 7)]::.dic Y7 fo::.dic Z jo::.obj 273 [("year",.int T),("book",.loc 4),("row",.loc 5)]::.dic Z bo::.lst Z ro::.tdc Z sz.dg::.lst Z sz.es::rest
theorem qyb:∀{vs}{v},v∈vs->(vs.map (·.1)).Nodup->dget (voD vs) (O v.1)=Y (Ya [v.2.1,Ya (v.2.2.map cD)])
 |a::r,v,h,hn=>by
  unfold dget voD;rw[Qqh,Qzy];show Option.map _ (match (a.1==v.1) with|true=>_|false=>_)=_;rw[Qqh,Qzj]at hn;rcases Qqa.mp h with rfl|h'
  ·simp
  ·have e:(a.1==v.1)=false:=by
    rw[beq_eq_false_iff_ne];exact λe=>hn.1 (Qqv.mpr ⟨v,h',e.symm⟩)
   rw[e];exact qyb h' hn.2
def qfz(m)(I:Inv Bq rest cs)(S:Bq<=rest.length)(o)(C:1<=o/\o<=40)(g:J×J×J×J)(vs)(z:(vs.map (·.1)).Nodup)(N:vs.length<1000)(n:∀v∈vs,v.2.2.length<=16)(hr:ro.length+cs.length<900)(P:∀x∈cs,x.nm≠d):
  ∃e i b,(∀sz:Zt,callD fns (m+6) 48 [Y3 0,.tup [sO "stake",O o,O g.1,O g.2.1,O g.2.2.1,O g.2.2.2]] (FC sz T d (voD vs) jo cs ro rest)=Y (sO "good",FC sz T d (voD vs) jo e i b))/\Inv Bq b e/\Op d cs ro e i/\b.take Bq=rest.take Bq/\rest.length<=b.length/\(∀c∈e,c∈cs\/c.ds.length=1):=by
 have keys:keysOf (voD vs)=vs.map λv=>D.int v.1:=by unfold keysOf voD; rw[Qq7]; rfl
 have u:∀k,((vs.take k).flatMap (·.2.2)).length<=16*k:=λk=>by
  rw[List.length_flatMap];have:∀l:L (J×D×L (J×J)),(∀v∈l,v.2.2.length<=16)->(l.map λv=>v.2.2.length).sum<=16*l.length:=λl=>by
   induction l with
   |nil=>intro _; simp
   |cons a r K=>
    intro h;have h1:=h a (Qq2 ..);have h2:=K λv hv=>h v (Qqs _ hv);simp only[Qqh,List.sum_cons,Qqg]
    lia
  have h:=this (vs.take k) λv hv=>n v (List.mem_of_mem_take hv);have:(vs.take k).length<=k:=by rw[Qzk]; lia
  lia
 obtain⟨ps,t⟩:∃ps,vs.flatMap (·.2.2)=ps:=⟨_,rfl⟩
 have A:ps.length<lim:=by
  have:=u vs.length;rw[Qzc,t]at this;unfold lim
  lia
 have all:∀sz:Zt,callD fns (m+6) 48 [Y3 0,.tup [sO "stake",O o,O g.1,O g.2.1,O g.2.2.1,O g.2.2.2]] (FC sz T d (voD vs) jo cs ro rest)=Y (sO "good",FC sz T d (voD vs) jo (cs++[vst d ps ⟨d,(rest++[Yb.lst Z (ps.map cD)]).length,o,g,[d],thr T [d],B,B⟩]) (ro++if hit d ps ⟨d,(rest++[Yb.lst Z (ps.map cD)]).length,o,g,[d],thr T [d],B,B⟩ then [d] else []) (rest++[Y5 Z (ps.map cD)]++[Y5 Z [O d],(vst d ps ⟨d,(rest++[Yb.lst Z (ps.map cD)]).length,o,g,[d],thr T [d],B,B⟩).cell]))/\Inv Bq (rest++[Y5 Z (ps.map cD)]++[Y5 Z [O d],(vst d ps ⟨d,(rest++[Yb.lst Z (ps.map cD)]).length,o,g,[d],thr T [d],B,B⟩).cell]) (cs++[vst d ps ⟨d,(rest++[Yb.lst Z (ps.map cD)]).length,o,g,[d],thr T [d],B,B⟩]):=λsz=>by
  obtain⟨j,st',h1,h2⟩:=qjz (f:=λτ st x=>(setT (.var 3) x τ).bind λj=>(RL (callD fns (m+4))).ex j st [.expr (.meth (.var 2) .extend [.idx (.didx (.attr 642 (.var 0) "found") (.var 3)) (.lit (O 1))])]) (s:=.tup (keysOf (voD vs))) (ds:=vs.map λv=>D.int v.1) (st:=FSf sz T d (voD vs) jo (qzb cs) (rowD ro) (rest++[Y5 Z []]))
   (λk j st'=>∃x,j=[Y (Y3 0),Y (.tup [sO "stake",O o,O g.1,O g.2.1,O g.2.2.1,O g.2.2.2]),Y (Y3 (rest.length+8)),x]/\st'=FSf sz T d (voD vs) jo (qzb cs) (rowD ro) (rest++[Y5 Z (((vs.take k).flatMap (·.2.2)).map cD)])) (λ_ _=>False)
   ⟨B,rfl,by simp⟩ (by simp[Src.size,keys]) (λk j st' _=>by rw[keys]; rfl) (λk j st' x G h=>by
    obtain⟨y,rfl,rfl⟩:=h;rw[Qqw]at G;obtain⟨v,hv,rfl⟩:=Qqd.mp G;have Q:=(Qqk.mp hv).1;have E:=(Qqk.mp hv).2;have tk:vs.take (k+1)=vs.take k++[v]:=by rw[Qzn Q,E]
    have R:=qyb (Qqo hv) z;have H:=gl (st:=rest) (c:=Y5 Z (((vs.take k).flatMap (·.2.2)).map cD))
    have hb:decide ((((vs.take k).flatMap (·.2.2)).map cD).length+(v.2.2.map cD).length<=lim)=true:=Z5 (by
     have:=u k;have:=n v (Qqo hv);rw[Qqx,Qqx];unfold lim
     lia)
    refine .inl ⟨[Y (Y3 0),Y (.tup [sO "stake",O o,O g.1,O g.2.1,O g.2.2.1,O g.2.2.2]),Y (Y3 (rest.length+8)),Y (O v.1)],FSf sz T d (voD vs) jo (qzb cs) (rowD ro) ((rest++[Yb.lst Z (((vs.take k).flatMap (·.2.2)).map cD)]).set rest.length (Y5 Z (((vs.take k).flatMap (·.2.2)).map cD++v.2.2.map cD))),.inl (qze 8 [] 4 (λq=>_/\_/\_/\_/\q) [.r (Y5 Z (((vs.take k).flatMap (·.2.2)).map cD)),.q (Y (.tup [v.2.1,.tup (v.2.2.map cD)])),.r (Y5 Z (((vs.take k).flatMap (·.2.2)).map cD)),.b Z] ⟨H,R,H,hb,rfl⟩),Y (O v.1),rfl,?_⟩;rw[sl,tk]
    simp)
  obtain⟨x,rfl,rfl⟩:=h2.resolve_right id;rw[Qqx,Qzc]at h1;rw[t]at h1;have p:stepEx (RL (callD fns (m+4))) [Y (Y3 0),Y (.tup [sO "stake",O o,O g.1,O g.2.1,O g.2.2.1,O g.2.2.2]),Y (Y3 (rest.length+8)),B] (FC sz T d (voD vs) jo cs ro (rest++[Y5 Z []])) (.ford (.var 3) (.attr 642 (.var 0) "found") [.expr (.meth (.var 2) .extend [.idx (.didx (.attr 642 (.var 0) "found") (.var 3)) (.lit (O 1))])])=Y (.nx [Y (Y3 0),Y (.tup [sO "stake",O o,O g.1,O g.2.1,O g.2.2.1,O g.2.2.2]),Y (Y3 (rest.length+8)),x],FC sz T d (voD vs) jo cs ro (rest++[Y5 Z (ps.map cD)])):=by
   have V:(RL (callD fns (m+4))).ev [Y (Y3 0),Y (.tup [sO "stake",O o,O g.1,O g.2.1,O g.2.2.1,O g.2.2.2]),Y (Y3 (rest.length+8)),B] (FC sz T d (voD vs) jo cs ro (rest++[Y5 Z []])) (.attr 642 (.var 0) "found")=Y (Y3 1,FC sz T d (voD vs) jo cs ro (rest++[Y5 Z []])):=qzf 8 [] 4 (λq=>q) [] rfl;show((RL (callD fns (m+4))).ev _ _ _).bind _=_;rw[V];show((loop (.tup (keysOf (voD vs))) _ ((voD vs).length+1) 0 _ (FSf sz T d (voD vs) jo (qzb cs) (rowD ro) (rest++[Y5 Z []]))).bind _)=_;have:(voD vs).length+1=(Src.tup (keysOf (voD vs))).size (FSf sz T d (voD vs) jo (qzb cs) (rowD ro) (rest++[Y5 Z []]))+1:=by simp[Src.size,keysOf]
   rw[this,h1]
   rfl
  have ⟨F,U⟩:=qf0 (sz:=sz) (T:=T) (d:=d) (fo:=voD vs) (jo:=jo) (ro:=ro) m (I.more [Y5 Z (ps.map cD)]) (by simp; lia) d o g (q:=Y3 (rest.length+8)) (λbo r=>by
   show listAt _ _=_;unfold listAt;have:(FS sz T d (voD vs) jo bo (rowD ro) (rest++[Y5 Z (ps.map cD)]++r))[rest.length+8]?=(rest++[Yb.lst Z (ps.map cD)]++r)[rest.length]?:=rfl;rw[this]
   simp) A hr P rfl
  have w:∀e i b,callD fns (m+4) 15 [Y3 3,O d,O o,rD g,Y3 (rest.length+8)] (FC sz T d (voD vs) jo cs ro (rest++[Y5 Z (ps.map cD)]))=Y (.non,FC sz T d (voD vs) jo e i b)->callD fns (m+6) 48 [Y3 0,.tup [sO "stake",O o,O g.1,O g.2.1,O g.2.2.1,O g.2.2.2]] (FC sz T d (voD vs) jo cs ro rest)=Y (sO "good",FC sz T d (voD vs) jo e i b):=λe i b F=>
   qzz 8 [15] 6 (λq=>_/\_/\q) [.s (.nx [Y (Y3 0),Y (.tup [sO "stake",O o,O g.1,O g.2.1,O g.2.2.1,O g.2.2.2]),Y (Y3 (rest.length+8)),x],FC sz T d (voD vs) jo cs ro (rest++[Y5 Z (ps.map cD)])),.c (.non,FC sz T d (voD vs) jo e i b)] ⟨p,F,rfl⟩
  exact⟨w _ _ _ F,U⟩
 refine⟨_,_,_,λsz=>(all sz).1,(all ⟨.non,[],[]⟩).2,.stake ps rfl rfl C,?_,?_,?_⟩
 ·rw[Qzq,Qjg S]
 ·simp
 ·intro c hc;rcases Qql.mp hc with hc|hc
  ·exact .inl hc
  ·cases Qqy.mp hc;rw[(qqq _ _ _).2.2];exact .inr rfl
end
noncomputable def stB(cs:L Cl)(day:J)(n:J):Bool:=match cs.find? λc=>c.nm==n with
 |some c=>decide (stW c day = "stands")
 |none=>Y7
def stB_of(d:(cs.map (·.nm)).Nodup)(hc:c∈cs)(day):stB cs day c.nm=decide (stW c day = "stands"):=by
 have:cs.find? (λx=>x.nm==c.nm)=Y c:=by
  induction cs with
  |nil=>cases hc
  |cons a r f=>
   rw[Qqh,Qzj]at d;rw[Qzy];rcases Qqa.mp hc with rfl|b
   ·simp
   ·have e:(a.nm==c.nm)=false:=by
     rw[beq_eq_false_iff_ne];exact λe=>d.1 (Qqv.mpr ⟨c,b,e.symm⟩)
    rw[e];exact f d.2 b
 unfold stB;rw[this]
structure Pl where
 a:Y1
 f:Y1
 j:Y1
 s:Y1
 b:Y1
 r:Y1
 T:D
 g:D
 e:D
 bo:L (D×D)
noncomputable abbrev Pl.fc(p:Pl)(sz:D)(d:J):Yb:=.obj 642 [("extent",sz),("year",p.T),("day",.int d),("found",.loc p.f),("joints",.loc p.j),("staked",.loc p.s),("dug",p.g),("debts",p.e)]
noncomputable abbrev Pl.sc(p:Pl):Yb:=.obj 273 [("year",p.T),("book",.loc p.b),("row",.loc p.r)]
structure FA (p:Pl) (sz:D) (d:J) (fo jo:L (D×D)) (cs:L Cl) (ro:L J) (S:Y2):Prop where
 hf:S[p.a]?=Y (p.fc sz d)
 hv:S[p.f]?=Y (.dic Z fo)
 hj:S[p.j]?=Y (.dic Z jo)
 hs:S[p.s]?=Y p.sc
 hb:S[p.b]?=Y (.dic Z p.bo)
 hr:S[p.r]?=Y (.lst Z (rowD ro))
 hc:∀c∈cs,∃q x,dget p.bo (.int c.nm)=Y (.loc q)/\S[q]?=Y (c.cel x)
section
variable {p:Pl}{sz:D}{d:J}{fo jo:L (D×D)}{ro:L J}{S:Y2}{cs:L Cl}
def FA.app(A:FA p sz d fo jo cs ro S)(X):FA p sz d fo jo cs ro (S++X):=⟨ga X A.hf,ga X A.hv,ga X A.hj,ga X A.hs,ga X A.hb,ga X A.hr,λc hc=>by obtain⟨q,x,h1,h2⟩:=A.hc c hc; exact⟨q,x,h1,ga X h2⟩⟩
def qfu(m)(A:FA p sz d fo jo cs ro S)(nd:(cs.map (·.nm)).Nodup)(j:∀n∈ro,∃c∈cs,c.nm=n)(o:ro.length<1000):callD fns (m+3) 62 [Y3 p.a] S=Y (Y3 S.length,S++[Y5 Z (rowD (ro.filter (stB cs d)))]):=by
 have f:listAt S p.r=Y (rowD ro):=by unfold listAt; rw[A.hr]
 have k:(RL (callD fns (m+1))).ev [Y (Y3 p.s),Y (O d)] S (.attr 273 (.var 0) "row")=Y (Y3 p.r,S):=qzf 0 [] 1 (λq=>_/\q) [.r p.sc] ⟨A.hs,rfl⟩;have h:=qyw (it:=.attr 273 (.var 0) "row") (elt:=.var 0) (c:=.cmp .Eq (.mcall 191 10 "state" (.didx (.attr 273 (.var 2) "book") (.var 0)) [.var 1]) (.lit (sO "stands"))) (sr:=[B,Y 1,Y 0]) (p:=λx=>match x with|O n=>stB cs d n|_=>Y7) (s:=.lst (Y3 p.r)) id
  (by show((RL (callD fns (m+1))).ev _ _ _).bind _=_; rw[k]; show(listAt S p.r).map _=_; rw[f]; rfl) (qqp f) (qzt f) rfl (by simp; unfold lim; lia)
  (λi x l=>by
   rw[Qqw]at l;obtain⟨n,hn,rfl⟩:=Qqd.mp l;obtain⟨c,hc,rfl⟩:=j n (Qqo hn);obtain⟨q,y,g,b⟩:=A.hc c hc;have a:=qhp m c d b;show _=Y (stB cs d c.nm,_);rw[stB_of nd hc];rcases qxk c d with⟨e,_⟩|⟨e,_⟩|⟨e,_⟩|⟨e,_⟩<;>rw[e]at a ⊢
   ·exact qzl 0 [10] 1 (λq=>_/\_/\_/\_/\_/\q) [.r p.sc,.r (.dic Z p.bo),.q (Y (Y3 q)),.r (c.cel y),.c (sO "unvested",S)] ⟨A.hs,A.hb,g,b,a,rfl⟩
   ·exact qzl 0 [10] 1 (λq=>_/\_/\_/\_/\_/\q) [.r p.sc,.r (.dic Z p.bo),.q (Y (Y3 q)),.r (c.cel y),.c (sO "stands",S)] ⟨A.hs,A.hb,g,b,a,rfl⟩
   ·exact qzl 0 [10] 1 (λq=>_/\_/\_/\_/\_/\q) [.r p.sc,.r (.dic Z p.bo),.q (Y (Y3 q)),.r (c.cel y),.c (sO "given",S)] ⟨A.hs,A.hb,g,b,a,rfl⟩
   ·exact qzl 0 [10] 1 (λq=>_/\_/\_/\_/\_/\q) [.r p.sc,.r (.dic Z p.bo),.q (Y (Y3 q)),.r (c.cel y),.c (sO "fallen",S)] ⟨A.hs,A.hb,g,b,a,rfl⟩)
  (λi x _ _=>qje _ _ _ _ _ rfl)
 have e:((rowD ro).filter λx=>match x with|O n=>stB cs d n|_=>Y7).map id=rowD (ro.filter (stB cs d)):=by
  rw[Qji];unfold rowD;rw[List.filter_map]
  rfl
 rw[e]at h;exact qzz 0 [] 3 (λq=>_/\_/\_/\_/\q) [.r (p.fc sz d),.r p.sc,.r (p.fc sz d),.c (Y3 S.length,S++[Y5 Z (rowD (ro.filter (stB cs d)))])] ⟨A.hf,A.hs,A.hf,h,rfl⟩
noncomputable abbrev clT(c:Cl):D:=.tup [.int c.o,rD c.g,.int c.la,oD c.v,oD c.gv]
def qjj(m)(A:FA p sz d fo jo cs ro S)(hc:c∈cs):callD fns (m+2) 61 [Y3 p.a,O c.nm] S=Y (clT c,S):=by
 obtain⟨q,x,a,h⟩:=A.hc c hc;exact qzz 0 [] 2 (λq=>_/\_/\_/\_/\_/\_/\_/\_/\_/\_/\_/\_/\_/\q) [.r (p.fc sz d),.r p.sc,.r p.sc,.r (.dic Z p.bo),.q (Y (Y3 q)),.r p.sc,.r (.dic Z p.bo),.q (Y (Y3 q)),.r (c.cel x),.r (c.cel x),.r (c.cel x),.r (c.cel x),.r (c.cel x)] ⟨A.hf,A.hs,A.hs,A.hb,a,A.hs,A.hb,a,h,h,h,h,h,rfl⟩
end
def qne{cs a:L Cl}(e:a.map (·.nm)=cs.map (·.nm))(h:∃c∈cs,c.nm=n):∃c∈a,c.nm=n:=by
 have:=Qqv.mpr h;rw[<- e]at this;exact Qqv.mp this
def qev{p:Cl}(h:∃c∈cs,c.nm=n):∃c∈cs++[p],c.nm=n:=by
 obtain⟨c,hc,e⟩:=h;exact⟨c,Qzf _ hc,e⟩
def qj3{Q:Cl->Prop}(h:∀c∈cs,Q c)(a:Q p):∀c∈cs++[p],Q c:=λc hc=>by
 rcases Qql.mp hc with hc|hc
 ·exact h c hc
 ·cases Qqy.mp hc; exact a
def qvc{Q:Cl->Prop}(h:∀c∈cs,Q c)(b:Q c'):∀c∈upd cs c',Q c:=λc hc=>by
 obtain⟨y,a,rfl⟩:=Qqv.mp hc
 by_cases z:y.nm=c'.nm
 ·rw[Z8 z]; exact b
 ·rw[Z7 z]; exact h y a
def vst_o(day)(ps)(c):(vst day ps c).o=c.o:=by
 unfold vst;cases hit day ps c<;>rfl
def op_row(hd:q<day)(R:RowI q cs ro)(h:Op day cs ro i ro'):RowI day i ro':=by
 have b:∀c∈i,c.nm<=day:=λc hc=>by
  rcases (qh6 h).1 c hc with⟨x,a,e⟩|e
  ·have:=R.le x a; lia
  ·lia
 have un:∀{c f:Cl},c∈cs->f.nm=c.nm->f.v=c.v->∀x∈upd cs f,x.v≠B->x.nm∈ro:=λ{c f} hc e hv=>qvc R.in2 λz=>by rw[e]; exact R.in2 c hc (by rw[<- hv]; exact z)
 have l:∀{f:Cl},∀n∈ro,∃c∈upd cs f,c.nm=n:=λ{f} n hn=>qne qye (R.in1 n hn)
 cases h with
 |same=>exact⟨R.in1,R.in2,b,R.ow⟩
 |@upd c f hc e hv g=>exact⟨l,un hc e hv,b,qvc R.ow g⟩
 |vein ps=>
  have nm:(cs.map (vst day ps)).map (·.nm)=cs.map (·.nm):=by
   rw[Qq7];exact Qz6 λc _=>(qqq day ps c).1
  refine⟨λn a=>?_,λx a d=>?_,b,λx a=>?_⟩
  ·rcases Qql.mp a with a|a
   ·exact qne nm (R.in1 n a)
   ·obtain⟨c,hc,e⟩:=Qqv.mp a;exact qne nm ⟨c,(Qxa.mp hc).1,e⟩
  ·obtain⟨y,j,rfl⟩:=Qqv.mp a;rw[(qqq day ps y).1]
   cases k:hit day ps y with
   |true=>exact Qqu _ (Qqv.mpr ⟨y,Qxa.mpr ⟨j,k⟩,rfl⟩)
   |false=>
    have:vst day ps y=y:=by unfold vst; rw[k]; rfl
    rw[this]at d;exact Qzf _ (R.in2 y j d)
  ·obtain⟨y,j,rfl⟩:=Qqv.mp a;unfold Ow;rw[vst_o];exact R.ow y j
 |@stake c ps e hv g=>
  have o:=(qqq day ps c).1.trans e;refine⟨λn a=>?_,λx a d=>?_,b,qj3 R.ow (by unfold Ow; rw[vst_o]; exact g)⟩
  ·rcases Qql.mp a with a|a
   ·exact qev (R.in1 n a)
   ·split at a
    ·exact⟨_,Qqu _ (.head _),o.trans (Qqy.mp a).symm⟩
    ·cases a
  ·rcases Qql.mp a with a|a
   ·exact Qzf _ (R.in2 x a d)
   ·cases Qqy.mp a
    cases k:hit day ps c with
    |true=>exact Qqu _ (by rw[o,Z8 rfl]; exact .head _)
    |false=>
     have:vst day ps c=c:=by unfold vst; rw[k]; rfl
     rw[this]at d;exact absurd hv d
 |@part0 c f p hc e hv g pw pn r m=>exact⟨λn a=>qev (l n a),qj3 (un hc e hv) (λz=>absurd (r.trans m) z),b,qj3 (qvc R.ow g) pw⟩
 |@part1 c f p A Q hc e hv g pw pn hr=>
  subst hr;have ext:∀n,n∈A++c.nm::Q->n∈A++c.nm::day::Q:=λn z=>by
   simp only[Qql,Qqa]at z ⊢;rcases z with z|z|z
   ·exact .inl z
   ·exact .inr (.inl z)
   ·exact .inr (.inr (.inr z))
  refine⟨λn a=>?_,qj3 (λx a z=>ext _ (un hc e hv x a z)) (λ_=>by rw[pn]; simp),b,qj3 (qvc R.ow g) pw⟩;have:n=day\/n∈A++c.nm::Q:=by
   simp only[Qql,Qqa]at a ⊢;rcases a with z|z|z|z
   ·exact .inr (.inl z)
   ·exact .inr (.inr (.inl z))
   ·exact .inl z
   ·exact .inr (.inr (.inr z))
  rcases this with rfl|z
  ·exact⟨p,Qqu _ (.head _),pn⟩
  ·exact qev (l n z)
theorem qv5{ds:L D}{S:Y2}(g:D->Y4 D)(P:Sl->Prop)(b:∀i,it.at S i=Y ds[i]?)(l:ds.length<lim)(hf:∀τ d,d∈ds->P τ->∃a,f τ S d=Y (g d,a,S)/\P a):
  ∀(k i:Y1) (τ:Sl),i+k=ds.length->P τ->loopC it f (k+1) i ((ds.take i).filterMap g) τ S=Y (ds.filterMap g,S)
 |0,i,τ,h,p=>by
  have e:i=ds.length:=by lia
  subst e;rw[loopC,b,Qzm (Qqj _),Qzc];simp only[oBs];rw[Z7 (by have:=Qx6 g ds; lia)]
 |k+1,i,τ,h,p=>by
  have hi:i<ds.length:=by lia
  obtain⟨a,n,m⟩:=hf τ ds[i] (Qxe hi) p;rw[loopC,b,Qqi hi];simp only[oBs];rw[Z7 (by have:=Qx6 g (ds.take i); rw[Qzk]at this; lia),n];have c:=qv5 g P b l hf k (i+1) a (by lia) m;rw[Qzn hi,Qjy]at c;simp only[oBs]
  cases j:g ds[i] with
  |none=>simpa[j] using c
  |some x=>simpa[j] using c
def qqg{ds:L D}(g:D->Y4 D)(P:Sl->Prop)(hs:src (RL c) τ st it=Y (s,st))(b:∀i,s.at st i=Y ds[i]?)(e:s.size st=ds.length)(f:ds.length<lim)(h:P (inner sr τ))(hf:∀τ d,d∈ds->P τ->∃a,turnC (RL c) t test elt τ st d=Y (g d,a,st)/\P a):
  stepEv (RL c) τ st (.comp t it test elt sr)=Y (Y3 st.length,st++[Y5 Z (ds.filterMap g)]):=by
 show((src (RL c) τ st it).bind λp=>(loopC p.1 (turnC (RL c) t test elt) (p.1.size p.2+1) 0 [] (inner sr τ) p.2).map λq=>alloc q.2 (Y5 Z q.1))=_;rw[hs];simp only[oBs,e];have:=qv5 g P b f hf ds.length 0 (inner sr τ) (by lia) h;rw[Qkk,List.filterMap_nil]at this;rw[this]
 rfl
def qkp(h:setT t d τ=Y a)(b:(RL c).ev a st elt=Y (x,st)):turnC (RL c) t B elt τ st d=Y (Y x,a,st):=by
 unfold turnC;rw[h];simp only[oBs,b,oMs]
def turn_if(h:setT t d τ=Y a)(e:(RL c).tst a st q=Y (b,st))(f:b=Z->(RL c).ev a st elt=Y (x,st)):turnC (RL c) t (Y q) elt τ st d=Y (if b then Y x else B,a,st):=by
 unfold turnC;rw[h];simp only[oBs,e]
 cases b with
 |false=>rfl
 |true=>rw[Z8 rfl,f rfl]; rfl
noncomputable def szD(W H P:J):D:=.tup [.int W,.int H,.int P]
noncomputable def bD(W H P:J):L (D×D):=[(sO "day",.tup [.int 1,.int 400]),(sO "folk",.tup [.int 1,.int 40]),(sO "x",.tup [.int 0,.int (W - 1)]),(sO "y",.tup [.int 0,.int (H - 1)]),(sO "floor",.tup [.int 0,.int P]),(sO "below",.tup [.int 1,.int P]),(sO "side",.tup [.int 0,.int 1]),(sO "line",.tup [.int 1,.int 23]),(sO "step",.tup [.int 0,.int 4]),(sO "coins",.tup [.int 1,.int 1000000])]
def Fit(W H P:J)(p:J×String):Prop:=∃lo hi,dget (bD W H P) (sO p.2)=Y (.tup [.int lo,.int hi])/\lo<=p.1/\p.1<=hi
def qna(m)(st)(c:lo<=v)(b:v<=a):callD fns (m+1) 22 [O v,Ya [O lo,O a]] st=Y (.bl Z,st):=
 qzz 0 [] 1 (λq=>_/\_/\q) [.b Z,.b Z] ⟨Z5 c,Z5 b,rfl⟩
def qe2(m)(st)(W H P):callD fns (m+1) 21 [szD W H P] st=Y (Y3 st.length,st++[.dic Z (bD W H P)]):=
 qz1 0 [] 1 (Y3 st.length,(st++[Yb.dic Z []]).set st.length (.dic Z (bD W H P))) (λq=>_/\q) [.r (.dic Z [])] ⟨gl (st:=st) (c:=.dic Z []),by rw[sl]⟩
def qq3(m)(st)(d:L (J×String))(w:d.length<1000)(hf:∀p∈d,Fit W H P p):callD fns (m+2) 23 [szD W H P,.tup (d.map λp=>sO p.2),.tup (d.map λp=>O p.1)] st=Y (.bl Z,st++[.dic Z (bD W H P)]):=by
 have h1:(!((((d.map λp=>D.int p.1).length:Y1):J)==((d.map λp=>sO p.2).length:Y1)))=false:=by simp
 have j:∀i,pairAt (d.map λp=>D.int p.1) (d.map λp=>sO p.2) i=(d.map λp=>D.tup [O p.1,sO p.2])[i]?:=λi=>by
  unfold pairAt;rw[Qqw,Qqw,Qqw];cases d[i]?<;>rfl
 have h:=qqg (t:=.tup [0,1]) (it:=.zip (.var 2) (.var 1)) (sr:=[B,B,Y 3]) (λ_=>Y (.bl Z)) (λτ=>∃a b,τ=[a,b,Y (Y3 st.length)])
  (by
   have u:(RL (callD fns (m+1))).ev [Y (szD W H P),Y (.tup (d.map λp=>sO p.2)),Y (.tup (d.map λp=>O p.1)),Y (Y3 st.length)] (st++[.dic Z (bD W H P)]) (.var 2)=Y (.tup (d.map λp=>O p.1),st++[.dic Z (bD W H P)]):=qje _ _ _ _ _ rfl;have v:(RL (callD fns (m+1))).ev [Y (szD W H P),Y (.tup (d.map λp=>sO p.2)),Y (.tup (d.map λp=>O p.1)),Y (Y3 st.length)] (st++[.dic Z (bD W H P)]) (.var 1)=Y (.tup (d.map λp=>sO p.2),st++[.dic Z (bD W H P)]):=qje _ _ _ _ _ rfl;show((RL (callD fns (m+1))).ev _ _ (.var 2)).bind _=_;rw[u];show((RL (callD fns (m+1))).ev _ _ (.var 1)).bind _=_;rw[v]
   rfl) (λi=>by rw[<- j]; rfl) (by simp[Src.size,rowAt]) (by simp; unfold lim; lia) ⟨B,B,rfl⟩ (λτ x l f=>by
   obtain⟨a,b,rfl⟩:=f;obtain⟨p,f,rfl⟩:=Qqv.mp l;obtain⟨lo,hi,n,o,g⟩:=hf p f;refine⟨[Y (O p.1),Y (sO p.2),Y (Y3 st.length)],?_,Y (O p.1),Y (sO p.2),rfl⟩;have:=qzf (fns:=fns) (k:=m) (τ:=[Y (O p.1),Y (sO p.2),Y (Y3 st.length)]) (st:=st++[.dic Z (bD W H P)]) (e:=.call 22 [.var 0,.didx (.var 2) (.var 1)]) (r:=(.bl Z,st++[.dic Z (bD W H P)])) 0 [22] 1 (λq=>_/\_/\_/\q) [.r (.dic Z (bD W H P)),.q (Y (.tup [O lo,O hi])),.c (.bl Z,st++[.dic Z (bD W H P)])] ⟨gl (st:=st) (c:=.dic Z (bD W H P)),n,qna m (st++[.dic Z (bD W H P)]) o g,rfl⟩
   exact qkp rfl this)
 have s:(d.map λp=>D.tup [O p.1,sO p.2]).filterMap (λ_=>Y (D.bl Z))=(d.map λ_=>Z).map .bl:=by
  rw[Qxf,Qq7];exact Qxp▸rfl
 rw[s]at h;have g:bfun (st++[.dic Z (bD W H P)]) .all [.lst ((d.map λ_=>Z).map .bl)]=Y (.bl Z,st++[.dic Z (bD W H P)]):=by
  show(asBools _).map _=_;rw[asB];exact congrArg (λb=>Y (D.bl b,_)) (by simp)
 exact qzz 0 [21] 2 (λq=>_/\_/\_/\_/\_/\q) [.b Y7,.c (Y3 st.length,st++[.dic Z (bD W H P)]),.c (Y3 (st++[Yb.dic Z (bD W H P)]).length,st++[.dic Z (bD W H P)]++[Y5 Z ((d.map λ_=>Z).map .bl)]),.l ((d.map λ_=>Z).map .bl),.c (.bl Z,st++[.dic Z (bD W H P)])] ⟨h1,qe2 m st W H P,h,qzc (st:=st++[.dic Z (bD W H P)]) (nlB (d.map λ_=>Z)),g,rfl⟩
def tkl{c:Yb}:(st++[c]).take st.length=st:=by simp
def gB(st:Y2)(c):noLoc (.bl Z)=Z/\(st++[c]).take st.length=st:=⟨rfl,tkl⟩
section
def qbb(b:1<=n)(a:n<=400):Fit W H P (n,"day"):=⟨1,400,by kernel_rfl,b,a⟩
def qkh(b:1<=n)(a:n<=40):Fit W H P (n,"folk"):=⟨1,40,by kernel_rfl,b,a⟩
def f_x(a:0<=n)(b:n<W):Fit W H P (n,"x"):=⟨0,W - 1,by kernel_rfl,a,by simp; lia⟩
def f_y(a:0<=n)(b:n<H):Fit W H P (n,"y"):=⟨0,H - 1,by kernel_rfl,a,by simp; lia⟩
def qnd(b:1<=n)(a:n<=P):Fit W H P (n,"below"):=⟨1,P,by kernel_rfl,b,a⟩
def f_side(b:0<=n)(a:n<=1):Fit W H P (n,"side"):=⟨0,1,by kernel_rfl,b,a⟩
def f_line(b:1<=n)(a:n<=23):Fit W H P (n,"line"):=⟨1,23,by kernel_rfl,b,a⟩
def f_step(b:0<=n)(a:n<=4):Fit W H P (n,"step"):=⟨0,4,by kernel_rfl,b,a⟩
def s_work(m)(st)(b:1<=n)(a:n<=400):callD fns (m+3) 29 [szD W H P,Ya [sO "work",O n]] st=Y (.bl Z,st):=
 qzz 0 [23] 3 (λq=>_/\_/\q) [.c (.bl Z,st++[.dic Z (bD W H P)]),.g] ⟨qq3 m st (W:=W) (H:=H) (P:=P) [(n,"day")] (by simp) (by simp only[Qqy,forall_eq]; exact qbb b a),gB st (.dic Z (bD W H P)),rfl⟩
def s_give(m)(st)(b:1<=n)(a:n<=400):callD fns (m+3) 29 [szD W H P,Ya [sO "give",O n]] st=Y (.bl Z,st):=
 qzz 0 [23] 3 (λq=>_/\_/\q) [.c (.bl Z,st++[.dic Z (bD W H P)]),.g] ⟨qq3 m st (W:=W) (H:=H) (P:=P) [(n,"day")] (by simp) (by simp only[Qqy,forall_eq]; exact qbb b a),gB st (.dic Z (bD W H P)),rfl⟩
def s_sell(m)(st)(d:1<=n)(c:n<=400)(b:1<=o)(a:o<=40):callD fns (m+3) 29 [szD W H P,Ya [sO "sell",O n,O o]] st=Y (.bl Z,st):=
 qzz 0 [23] 3 (λq=>_/\_/\q) [.c (.bl Z,st++[.dic Z (bD W H P)]),.g] ⟨qq3 m st (W:=W) (H:=H) (P:=P) [(n,"day"),(o,"folk")] (by simp) (by simp only[Qqa,Qq4,or_false,forall_eq_or_imp,forall_eq]; exact⟨qbb d c,qkh b a⟩),gB st (.dic Z (bD W H P)),rfl⟩
def s_part(m)(st)(h:1<=n)(g:n<=400)(f:0<=s)(e:s<=1)(d:1<=l)(c:l<=23)(b:1<=o)(a:o<=40):callD fns (m+3) 29 [szD W H P,Ya [sO "part",O n,O s,O l,O o]] st=Y (.bl Z,st):=
 qzz 0 [23] 3 (λq=>_/\_/\q) [.c (.bl Z,st++[.dic Z (bD W H P)]),.g] ⟨qq3 m st (W:=W) (H:=H) (P:=P) [(n,"day"),(s,"side"),(l,"line"),(o,"folk")] (by simp) (by simp only[Qqa,Qq4,or_false,forall_eq_or_imp,forall_eq]; exact⟨qbb h g,f_side f e,f_line d c,qkh b a⟩),gB st (.dic Z (bD W H P)),rfl⟩
def s_join(m)(st)(i:1<=a)(h:a<=400)(g:1<=b)(e:b<=400)(d:1<=f)(c:f<=P):callD fns (m+3) 29 [szD W H P,Ya [sO "join",O a,O b,O f]] st=Y (.bl Z,st):=
 qzz 0 [23] 3 (λq=>_/\_/\q) [.c (.bl Z,st++[.dic Z (bD W H P)]),.g] ⟨qq3 m st (W:=W) (H:=H) [(a,"day"),(b,"day"),(f,"below")] (by simp) (by simp only[Qqa,Qq4,or_false,forall_eq_or_imp,forall_eq]; exact⟨qbb i h,qbb g e,qnd d c⟩),gB st (.dic Z (bD W H P)),rfl⟩
def s_stake(m)(st){g:J×J×J×J}(i:1<=o)(h:o<=40)(f:0<=g.1)(e:g.1<=g.2.2.1)(d:g.2.2.1<W)(c:0<=g.2.1)(b:g.2.1<=g.2.2.2)(a:g.2.2.2<H):callD fns (m+3) 29 [szD W H P,Ya [sO "stake",O o,O g.1,O g.2.1,O g.2.2.1,O g.2.2.2]] st=Y (.bl Z,st):=
 qzz 0 [23] 3 (λq=>_/\_/\_/\_/\q) [.c (.bl Z,st++[.dic Z (bD W H P)]),.g,.b Z,.b Z] ⟨qq3 m st (P:=P) [(o,"folk"),(g.1,"x"),(g.2.1,"y"),(g.2.2.1,"x"),(g.2.2.2,"y")] (by simp) (by simp only[Qqa,Qq4,or_false,forall_eq_or_imp,forall_eq]; exact⟨qkh i h,f_x f (by lia),f_y c (by lia),f_x (by lia) d,f_y (by lia) a⟩),gB st (.dic Z (bD W H P)),Z5 e,Z5 b,rfl⟩
def Cin(W H:J)(p:J×J):Prop:=0<=p.1/\p.1<W/\0<=p.2/\p.2<H
def qnp(m)(st)(h:Cin W H p):callD fns (m+3) 24 [szD W H P,cD p] st=Y (.bl Z,st):=
 qzz 0 [23] 3 (λq=>_/\_/\q) [.c (.bl Z,st++[.dic Z (bD W H P)]),.g] ⟨qq3 m st (P:=P) [(p.1,"x"),(p.2,"y")] (by simp) (by simp only[Qqa,Qq4,or_false,forall_eq_or_imp,forall_eq]; exact⟨f_x h.1 h.2.1,f_y h.2.2.1 h.2.2.2⟩),gB st (.dic Z (bD W H P)),rfl⟩
theorem qj0:∀(ks:L (L J)),ks.Nodup->∀S,(S++ks).Nodup->ks.foldl addK S=S++ks
 |[],_,S,_=>by simp
 |k::r,h,S,hS=>by
  rw[Qjb];have:addK S k=S++[k]:=by
   unfold addK;rw[Z7];rw[Qxb]at hS;exact λz=>hS.2.2 k z k (Qq2 ..) rfl
  rw[this,qj0 r (Qzj.mp h).2 (S++[k]) (by simpa using hS)];simp
theorem qix:∀ps:L (J×J),(ps.map cD).mapM keyD=Y (ps.map λp=>[p.1,p.2])
 |[]=>rfl
 |p::r=>by
  rw[Qqh,Qkv,qix r]
  rfl
def qmp{ps:L (J×J)}(d:ps.Nodup)(e:ps.length<=16):qk8 (Ya (ps.map cD))=Y (O (ps.length:J)):=by
 show((ps.map cD).mapM keyD).bind _=_;rw[qix];have h:(ps.map λp=>[p.1,p.2]).Nodup:=by
  refine List.Pairwise.map _ (λa b c z=>c ?_) d;simp only[List.cons.injEq,and_true]at z;exact Prod.ext z.1 z.2
 show(if (ps.map cD).length<=16 then _ else _)=_;rw[Z8 (by simpa using e)];unfold distinct;rw[qj0 _ h [] (by simpa using h)];simp
def s_vein(m)(st){a:L J}{ps:L (J×J)}(A:(a.length:J)=P)(v:a.length<=100)(hs:∀s∈a,0<=s/\s<=4)(C:1<=ps.length)(w:ps.length<=16)(t:ps.Nodup)(hc:∀p∈ps,Cin W H p):callD fns (m+6) 29 [szD W H P,Ya [sO "vein",Ya (a.map O),Ya (ps.map cD)]] st=Y (.bl Z,st):=by
 have d:=qq3 (m+1) st (W:=W) (H:=H) (P:=P) (a.map λs=>(s,"step")) (by simp; lia) (λp g=>by obtain⟨s,e,rfl⟩:=Qqv.mp g; exact f_step (hs s e).1 (hs s e).2);rw[Qq7,Qq7]at d;have z:a.map ((λp:J×String=>sO p.2)∘λs=>(s,"step"))=List.replicate a.length (sO "step"):=by
  rw[List.eq_replicate_iff];refine⟨by simp,λb hb=>?_⟩;obtain⟨s,_,rfl⟩:=Qqv.mp hb
  rfl
 have y:a.map ((λp:J×String=>D.int p.1)∘λs=>(s,"step"))=a.map O:=rfl;rw[z,y]at d;have u:binop st .Mult (Ya [sO "step"]) (O P)=Y (Ya (List.replicate a.length (sO "step")),st):=by
  show(if decide (P < -(2 ^ 62))||decide (2 ^ 62<=P)||decide (lim<1*P.toNat) then B else Y (D.tup (List.replicate P.toNat [sO "step"]).flatten,st))=_;have:P.toNat=a.length:=by lia
  rw[Z7 (by simp; unfold lim; lia),this]
  congr 3
  induction a.length with
  |zero=>rfl
  |succ k r=>rw[Qzs,Qxx,r]; rfl
 have n:decide ((1:J)<=((ps.map cD).length:Y1))=true:=Z5 (by simp; lia);have l:decide (((ps.map cD).length:J)<=16)=true:=Z5 (by simp; lia);have f:=qyv (c:=callD fns (m+3)) (τ:=[Y (szD W H P),Y (Ya (ps.map cD))]) (st:=st) (i:=1) (elt:=.call 24 [Ye 1,Ye 0]) (sr:=[B,Y 0]) ps cD (λ_=>.bl Z) rfl rfl (by unfold lim; lia) rfl λp g=>qzf 0 [24] 3 (λq=>_/\q) [.c (.bl Z,st)] ⟨qnp m st (P:=P) (hc p g),rfl⟩;have x:ps.map (λ_=>D.bl Z)=(ps.map λ_=>Z).map .bl:=by rw[Qq7]; rfl
 rw[x]at f;have o:bfun st .all [Yd ((ps.map λ_=>Z).map .bl)]=Y (.bl Z,st):=by
  show(asBools _).map _=_;rw[asB];exact congrArg (λb=>Y (D.bl b,_)) (by simp)
 have h:qk8 (Ya (ps.map cD))=Y (O ((ps.map cD).length:J)):=by rw[qmp t w]; simp
 have j:(((ps.map cD).length:J)==((ps.map cD).length:Y1))=true:=by simp
 exact qzz 0 [23,24] 6 (λq=>_/\_/\_/\_/\_/\_/\_/\_/\_/\_/\q) [.k,.c (Ya (List.replicate a.length (sO "step")),st),.c (.bl Z,st++[.dic Z (bD W H P)]),.g,.b Z,.b Z,.c (Y3 st.length,st++[Y5 Z ((ps.map λ_=>Z).map .bl)]),.l ((ps.map λ_=>Z).map .bl),.c (.bl Z,st),.i (O ((ps.map cD).length:J)),.b Z] ⟨u,d,gB st (.dic Z (bD W H P)),n,l,f,qzc (st:=st) (nlB (ps.map λ_=>Z)),o,h,j,rfl⟩
end
noncomputable def scr(ns:L J):D:=.lst (ns.map .int)
def modE(a)(h:0<b):∃v,(∀S,binop S .Mod (O a) (O b)=Y (O v,S))/\0<=v/\v<b:=⟨_,λS=>bMo S a h,Int.emod_nonneg _ (by lia),Int.emod_lt_of_pos _ h⟩
def divE(a)(h:0<b)(c:b<2 ^ 64):∃v,∀S,binop S .FloorDiv (O a) (O b)=Y (O v,S):=⟨_,λS=>bDi S a h c⟩
noncomputable def itD:Y1->J->J
 |0,a=>a
 |n+1,a=>itD n a / 10000000000
noncomputable abbrev drT(ns:L J)(k j many cell turn rest:J)(o:Y4 D):Sl:=[Y (scr ns),Y (.int k),Y (.int j),Y (.int many),Y (.int cell),Y (.int turn),Y (.int rest),o,B,B]
def qeb(m)(st)(hj:0<=j)(f:j<100000):∃o,stepEx (RL (callD fns m)) (drT ns k j many cell turn cell B) st (.forr (.var 7) (.rng1 (.var 2)) [.set (.var 6) (.bin .FloorDiv (.var 6) (.bin .Pow (.lit (O 10)) (.lit (O 10))))])=Y (.nx (drT ns k j many cell turn (itD j.toNat cell) o),st):=by
 obtain⟨a,st',e,o,rfl,rfl⟩:=qxp (c:=callD fns m) (τ:=drT ns k j many cell turn cell B) (st:=st) (it:=.rng1 (.var 2)) (s:=.rng 0 j.toNat) (ds:=(List.range j.toNat).map λ(i:Y1)=>D.int (0+i)) (t:=.var 7) (body:=[.set (.var 6) (.bin .FloorDiv (.var 6) (.bin .Pow (.lit (O 10)) (.lit (O 10))))])
  (λi a st'=>∃o,a=drT ns k j many cell turn (itD i cell) o/\st'=st)
  (by
   have e:(RL (callD fns m)).ev (drT ns k j many cell turn cell B) st (.var 2)=Y (O j,st):=qje _ _ _ _ _ rfl;show((RL (callD fns m)).ev _ _ (.var 2)).bind _=_;rw[e];show(if big j=Z then B else Y (Src.rng 0 j.toNat,st))=_
   rw[Z7 (by unfold big; simp; lia)])
  (by simp[Src.size]) (λi _ _ _=>qwn _ _ _) ⟨B,rfl,rfl⟩ (λi a st' d hd h=>by
   obtain⟨o,rfl,rfl⟩:=h;rw[Qqw]at hd;obtain⟨x,_,rfl⟩:=Qqd.mp hd;refine⟨drT ns k j many cell turn (itD i cell / 10000000000) (Y (O (0+x))),st',?_,_,rfl,rfl⟩;show(RL (callD fns m)).ex (drT ns k j many cell turn (itD i cell) (Y (O (0+x)))) st' _=_
   exact qze (k:=m) 0 [] 0 (λq=>_/\q) [.c (O (itD i cell / 10000000000),st')] ⟨bDi st' (itD i cell) (b:=10000000000) (by decide) (by decide),rfl⟩)
 rw[Qqx,Qx9]at e;exact⟨o,e⟩
noncomputable abbrev drZ(o y t z w x u v:J)(S:Y2):Tp:=[.b Z,.b Z,.b Z,.c (.int o,S),.b Z,.c (.int y,S),.c (.int t,S),.c (.int z,S),.b Z,.c (.int w,S),.b Z,.b Z,.c (.int x,S),.c (.int u,S),.c (.int v,S)]
noncomputable abbrev drX(a c t:J)(τ:Sl)(S:Y2)(r:Tp):Tp:=.b Z::.c (.int a,S)::.i (.int c)::.c (.int t,S)::.s (.nx τ,S)::r
def dr0(X:ns.length<=63)(k j)(hj:0<=j)(f:j<100000)(s:0<many):∃v:J,(∀m st,callD fns (m+1) 65 [scr ns,O k,O j,O many] st=Y (O v,st))/\0<=v/\v<many:=by
 obtain⟨cell,c,pre⟩:∃cell c:J,(ns=[]/\cell=0/\c=1)\/(0<((ns.map D.int).length:J)/\∃a,(∀S,binop S .Mod (O k) (O (ns.map D.int).length)=Y (O a,S))/\(∀S,idxD S (scr ns) (O a)=Y (O cell))/\∀S,binop S .FloorDiv (O k) (O (ns.map D.int).length)=Y (O c,S)):=by
  by_cases t:ns=[]
  ·exact⟨0,1,.inl ⟨t,rfl,rfl⟩⟩
  ·have W:=Qxt.mpr t;have d:(ns.map D.int).length=ns.length:=Qqx _;have e:0<((ns.map D.int).length:J):=by lia
   obtain⟨a,h,Q,P⟩:=modE k e;obtain⟨b,h'⟩:=divE k e (by lia);have p:a.toNat<ns.length:=by lia
   exact⟨ns[a.toNat],b,.inr ⟨e,a,h,λS=>by simp only[scr,idxD,seqAt,oBs,atI,ixN,Q,if_true,P,Qqw,Qqi p,oMs],h'⟩⟩
 obtain⟨one,h1,V,U⟩:=modE (cell*7919+k*104729+j*1299709+31) (b:=1000000007) (by decide);obtain⟨y,h2⟩:=divE cell (b:=1009) (by decide) (by decide);obtain⟨two,I,_,_⟩:=modE (one*48271+y) (b:=998244353) (by decide);obtain⟨z,H,T,R⟩:=modE one (b:=9973) (by decide);obtain⟨tw,p,_,_⟩:=modE (two*(z+1)+j) (b:=1000000009) (by decide);obtain⟨w,G⟩:=divE tw (b:=1013) (by decide) (by decide);obtain⟨u,F,_,_⟩:=modE (one*69621+tw*40692+w) (b:=2147483647) (by decide);obtain⟨v,E,i,g⟩:=modE u s;obtain⟨x,N,_,_⟩:=modE (itD j.toNat cell) (b:=10000000000) (by decide);obtain⟨r,K,C,A⟩:=modE x s;have tl:=λst=>(⟨qqd (by decide) (by decide),qqd (by decide) (by decide),qqd (by decide) (by decide),h1 st,qqd (by decide) (by decide),h2 st,I st,H st,qqd (by lia) (by lia),p st,qqd (by decide) (by decide),qqd (by decide) (by decide),G st,F st,E st,rfl⟩:mulOk cell 7919=Z/\mulOk k 104729=Z/\mulOk j 1299709=Z/\_/\mulOk one 48271=Z/\_/\_/\_/\mulOk two (z+1)=Z/\_/\mulOk one 69621=Z/\mulOk tw 40692=Z/\_/\_/\_/\(D.int v,st)=(D.int v,st))
 rcases pre with⟨rfl,rfl,rfl⟩|⟨e,a,p1,p2,l⟩
 ·refine⟨v,λm st=>?_,i,g⟩;obtain⟨o,d⟩:=qeb m st (ns:=[]) (k:=k) (many:=many) (cell:=0) (turn:=1) hj f;exact qzz (k:=m) 0 [] 1 (λq=>_/\_/\_/\_/\_/\_/\_/\_/\_/\_/\_/\_/\_/\_/\_/\_/\_/\_/\q) (.b Y7::.s (.nx (drT [] k j many 0 1 (itD j.toNat 0) o),st)::.b Y7::drZ one y two z tw w u v st) ⟨(rfl:decide ((0:J)<0)=Y7),d,(rfl:((1:J)==0)=Y7),tl st⟩
 ·have n:decide (0<((ns.map D.int).length:J))=true:=Z5 e;have lp:=λm st=>qeb m st (ns:=ns) (k:=k) (many:=many) (cell:=cell) (turn:=c) hj f
  by_cases c1:c=0
  ·by_cases c2:1000000000000000000<=cell
   ·by_cases c3:0<itD j.toNat cell
    ·refine⟨r,λm st=>?_,C,A⟩;obtain⟨o,d⟩:=lp m st;exact qzz (k:=m) 0 [] 1 (λq=>_/\_/\_/\_/\_/\_/\_/\_/\_/\_/\q) (drX a cell c (drT ns k j many cell c (itD j.toNat cell) o) st [.b Z,.b Z,.b Z,.c (O x,st),.c (O r,st)]) ⟨n,p1 st,p2 st,l st,d,beq_iff_eq.mpr c1,Z5 c2,Z5 c3,N st,K st,rfl⟩
    ·refine⟨v,λm st=>?_,i,g⟩;obtain⟨o,d⟩:=lp m st;exact qzz (k:=m) 0 [] 1 (λq=>_/\_/\_/\_/\_/\_/\_/\_/\_/\_/\_/\_/\_/\_/\_/\_/\_/\_/\_/\_/\_/\_/\_/\q) (drX a cell c (drT ns k j many cell c (itD j.toNat cell) o) st (.b Z::.b Z::.b Y7::drZ one y two z tw w u v st)) ⟨n,p1 st,p2 st,l st,d,beq_iff_eq.mpr c1,Z5 c2,Z6 c3,tl st⟩
   ·refine⟨v,λm st=>?_,i,g⟩;obtain⟨o,d⟩:=lp m st;exact qzz (k:=m) 0 [] 1 (λq=>_/\_/\_/\_/\_/\_/\_/\_/\_/\_/\_/\_/\_/\_/\_/\_/\_/\_/\_/\_/\_/\_/\q) (drX a cell c (drT ns k j many cell c (itD j.toNat cell) o) st (.b Z::.b Y7::drZ one y two z tw w u v st)) ⟨n,p1 st,p2 st,l st,d,beq_iff_eq.mpr c1,Z6 c2,tl st⟩
  ·refine⟨v,λm st=>?_,i,g⟩;obtain⟨o,d⟩:=lp m st;exact qzz (k:=m) 0 [] 1 (λq=>_/\_/\_/\_/\_/\_/\_/\_/\_/\_/\_/\_/\_/\_/\_/\_/\_/\_/\_/\_/\_/\q) (drX a cell c (drT ns k j many cell c (itD j.toNat cell) o) st (.b Y7::drZ one y two z tw w u v st)) ⟨n,p1 st,p2 st,l st,d,beq_eq_false_iff_ne.mpr c1,tl st⟩
section
variable {ns:L J}(hn:ns.length<=63)
include hn
theorem dr(m)(st)(k j)(hj:0<=j)(b:j<100000)(c:0<many):∃v:J,callD fns (m+1) 65 [scr ns,O k,O j,O many] st=Y (O v,st)/\0<=v/\v<many:=by
 obtain⟨v,h,a⟩:=dr0 hn k j hj b c;exact⟨v,h m st,a⟩
theorem qly(m)(st)(k):∃W H P:J,callD fns (m+2) 67 [scr ns,O k] st=Y (szD W H P,st)/\1<=W/\W<=24/\1<=H/\H<=24/\0<=P/\P<=12/\(H<=3/\P<=2\/W<=3/\P<=2\/W<=3/\H<=3\/W<=6/\H<=6/\P<=5):=by
 obtain⟨a,h,u,t⟩:=dr hn m st k 0 (many:=6) (by decide) (by decide) (by decide);obtain⟨b,hb,b1,b2⟩:=dr hn m st k 1 (many:=6) (by decide) (by decide) (by decide);obtain⟨c,hc,c1,c2⟩:=dr hn m st k 2 (many:=6) (by decide) (by decide) (by decide);obtain⟨e,g,s,p⟩:=dr hn m st k 3 (many:=12) (by decide) (by decide) (by decide);have n:=qzc (st:=st) (ds:=[Ya [O 24,O (1+(1+b) / 3),O (c / 2)],Ya [O (1+(1+a) / 3),O 24,O (c / 2)]]) rfl;have l:=qzc (st:=st) (ds:=[Ya [O (1+(1+a) / 3),O (1+(1+b) / 3),O 12],Ya [O (1+a),O (1+b),O c]]) rfl;have j:=qzc (st:=st) (ds:=[Ya [O 24,O (1+(1+b) / 3),O (c / 2)],Ya [O (1+(1+a) / 3),O 24,O (c / 2)],Ya [O (1+(1+a) / 3),O (1+(1+b) / 3),O 12],Ya [O (1+a),O (1+b),O c]]) rfl;have d:∀(i:J) (r:D),(if decide (e<3) then e else 3)=i->idxD st (Yd [Ya [O 24,O (1+(1+b) / 3),O (c / 2)],Ya [O (1+(1+a) / 3),O 24,O (c / 2)],Ya [O (1+(1+a) / 3),O (1+(1+b) / 3),O 12],Ya [O (1+a),O (1+b),O c]]) (O i)=Y r->callD fns (m+2) 67 [scr ns,O k] st=Y (r,st):=λi r hi hr=>by
  rw[<- hi]at hr
  by_cases f:e<3
  ·rw[Z5 f]at hr;exact qzz 0 [65] 2 (λq=>_/\_/\_/\_/\_/\_/\_/\_/\_/\q) [.c (O a,st),.c (O b,st),.c (O c,st),.l [Ya [O 24,O (1+(1+b) / 3),O (c / 2)],Ya [O (1+(1+a) / 3),O 24,O (c / 2)]],.l [Ya [O (1+(1+a) / 3),O (1+(1+b) / 3),O 12],Ya [O (1+a),O (1+b),O c]],.k,.l [Ya [O 24,O (1+(1+b) / 3),O (c / 2)],Ya [O (1+(1+a) / 3),O 24,O (c / 2)],Ya [O (1+(1+a) / 3),O (1+(1+b) / 3),O 12],Ya [O (1+a),O (1+b),O c]],.c (O e,st),.b Z,.i r] ⟨h,hb,hc,n,l,j,g,Z5 f,hr,rfl⟩
  ·rw[Z6 f]at hr;exact qzz 0 [65] 2 (λq=>_/\_/\_/\_/\_/\_/\_/\_/\_/\q) [.c (O a,st),.c (O b,st),.c (O c,st),.l [Ya [O 24,O (1+(1+b) / 3),O (c / 2)],Ya [O (1+(1+a) / 3),O 24,O (c / 2)]],.l [Ya [O (1+(1+a) / 3),O (1+(1+b) / 3),O 12],Ya [O (1+a),O (1+b),O c]],.k,.l [Ya [O 24,O (1+(1+b) / 3),O (c / 2)],Ya [O (1+(1+a) / 3),O 24,O (c / 2)],Ya [O (1+(1+a) / 3),O (1+(1+b) / 3),O 12],Ya [O (1+a),O (1+b),O c]],.c (O e,st),.b Y7,.i r] ⟨h,hb,hc,n,l,j,g,Z6 f,hr,rfl⟩
 by_cases o:e=0
 ·exact⟨24,1+(1+b) / 3,c / 2,d 0 _ (by subst o; rfl) rfl,by lia,by lia,by lia,by lia,by lia,by lia,by lia⟩
 ·by_cases h1:e=1
  ·exact⟨1+(1+a) / 3,24,c / 2,d 1 _ (by subst h1; rfl) rfl,by lia,by lia,by lia,by lia,by lia,by lia,by lia⟩
  ·by_cases h2:e=2
   ·exact⟨1+(1+a) / 3,1+(1+b) / 3,12,d 2 _ (by subst h2; rfl) rfl,by lia,by lia,by lia,by lia,by lia,by lia,by lia⟩
   ·exact⟨1+a,1+b,c,d 3 _ (by rw[Z6 (by lia)]; rfl) rfl,by lia,by lia,by lia,by lia,by lia,by lia,by lia⟩
theorem qi8(m)(st)(k):∃T:J,callD fns (m+2) 68 [scr ns,O k] st=Y (O T,st)/\1<=T/\T<=400:=by
 obtain⟨a,e,i,f⟩:=dr hn m st k 5 (many:=400) (by decide) (by decide) (by decide);obtain⟨b,hb,b1,b2⟩:=dr hn m st k 4 (many:=4) (by decide) (by decide) (by decide);have g:=qzc (st:=st) (ds:=[O (1+a),O (1+a % 4),O (4+a % 50),O (4+a % 50)]) rfl;have c:∀T:J,idxD st (Yd [O (1+a),O (1+a % 4),O (4+a % 50),O (4+a % 50)]) (O b)=Y (O T)->callD fns (m+2) 68 [scr ns,O k] st=Y (O T,st):=λT h=>
  qzz 0 [65] 2 (λq=>_/\_/\_/\_/\q) [.c (O a,st),.l [O (1+a),O (1+a % 4),O (4+a % 50),O (4+a % 50)],.c (O b,st),.i (O T)] ⟨e,g,hb,h,rfl⟩
 have d:b=0\/b=1\/b=2\/b=3:=by lia
 rcases d with rfl|rfl|rfl|rfl
 ·exact⟨1+a,c _ rfl,by lia,by lia⟩
 ·exact⟨1+a % 4,c _ rfl,by lia,by lia⟩
 ·exact⟨4+a % 50,c _ rfl,by lia,by lia⟩
 ·exact⟨4+a % 50,c _ rfl,by lia,by lia⟩
theorem qwu(m)(st)(k j)(hj:0<=j)(l:j<1000)(f:0<W)(i:0<H):∃g:J×J×J×J,callD fns (m+2) 69 [scr ns,O k,O j,O W,O H] st=Y (rD g,st)/\0<=g.1/\g.1<=g.2.2.1/\g.2.2.1<W/\0<=g.2.1/\g.2.1<=g.2.2.2/\g.2.2.2<H:=by
 obtain⟨a,o,t,s⟩:=dr hn m st k j hj (by lia) f;obtain⟨b,hb,b1,b2⟩:=dr hn m st k (j+1) (by lia) (by lia) f;obtain⟨c,hc,c1,c2⟩:=dr hn m st k (j+2) (by lia) (by lia) i;obtain⟨e,n,r,p⟩:=dr hn m st k (j+3) (by lia) (by lia) i;have d:∀x y:J,bfun st .sorted [Yd [O x,O y]]=Y (Y3 st.length,st++[Y5 Z [O (min x y),O (max x y)]]):=λx y=>by
  show Y (alloc st (Y5 Z ((sortInt [x,y]).map O)))=_;have:sortInt [x,y]=[min x y,max x y]:=by
   show(if x<=y then [x,y] else [y,x])=_
   by_cases h:x<=y
   ·rw[Z8 h,Int.min_eq_left h,Int.max_eq_right h]
   ·rw[Z7 h,Int.min_eq_right (by lia),Int.max_eq_left (by lia)]
  rw[this]
  rfl
 refine⟨(min a b,min c e,max a b,max c e),?_,by simp only; lia,by simp only; lia,by simp only; lia,by simp only; lia,by simp only; lia,by simp only; lia⟩;exact qzz 0 [65] 2 (λq=>_/\_/\_/\_/\_/\_/\_/\_/\_/\_/\q) [.c (O a,st),.c (O b,st),.l [O a,O b],.c (Y3 st.length,st++[Y5 Z [O (min a b),O (max a b)]]),.l [O (min a b),O (max a b)],.c (O c,st),.c (O e,st),.l [O c,O e],.c (Y3 st.length,st++[Y5 Z [O (min c e),O (max c e)]]),.l [O (min c e),O (max c e)]] ⟨o,hb,qzc (st:=st) (ds:=[O a,O b]) rfl,d a b,qzc (st:=st) (ds:=[O (min a b),O (max a b)]) rfl,hc,n,qzc (st:=st) (ds:=[O c,O e]) rfl,d c e,qzc (st:=st) (ds:=[O (min c e),O (max c e)]) rfl,rfl⟩
theorem qvd(m)(st)(k j)(hj:0<=j)(c:j<1000):∃o:J,callD fns (m+2) 72 [scr ns,O k,O j] st=Y (O o,st)/\1<=o/\o<=40:=by
 obtain⟨a,d,f,e⟩:=dr hn m st k (j+1) (many:=6) (by lia) (by lia) (by decide);have g:=qzc (st:=st) (ds:=[O 40,O 4,O 4,O 4,O 4,O 4]) rfl;have ⟨w,hw,w1,w2⟩:∃w:J,idxD st (Yd [O 40,O 4,O 4,O 4,O 4,O 4]) (O a)=Y (O w)/\0<w/\w<=40:=by
  have:a=0\/a=1\/a=2\/a=3\/a=4\/a=5:=by lia
  rcases this with rfl|rfl|rfl|rfl|rfl|rfl
  ·exact⟨40,rfl,by decide,by decide⟩
  all_goals exact⟨4,rfl,by decide,by decide⟩
 obtain⟨b,hb,b1,b2⟩:=dr hn m st k j hj (by lia) w1;exact⟨1+b,qzz 0 [65] 2 (λq=>_/\_/\_/\_/\q) [.l [O 40,O 4,O 4,O 4,O 4,O 4],.c (O a,st),.i (O w),.c (O b,st)] ⟨g,d,hw,hb,rfl⟩,by lia,by lia⟩
theorem qw0(m)(st)(k j)(hj:0<=j)(l:j<1000){xs:L J}(i:∀x∈xs,1<=x/\x<=400):∃n:J,callD fns (m+2) 73 [scr ns,O k,O j,Yd (xs.map O)] st=Y (O n,st)/\1<=n/\n<=400:=by
 obtain⟨b,hb,b1,b2⟩:=dr hn m st k (j+1) (many:=400) (by lia) (by lia) (by decide)
 by_cases f:xs=[]
 ·subst f;exact⟨1+b,qzz 0 [65] 2 (λq=>_/\q) [.k,.c (O b,st)] ⟨hb,rfl⟩,by lia,by lia⟩
 ·have o:=Qxt.mpr f;have h:(((xs.map D.int).length:J)==0)=false:=by
   rw[beq_eq_false_iff_ne];simp;exact f
  obtain⟨a,g,r,p⟩:=dr hn m st k j (many:=14) (by lia) (by lia) (by decide)
  by_cases h1:a=0
  ·exact⟨1+b,qzz 0 [65] 2 (λq=>_/\_/\_/\_/\q) [.b Y7,.c (O a,st),.b Z,.c (O b,st)] ⟨h,g,(show(a==0)=Z by simpa using h1),hb,rfl⟩,by lia,by lia⟩
  ·obtain⟨c,hc,c1,c2⟩:=dr hn m st k (j+1) (many:=((xs.map D.int).length:J)) (by lia) (by lia) (by simp; lia);rw[Qqx]at c2;have hi:c.toNat<xs.length:=by lia
   have d:=i xs[c.toNat] (Qxe hi);have e:idxD st (Yd (xs.map O)) (O c)=Y (O xs[c.toNat]):=by
    show atI (xs.map D.int) c=_;unfold atI ixN;rw[Z8 c1,Z8 (by simpa using c2)];simp[Qqi hi]
   exact⟨xs[c.toNat],qzz 0 [65] 2 (λq=>_/\_/\_/\_/\_/\q) [.b Y7,.c (O a,st),.b Y7,.c (O c,st),.i (O xs[c.toNat])] ⟨h,g,(show(a==0)=Y7 by simpa using h1),hc,e,rfl⟩,d.1,d.2⟩
end
section
variable {ns:L J}(hn:ns.length<=63)
include hn
omit hn in
noncomputable def stT(d:J):Int:=[0,1,2,3,4,0,0].getD d.toNat 0
theorem qft(m)(st)(k j)(hj:0<=j)(u:j<1000)(w:0<=P)(p:P<=12):∃f:L J,callD fns (m+2) 70 [scr ns,O k,O j,O P] st=Y (.tup (f.map O),st)/\(f.length:J)=P/\∀s∈f,0<=s/\s<=4:=by
 obtain⟨c,o⟩:=Classical.axiomOfChoice (λx:J=>show ∃v:J,(0<=x->x<100000->∀m st,callD fns (m+1) 65 [scr ns,O k,O x,O 7] st=Y (O v,st))/\0<=v/\v<7 by
  by_cases h:0<=x/\x<100000
  ·obtain⟨v,a,b⟩:=dr0 hn k x (many:=7) h.1 h.2 (by decide);exact⟨v,λ_ _=>a,b⟩
  ·exact⟨0,λp h2=>absurd ⟨p,h2⟩ h,by decide⟩)
 have hr:(List.range P.toNat).map (λ(i:Y1)=>D.int (0+i))=(List.range P.toNat).map λ(i:Y1)=>D.int i:=Qz6 λi _=>by simp
 have h:=qqg (t:=.var 0) (it:=.rng1 (.var 3)) (elt:=.idx (.gc (.lst [.lit (O 0),.lit (O 1),.lit (O 2),.lit (O 3),.lit (O 4),.lit (O 0),.lit (O 0)])) (.call 65 [.var 3,.var 2,.bin .Add (.var 1) (.var 0),.lit (O 7)])) (sr:=[B,Y 2,Y 1,Y 0]) (λd=>match d with|O i=>Y (O (stT (c (j+i))))|_=>B) (λτ=>∃a,τ=[a,Y (O j),Y (O k),Y (scr ns)])
  (by
   have e:(RL (callD fns (m+1))).ev [Y (scr ns),Y (O k),Y (O j),Y (O P)] st (.var 3)=Y (O P,st):=qje _ _ _ _ _ rfl;show((RL (callD fns (m+1))).ev _ _ (.var 3)).bind _=_;rw[e];show(if big P=Z then B else Y (Src.rng 0 P.toNat,st))=_
   rw[Z7 (by unfold big; simp; lia)])
  (λi=>by rw[qwn,hr]) (by simp[Src.size]) (by simp; unfold lim; lia) ⟨B,rfl⟩ (λτ d hd r=>by
   obtain⟨a,rfl⟩:=r;obtain⟨i,hi,rfl⟩:=Qqv.mp hd;have hi:=Qzl.mp hi;refine⟨[Y (O (i:Y1)),Y (O j),Y (O k),Y (scr ns)],?_,Y (O (i:Y1)),rfl⟩;obtain⟨hd,l,g⟩:=o (j+(i:Y1));have hd:=hd (by lia) (by lia) m st;have n:idxD st (.lst [O 0,O 1,O 2,O 3,O 4,O 0,O 0]) (O (c (j+(i:Y1))))=Y (O (stT (c (j+(i:Y1))))):=by
    generalize c (j+(i:Y1))=v at l g ⊢;have:v=0\/v=1\/v=2\/v=3\/v=4\/v=5\/v=6:=by lia
    rcases this with rfl|rfl|rfl|rfl|rfl|rfl|rfl<;>rfl
   exact qkp rfl (qzf 0 [65] 1 (λq=>_/\_/\_/\q) [.l [O 0,O 1,O 2,O 3,O 4,O 0,O 0],.c (O (c (j+(i:Y1))),st),.i (O (stT (c (j+(i:Y1)))))] ⟨qzc (st:=st) (ds:=[O 0,O 1,O 2,O 3,O 4,O 0,O 0]) rfl,hd,n,rfl⟩))
 have e:((List.range P.toNat).map λ(i:Y1)=>D.int i).filterMap (λd=>match d with|O i=>Y (D.int (stT (c (j+i))))|_=>B)=((List.range P.toNat).map λ(i:Y1)=>stT (c (j+(i:Y1)))).map O:=by
  rw[Qxf,Qq7];exact Qxp▸rfl
 rw[e]at h;refine⟨(List.range P.toNat).map λ(i:Y1)=>stT (c (j+(i:Y1))),qzz 0 [] 2 (λq=>_/\_/\q) [.c (Y3 st.length,st++[Y5 Z (((List.range P.toNat).map λ(i:Y1)=>stT (c (j+(i:Y1)))).map O)]),.l (((List.range P.toNat).map λ(i:Y1)=>stT (c (j+(i:Y1)))).map O)] ⟨h,qzc (st:=st) (nlI ((List.range P.toNat).map λ(i:Y1)=>stT (c (j+(i:Y1))))),rfl⟩,by simp; lia,λs hs=>?_⟩;obtain⟨i,_,rfl⟩:=Qqv.mp hs;obtain⟨_,l,g⟩:=o (j+(i:Y1));generalize c (j+(i:Y1))=v at l g ⊢;have:v=0\/v=1\/v=2\/v=3\/v=4\/v=5\/v=6:=by lia
 rcases this with rfl|rfl|rfl|rfl|rfl|rfl|rfl<;>decide
omit hn in
theorem flat_c(ps:L (J×J)):flats 9 (ps.map cD)=true:=by
 induction ps with
 |nil=>rfl
 |cons p r a=>show(flat 9 (cD p)&&flats 9 (r.map cD))=Z; rw[a]; rfl
omit hn in
theorem any_c(ps:L (J×J))(p):((ps.map cD).any λy=>eqT y (cD p))=decide (p∈ps):=by
 induction ps with
 |nil=>rfl
 |cons a r b=>
  have e:eqT (cD a) (cD p)=decide (p=a):=by
   show((a.1==p.1)&&((a.2==p.2)&&Z))=_;rw[Qxr,Qxz];simp only[Qqn,beq_iff_eq,decide_eq_true_eq];exact⟨λh=>Prod.ext h.1.symm h.2.symm,λh=>by rw[h]; exact⟨rfl,rfl⟩⟩
  rw[Qqh,Qz2,b,e];simp only[Qqa]
  by_cases h1:p=a<;>by_cases h2:p∈r<;>simp[h1,h2]
theorem qmy(m)(st)(k j)(hj:0<=j)(a0:j<1000)(w1:1<=W)(T:W<=24)(h1:1<=H)(h2:H<=24):∃ps:L (J×J),callD fns (m+2) 71 [scr ns,O k,O j,szD W H P] st=Y (.tup (ps.map cD),st++[Y5 Z (ps.map cD)])/\1<=ps.length/\ps.length<=16/\ps.Nodup/\∀p∈ps,Cin W H p:=by
 have hc:0<W*H:=Int.mul_pos (by lia) (by lia);have a3:=Int.mul_le_mul T h2 (by lia) (by lia);obtain⟨f,hf,f1,f2⟩:=dr hn m st k j hj (by lia) hc;obtain⟨g,hg,g1,g2⟩:=dr hn m st k (j+1) (by lia) (by lia) hc;obtain⟨a,K,a1,a2⟩:=dr hn m (st++[Y5 Z []]) k (j+2) (many:=4) (by lia) (by lia) (by decide);have ⟨w,hw,S,x2⟩:∃w:J,idxD (st++[Y5 Z []]) (.lst [O 16,O 4,O 4,O 4]) (O a)=Y (O w)/\0<w/\w<=16:=by
  have:a=0\/a=1\/a=2\/a=3:=by lia
  rcases this with rfl|rfl|rfl|rfl
  ·exact⟨16,rfl,by decide,by decide⟩
  all_goals exact⟨4,rfl,by decide,by decide⟩
 obtain⟨b,hb,b1,b2⟩:=dr hn m (st++[Y5 Z []]) k (j+3) (by lia) (by lia) S;have I:(RL (callD fns (m+1))).ev [Y (scr ns),Y (O k),Y (O j),Y (szD W H P),Y (O (W*H)),Y (O f),Y (O (1+g)),Y (Y3 st.length),B,B] (st++[Y5 Z []]) (.bin .Add (.lit (O 1)) (.call 65 [.var 0,.var 1,.bin .Add (.var 2) (.lit (O 3)),.idx (.gc (.lst [.lit (O 16),.lit (O 4),.lit (O 4),.lit (O 4)])) (.call 65 [.var 0,.var 1,.bin .Add (.var 2) (.lit (O 2)),.lit (O 4)])]))=Y (O (1+b),st++[Y5 Z []]):=
  qzf 0 [65] 1 (λq=>_/\_/\_/\_/\q) [.l [O 16,O 4,O 4,O 4],.c (O a,st++[Y5 Z []]),.i (O w),.c (O b,st++[Y5 Z []])] ⟨qzc (st:=st++[Y5 Z []]) (ds:=[O 16,O 4,O 4,O 4]) rfl,K,hw,hb,rfl⟩
 obtain⟨h,st',h3,k',o,D,ps,rfl,rfl,p1,p2,C,A⟩:=qxp (st:=st++[Y5 Z []]) (it:=.rng1 (.bin .Add (.lit (O 1)) (.call 65 [.var 0,.var 1,.bin .Add (.var 2) (.lit (O 3)),.idx (.gc (.lst [.lit (O 16),.lit (O 4),.lit (O 4),.lit (O 4)])) (.call 65 [.var 0,.var 1,.bin .Add (.var 2) (.lit (O 2)),.lit (O 4)])]))) (t:=.var 8)
  (body:=[.set (.var 9) (.bin .Mod (.bin .Add (.var 5) (.bin .Mult (.var 8) (.var 6))) (.var 4)),.ite (.cmp .NotIn (.tup [.bin .Mod (.var 9) (.idx (.var 3) (.lit (O 0))),.bin .FloorDiv (.var 9) (.idx (.var 3) (.lit (O 0)))]) (.var 7)) [.expr (.meth (.var 7) .append [.tup [.bin .Mod (.var 9) (.idx (.var 3) (.lit (O 0))),.bin .FloorDiv (.var 9) (.idx (.var 3) (.lit (O 0)))]])] []])
  (λi h st'=>i<=(1+b).toNat/\∃o D ps,h=[Y (scr ns),Y (O k),Y (O j),Y (szD W H P),Y (O (W*H)),Y (O f),Y (O (1+g)),Y (Y3 st.length),o,D]/\st'=st++[Y5 Z ((ps:L (J×J)).map cD)]/\ps.length<=i/\(0<i->1<=ps.length)/\ps.Nodup/\∀p∈ps,Cin W H p)
  (by
   show((RL (callD fns (m+1))).ev _ _ _).bind _=_;rw[I];show(if big (1+b)=Z then B else Y (Src.rng 0 (1+b).toNat,_))=_
   rw[Z7 (by unfold big; simp; lia)])
  (by simp[Src.size]) (λi h st' _=>qwn _ _ _) ⟨Qq8 _,B,B,[],rfl,rfl,by simp,by simp,List.nodup_nil,by simp⟩ (λi h st' d hd s=>by
   obtain⟨_,o,D,ps,rfl,rfl,p1,p2,C,A⟩:=s;rw[Qqw]at hd;obtain⟨i',u,rfl⟩:=Qqd.mp hd;have G:i<(1+b).toNat:=by
    have:=(Qqk.mp u).1;simpa using this
   rw[Qxs G]at u;cases u;generalize n:(f+(0+(i:J))*(1+g)) % (W*H)=pl;have X:0<=pl:=by rw[<- n]; exact Int.emod_nonneg _ (by lia)
   have V:pl<W*H:=by rw[<- n]; exact Int.emod_lt_of_pos _ hc
   have Q:mulOk (0+(i:J)) (1+g)=true:=qqd (by lia) (by lia);have N:binop (st++[Y5 Z (ps.map cD)]) .Mod (O (f+(0+(i:J))*(1+g))) (O (W*H))=Y (O pl,st++[Y5 Z (ps.map cD)]):=by rw[bMo _ _ hc,n]
   have F:binop (st++[Y5 Z (ps.map cD)]) .Mod (O pl) (O W)=Y (O (pl % W),st++[Y5 Z (ps.map cD)]):=bMo _ _ (by lia);have E:binop (st++[Y5 Z (ps.map cD)]) .FloorDiv (O pl) (O W)=Y (O (pl / W),st++[Y5 Z (ps.map cD)]):=bDi _ _ (by lia) (by lia);have R:=gl (st:=st) (c:=Y5 Z (ps.map cD));have l:cmpD (st++[Y5 Z (ps.map cD)]) .NotIn (cD (pl % W,pl / W)) (Y3 st.length)=Y (!decide ((pl % W,pl / W)∈ps)):=by
    have e:inD (st++[Y5 Z (ps.map cD)]) (cD (pl % W,pl / W)) (Y3 st.length)=Y (decide ((pl % W,pl / W)∈ps)):=by
     show(seqAt (st++[Y5 Z (ps.map cD)]) (Y3 st.length)).bind _=_;have:seqAt (st++[Y5 Z (ps.map cD)]) (Y3 st.length)=Y (ps.map cD):=by show listAt _ _=_; unfold listAt; rw[gl]
     rw[this];show(if flat 9 (cD (pl % W,pl / W))&&flats 9 (ps.map cD) then Y ((ps.map cD).any λy=>eqT y (cD (pl % W,pl / W))) else B)=_;rw[flat_c,any_c]
     rfl
    show(inD _ _ _).map (!·)=_;rw[e]
    rfl
   by_cases v:(pl % W,pl / W)∈ps
   ·rw[Z5 v]at l;refine⟨_,_,qze 0 [] 1 (λq=>_/\_/\_/\_/\_/\q) [.b Z,.c (O pl,st++[Y5 Z (ps.map cD)]),.c (O (pl % W),st++[Y5 Z (ps.map cD)]),.c (O (pl / W),st++[Y5 Z (ps.map cD)]),.b Y7] ⟨Q,N,F,E,l,rfl⟩,by lia,Y (O (0+(i:J))),Y (O pl),ps,rfl,rfl,by lia,λ_=>Qxt.mpr (λz=>by rw[z]at v; cases v),C,A⟩
   ·rw[Z6 v]at l;have x:(ps.map cD).length<lim:=by rw[Qqx]; unfold lim; lia
    refine⟨_,_,qze 0 [] 1 (λq=>_/\_/\_/\_/\_/\_/\_/\_/\_/\_/\q) [.b Z,.c (O pl,st++[Y5 Z (ps.map cD)]),.c (O (pl % W),st++[Y5 Z (ps.map cD)]),.c (O (pl / W),st++[Y5 Z (ps.map cD)]),.b Z,.r (Y5 Z (ps.map cD)),.c (O (pl % W),st++[Y5 Z (ps.map cD)]),.c (O (pl / W),st++[Y5 Z (ps.map cD)]),.r (Y5 Z (ps.map cD)),.b Z] (r:=(.nx [Y (scr ns),Y (O k),Y (O j),Y (szD W H P),Y (O (W*H)),Y (O f),Y (O (1+g)),Y (Y3 st.length),Y (O (0+(i:J))),Y (O pl)],(st++[Yb.lst Z (ps.map cD)]).set st.length (Y5 Z (ps.map cD++[cD (pl % W,pl / W)])))) ⟨Q,N,F,E,l,R,F,E,R,Z5 x,rfl⟩,by lia,Y (O (0+(i:J))),Y (O pl),ps++[(pl % W,pl / W)],rfl,by rw[sl]; simp,by simp; lia,λ_=>by simp,?_,λp s=>?_⟩
    ·rw[Qxb];exact⟨C,by simp,λa K b hb=>by cases Qqy.mp hb; exact λz=>v (z▸K)⟩
    ·rcases Qql.mp s with s|s
     ·exact A p s
     ·cases Qqy.mp s;refine⟨Int.emod_nonneg _ (by lia),Int.emod_lt_of_pos _ (by lia),Int.ediv_nonneg X (by lia),?_⟩
      exact Int.ediv_lt_of_lt_mul (by lia) (by rw[Int.mul_comm]; exact V))
 rw[Qqx,Qx9]at p1 p2 k';refine⟨ps,?_,p2 (by lia),by lia,C,A⟩;have U:mulOk W H=true:=qqd (by lia) (by lia);exact qzz 0 [65] 2 (λq=>_/\_/\_/\_/\_/\q) [.b Z,.c (O f,st),.c (O g,st),.s (.nx [Y (scr ns),Y (O k),Y (O j),Y (szD W H P),Y (O (W*H)),Y (O f),Y (O (1+g)),Y (Y3 st.length),o,D],st++[Y5 Z (ps.map cD)]),.r (Y5 Z (ps.map cD))] ⟨U,hf,hg,h3,gl (st:=st) (c:=Y5 Z (ps.map cD)),rfl⟩
end
inductive DF (W H P:J):D->Prop
 |vein {ss:L J}{ps:L (J×J)}(hP:(ss.length:J)=P) (hP2:ss.length<=100) (hs:∀s∈ss,0<=s/\s<=4) (h1:1<=ps.length) (h2:ps.length<=16) (hn:ps.Nodup) (hc:∀p∈ps,Cin W H p):DF W H P (.tup [sO "vein",.tup (ss.map .int),.tup (ps.map cD)])
 |join {a b f:J}(h1:1<=a) (h2:a<=400) (h3:1<=b) (h4:b<=400) (h5:1<=f) (h6:f<=P):DF W H P (.tup [sO "join",.int a,.int b,.int f])
 |stake {o:J}{g:J×J×J×J}(h1:1<=o) (h2:o<=40) (x0:0<=g.1) (x1:g.1<=g.2.2.1) (x2:g.2.2.1<W) (y0:0<=g.2.1) (y1:g.2.1<=g.2.2.2) (y2:g.2.2.2<H):DF W H P (.tup [sO "stake",.int o,.int g.1,.int g.2.1,.int g.2.2.1,.int g.2.2.2])
 |claim {f:D}(h:CF' f) (hs:∀m st,callD fns (m+6) 29 [szD W H P,f] st=Y (.bl Z,st)):DF W H P f
def DF.sound(h:DF W H P f)(m)(st):callD fns (m+6) 29 [szD W H P,f] st=Y (.bl Z,st):=by
 cases h with
 |vein j a hs h1 h2 hn hc=>exact s_vein m st j a hs h1 h2 hn hc
 |join h1 h2 o n l k=>exact s_join (m+3) st h1 h2 o n l k
 |stake h1 h2 i g e d c b=>exact s_stake (m+3) st h1 h2 i g e d c b
 |claim h hs=>exact hs m st
noncomputable def wIs(f:D)(ws:L String):Bool:=match f with
 |.tup (.str z::_)=>ws.any λw=>MS.sq z (Str.ofString w)
 |_=>Y7
noncomputable def pD(p:J×D):D:=.tup [.int p.1,p.2]
def qdj(ps:L (J×J)):noLoc (Ya (ps.map cD))=true:=by rw[qv2]; exact qzi λ_ _=>rfl
def gT(st)(ps:L (J×J)):noLoc (Ya (ps.map cD))=Z/\(st++[Yb.lst Z (ps.map cD)]).take st.length=st:=⟨qdj ps,tkl⟩
section
variable {ns:L J}(hn:ns.length<=63){W H P:J}(w1:1<=W)(w2:W<=24)(h1:1<=H)(h2:H<=24)(p0:0<=P)(p1:P<=12)
include hn w1 w2 h1 h2 p0 p1
theorem qin(m)(st)(k):∃f,callD fns (m+3) 74 [scr ns,O k,szD W H P] st=Y (f,st)/\DF W H P f:=by
 obtain⟨a,hs,c,b⟩:=qft hn m st k 8 (by decide) (by decide) p0 p1;obtain⟨ps,i,h,g,e,d⟩:=qmy hn m st k 1 (P:=P) (by decide) (by decide) w1 w2 h1 h2;exact⟨_,qzz 0 [70,71] 3 (λq=>_/\_/\_/\q) [.c (Ya (a.map O),st),.c (Ya (ps.map cD),st++[Y5 Z (ps.map cD)]),.g] ⟨hs,i,gT st ps,rfl⟩,.vein c (by lia) b h g e d⟩
theorem qhd(m)(st)(k d)(G:0<=d)(F:d<8){xs:L J}(A:∀x∈xs,1<=x/\x<=400):∃f,callD fns (m+3) 75 [scr ns,O k,O d,szD W H P,Yd (xs.map O)] st=Y (f,st)/\DF W H P f:=by
 obtain⟨c,hc,c1,c2⟩:=qw0 hn m st k 1 (by decide) (by decide) A;obtain⟨o,p,t,r⟩:=qvd hn m st k 3 (by decide) (by decide);obtain⟨s,hs,z,I⟩:=dr hn (m+1) st k 5 (many:=2) (by decide) (by decide) (by decide);have ⟨l,j,u,y,b,hb,D⟩:∃l:J,(∃v:J,callD fns (m+2) 65 [scr ns,O k,O 6,O v] st=Y (O l,st)/\v=(if decide ((if s=0 then W else H)<23) then(if s=0 then W else H) else 23))/\0<=l/\l<23/\∃b,decide ((if s=0 then W else H)<23)=b/\True:=by
  by_cases h:(if s=0 then W else H)<23
  ·have C:0<(if s=0 then W else H):=by split<;>lia
   obtain⟨l,j,u,y⟩:=dr hn (m+1) st k 6 (by decide) (by decide) C;exact⟨l,⟨_,j,by rw[Z5 h]; rfl⟩,u,by lia,Z,Z5 h,trivial⟩
  ·obtain⟨l,j,u,y⟩:=dr hn (m+1) st k 6 (many:=23) (by decide) (by decide) (by decide);exact⟨l,⟨_,j,by rw[Z6 h]; rfl⟩,u,by lia,Y7,Z6 h,trivial⟩
 obtain⟨v,j,a⟩:=j;have E:DF W H P (Ya [sO "work",O c]):=.claim (.work c) λm st=>s_work (m+3) st c1 c2;have dg:DF W H P (Ya [sO "give",O c]):=.claim (.give c) λm st=>s_give (m+3) st c1 c2;have ds:DF W H P (Ya [sO "sell",O c,O o]):=.claim (.sell c o ⟨t,r⟩) λm st=>s_sell (m+3) st c1 c2 t r;have dp:DF W H P (Ya [sO "part",O c,O s,O (1+l),O o]):=.claim (.part c s (1+l) o (by lia) ⟨t,r⟩) λm st=>s_part (m+3) st c1 c2 z (by lia) (by lia) (by lia) t r;have g:=qzc (st:=st) (ds:=[Ya [sO "sell",O c,O o],Ya [sO "part",O c,O s,O (1+l),O o],Ya [sO "give",O c]]) rfl;have n:∀f,(d<3/\f=Ya [sO "work",O c])\/(¬ d<3/\idxD st (Yd [Ya [sO "sell",O c,O o],Ya [sO "part",O c,O s,O (1+l),O o],Ya [sO "give",O c]]) (O (d / 2 - 1))=Y f)->callD fns (m+3) 75 [scr ns,O k,O d,szD W H P,Yd (xs.map O)] st=Y (f,st):=λf hf=>by
  have w:s=0\/s=1:=by lia
  rcases w with rfl|rfl
  ·rw[Z8 rfl]at hb a
   cases b with
   |true=>
    rw[hb,Z8 rfl]at a;subst a;rcases hf with⟨i,rfl⟩|⟨i,hf⟩
    ·exact qzz 0 [65,72,73] 3 (λq=>_/\_/\_/\_/\_/\_/\q) [.c (O c,st),.c (O o,st),.c (O 0,st),.b Z,.c (O l,st),.b Z] ⟨hc,p,hs,hb,j,Z5 i,rfl⟩
    ·exact qzz 0 [65,72,73] 3 (λq=>_/\_/\_/\_/\_/\_/\_/\_/\q) [.c (O c,st),.c (O o,st),.c (O 0,st),.b Z,.c (O l,st),.b Y7,.l [Ya [sO "sell",O c,O o],Ya [sO "part",O c,O 0,O (1+l),O o],Ya [sO "give",O c]],.i f] ⟨hc,p,hs,hb,j,Z6 i,g,hf,rfl⟩
   |false=>
    rw[hb,Z7 (by simp)]at a;subst a;rcases hf with⟨i,rfl⟩|⟨i,hf⟩
    ·exact qzz 0 [65,72,73] 3 (λq=>_/\_/\_/\_/\_/\_/\q) [.c (O c,st),.c (O o,st),.c (O 0,st),.b Y7,.c (O l,st),.b Z] ⟨hc,p,hs,hb,j,Z5 i,rfl⟩
    ·exact qzz 0 [65,72,73] 3 (λq=>_/\_/\_/\_/\_/\_/\_/\_/\q) [.c (O c,st),.c (O o,st),.c (O 0,st),.b Y7,.c (O l,st),.b Y7,.l [Ya [sO "sell",O c,O o],Ya [sO "part",O c,O 0,O (1+l),O o],Ya [sO "give",O c]],.i f] ⟨hc,p,hs,hb,j,Z6 i,g,hf,rfl⟩
  ·rw[Z7 (show ¬ (1:J)=0 by decide)]at hb a
   cases b with
   |true=>
    rw[hb,Z8 rfl]at a;subst a;rcases hf with⟨i,rfl⟩|⟨i,hf⟩
    ·exact qzz 0 [65,72,73] 3 (λq=>_/\_/\_/\_/\_/\_/\q) [.c (O c,st),.c (O o,st),.c (O 1,st),.b Z,.c (O l,st),.b Z] ⟨hc,p,hs,hb,j,Z5 i,rfl⟩
    ·exact qzz 0 [65,72,73] 3 (λq=>_/\_/\_/\_/\_/\_/\_/\_/\q) [.c (O c,st),.c (O o,st),.c (O 1,st),.b Z,.c (O l,st),.b Y7,.l [Ya [sO "sell",O c,O o],Ya [sO "part",O c,O 1,O (1+l),O o],Ya [sO "give",O c]],.i f] ⟨hc,p,hs,hb,j,Z6 i,g,hf,rfl⟩
   |false=>
    rw[hb,Z7 (by simp)]at a;subst a;rcases hf with⟨i,rfl⟩|⟨i,hf⟩
    ·exact qzz 0 [65,72,73] 3 (λq=>_/\_/\_/\_/\_/\_/\q) [.c (O c,st),.c (O o,st),.c (O 1,st),.b Y7,.c (O l,st),.b Z] ⟨hc,p,hs,hb,j,Z5 i,rfl⟩
    ·exact qzz 0 [65,72,73] 3 (λq=>_/\_/\_/\_/\_/\_/\_/\_/\q) [.c (O c,st),.c (O o,st),.c (O 1,st),.b Y7,.c (O l,st),.b Y7,.l [Ya [sO "sell",O c,O o],Ya [sO "part",O c,O 1,O (1+l),O o],Ya [sO "give",O c]],.i f] ⟨hc,p,hs,hb,j,Z6 i,g,hf,rfl⟩
 by_cases i:d<3
 ·exact⟨_,n _ (.inl ⟨i,rfl⟩),E⟩
 ·have:d / 2 - 1=0\/d / 2 - 1=1\/d / 2 - 1=2:=by lia
  rcases this with e|e|e
  ·exact⟨_,n _ (.inr ⟨i,by rw[e]; rfl⟩),ds⟩
  ·exact⟨_,n _ (.inr ⟨i,by rw[e]; rfl⟩),dp⟩
  ·exact⟨_,n _ (.inr ⟨i,by rw[e]; rfl⟩),dg⟩
end
noncomputable def dys(pl:L (J×D))(ws:L String):L Int:=(pl.filter λp=>wIs p.2 ws).map (·.1)
def dys_in(h:x∈dys pl a):∃p∈pl,p.1=x:=by
 obtain⟨p,b,rfl⟩:=Qqv.mp h;exact⟨p,(Qxa.mp b).1,rfl⟩
noncomputable def gW(ws:L String):D->Y4 D
 |.tup [.int x,f]=>if wIs f ws then Y (.int x) else B
 |_=>B
def qnf(pl)(a):(pl.map pD).filterMap (gW a)=(dys pl a).map O:=by
 unfold dys
 induction pl with
 |nil=>rfl
 |cons p r b=>
  have e:gW a (pD p)=if wIs p.2 a then Y (O p.1) else none:=rfl
  rw[Qqh,Qzh,e,b]
  cases h:wIs p.2 a with
  |true=>simp[Qj4,h]
  |false=>simp[Qj4,h]
section
variable {ns:L J}(hn:ns.length<=63){W H P:J}(w1:1<=W)(w2:W<=24)(h1:1<=H)(h2:H<=24)(p0:0<=P)(p1:P<=12)
theorem qli:rowAt (st++[Y5 Z pl]) (Y3 st.length)=Y pl:=by
 show listAt _ _=_;unfold listAt;rw[gl]
theorem qif(m)(st)(e)(i:∀p∈pl,DF W H P p.2)(n:pl.length<1000)(c:τ[3]?=Y (Y (Y3 st.length)))(g:∀p:J×D,DF W H P p.2->(RL (callD fns m)).tst [Y (O p.1),Y p.2] (st++[Y5 Z (pl.map pD)]) q=Y (wIs p.2 e,st++[Y5 Z (pl.map pD)])):
  stepEv (RL (callD fns m)) τ (st++[Y5 Z (pl.map pD)]) (.comp (.tup [0,1]) (.var 3) (Y q) (.var 0) [B,B])=Y (Y3 (st++[Yb.lst Z (pl.map pD)]).length,st++[Y5 Z (pl.map pD)]++[Y5 Z ((dys pl e).map O)]):=by
 obtain⟨s,l,k,j⟩:=qcy c (qli (pl:=pl.map pD))
 have h:=qqg (t:=.tup [0,1]) (elt:=.var 0) (sr:=[B,B]) (gW e) (λτ=>∃a b,τ=[a,b]) l k j (by simp; unfold lim; lia) ⟨B,B,rfl⟩ (λτ d hd c=>by
  obtain⟨a,b,rfl⟩:=c;obtain⟨p,f,rfl⟩:=Qqv.mp hd
  exact⟨[Y (O p.1),Y p.2],turn_if rfl (g p (i p f)) λ_=>qje _ _ _ _ _ rfl,Y (O p.1),Y p.2,rfl⟩)
 rw[qnf]at h;exact h
theorem t_vein(m)(S)(p:J×D)(h:DF W H P p.2):(RL (callD fns m)).tst [Y (O p.1),Y p.2] S (.cmp .Eq (.idx (Ye 1) (.lit (O 0))) (.lit (sO "vein")))=Y (wIs p.2 ["vein"],S):=by
 obtain⟨x,f⟩:=p
 cases h with
 |vein=>exact qzl 0 [] 0 (λq=>q) [] rfl
 |join=>exact qzl 0 [] 0 (λq=>q) [] rfl
 |stake=>exact qzl 0 [] 0 (λq=>q) [] rfl
 |claim h _=>cases h<;>exact qzl 0 [] 0 (λq=>q) [] rfl
theorem t_name(m)(S)(p:J×D)(h:DF W H P p.2):(RL (callD fns m)).tst [Y (O p.1),Y p.2] S (.cmp .In (.idx (.var 1) (.lit (O 0))) (.tup [.lit (sO "stake"),.lit (sO "part")]))=Y (wIs p.2 ["stake","part"],S):=by
 obtain⟨x,f⟩:=p
 cases h with
 |vein=>exact qzl 0 [] 0 (λq=>q) [] rfl
 |join=>exact qzl 0 [] 0 (λq=>q) [] rfl
 |stake=>exact qzl 0 [] 0 (λq=>q) [] rfl
 |claim h _=>cases h<;>exact qzl 0 [] 0 (λq=>q) [] rfl
include hn w1 w2 h1 h2 p0 p1
theorem qnb(m)(st)(k){pl:L (J×D)}(I:∀p∈pl,DF W H P p.2/\1<=p.1/\p.1<=400)(hl:pl.length<100):∃f,callD fns (m+4) 76 [scr ns,O k,szD W H P,Y3 st.length] (st++[Y5 Z (pl.map pD)])=Y (f,st++[Y5 Z (pl.map pD)])/\DF W H P f:=by
 obtain⟨y,j,y1,y2⟩:=dr hn (m+2) (st++[Y5 Z (pl.map pD)]) k 0 (many:=20) (by decide) (by decide) (by decide);have R:∀u,∀x∈dys pl u,1<=x/\x<=400:=λu x hx=>by
  obtain⟨p,e,rfl⟩:=dys_in hx;exact(I p e).2
 have dl:∀u,(((dys pl u).map D.int).length:J)=((dys pl u).length:J):=λu=>by simp
 have c1:=qif (m+3) st (τ:=[Y (scr ns),Y (O k),Y (szD W H P),Y (Y3 st.length),Y (O y),B,B,B]) ["vein"] (λp e=>(I p e).1) (by lia) rfl (λp h=>t_vein (m+3) _ p h);have c2:=qif (m+3) st (τ:=[Y (scr ns),Y (O k),Y (szD W H P),Y (Y3 st.length),Y (O y),Y (Yd ((dys pl ["vein"]).map O)),B,B]) ["stake","part"] (λp e=>(I p e).1) (by lia) rfl (λp h=>t_name (m+3) _ p h);generalize hS:st++[Y5 Z (pl.map pD)]=S at j c1 c2 ⊢;generalize E:dys pl ["vein"]=vs at c1 c2;generalize F:dys pl ["stake","part"]=c at c2;have N:∀x∈vs,1<=x/\x<=400:=by rw[<- E]; exact R _
 have du:∀x∈c,1<=x/\x<=400:=by rw[<- F]; exact R _
 have gv:=qzc (st:=S) (nlI vs);have s:=qzc (st:=S) (nlI c);have K:∀xs:L J,xs=[]->((((xs.map D.int).length:Y1):J)==0)=true:=λxs h=>by rw[h]; rfl
 have en:∀xs:L J,xs≠[]->((((xs.map D.int).length:Y1):J)==0)=false:=λxs h=>by
  rw[beq_eq_false_iff_ne];simpa using h
 obtain⟨C,hv,v⟩:=qin hn w1 w2 h1 h2 p0 p1 m S k
 by_cases t1:y<3
 ·exact⟨C,qzz 0 [65,69,72,73,74,75] 4 (λq=>_/\_/\_/\_/\_/\_/\_/\q) [.c (O y,S),.c (Y3 S.length,S++[Y5 Z (vs.map O)]),.l (vs.map O),.c (Y3 S.length,S++[Y5 Z (c.map O)]),.l (c.map O),.b Z,.c (C,S)] ⟨j,c1,gv,c2,s,Z5 t1,hv,rfl⟩,v⟩
 ·by_cases tA:y<8/\vs=[]
  ·exact⟨C,qzz 0 [65,69,72,73,74,75] 4 (λq=>_/\_/\_/\_/\_/\_/\_/\_/\_/\q) [.c (O y,S),.c (Y3 S.length,S++[Y5 Z (vs.map O)]),.l (vs.map O),.c (Y3 S.length,S++[Y5 Z (c.map O)]),.l (c.map O),.b Y7,.b Z,.b Z,.c (C,S)] ⟨j,c1,gv,c2,s,Z6 t1,Z5 tA.1,K vs tA.2,hv,rfl⟩,v⟩
  ·by_cases tB:y<5/\0<P
   ·have n:=λz=>tA ⟨by lia,z⟩;have i:y<8:=by lia
    obtain⟨fl,hf,f1,f2⟩:=dr hn (m+2) S k 5 (by decide) (by decide) tB.2;obtain⟨a,ha,a1,a2⟩:=qw0 hn (m+1) S k 1 (by decide) (by decide) N;obtain⟨b,hb,b1,b2⟩:=qw0 hn (m+1) S k 3 (by decide) (by decide) N;exact⟨_,qzz 0 [65,69,72,73,74,75] 4 (λq=>_/\_/\_/\_/\_/\_/\_/\_/\_/\_/\_/\_/\_/\q) [.c (O y,S),.c (Y3 S.length,S++[Y5 Z (vs.map O)]),.l (vs.map O),.c (Y3 S.length,S++[Y5 Z (c.map O)]),.l (c.map O),.b Y7,.b Z,.b Y7,.b Z,.b Z,.c (O fl,S),.c (O a,S),.c (O b,S)] (r:=(Ya [sO "join",O a,O b,O (1+fl)],S)) ⟨j,c1,gv,c2,s,Z6 t1,Z5 i,en vs n,Z5 tB.1,Z5 tB.2,hf,ha,hb,rfl⟩,.join a1 a2 b1 b2 (by lia) (by lia)⟩
   ·obtain⟨o,w,o1,o2⟩:=qvd hn (m+1) S k 1 (by decide) (by decide);obtain⟨g,A,x0,x1,X,V,U,T⟩:=qwu hn (m+1) S k 3 (W:=W) (H:=H) (by decide) (by decide) (by lia) (by lia);have ds:DF W H P (Ya [sO "stake",O o,O g.1,O g.2.1,O g.2.2.1,O g.2.2.2]):=.stake o1 o2 x0 x1 X V U T
    by_cases d:y<12
    ·by_cases i:y<8
     ·have n:=λz=>tA ⟨i,z⟩
      by_cases l:y<5
      ·have tp:=λz=>tB ⟨l,z⟩;exact⟨_,qzz 0 [65,69,72,73,74,75] 4 (λq=>_/\_/\_/\_/\_/\_/\_/\_/\_/\_/\_/\_/\_/\q) [.c (O y,S),.c (Y3 S.length,S++[Y5 Z (vs.map O)]),.l (vs.map O),.c (Y3 S.length,S++[Y5 Z (c.map O)]),.l (c.map O),.b Y7,.b Z,.b Y7,.b Z,.b Y7,.b Z,.c (O o,S),.c (rD g,S)] ⟨j,c1,gv,c2,s,Z6 t1,Z5 i,en vs n,Z5 l,Z6 tp,Z5 d,w,A,rfl⟩,ds⟩
      ·exact⟨_,qzz 0 [65,69,72,73,74,75] 4 (λq=>_/\_/\_/\_/\_/\_/\_/\_/\_/\_/\_/\_/\q) [.c (O y,S),.c (Y3 S.length,S++[Y5 Z (vs.map O)]),.l (vs.map O),.c (Y3 S.length,S++[Y5 Z (c.map O)]),.l (c.map O),.b Y7,.b Z,.b Y7,.b Y7,.b Z,.c (O o,S),.c (rD g,S)] ⟨j,c1,gv,c2,s,Z6 t1,Z5 i,en vs n,Z6 l,Z5 d,w,A,rfl⟩,ds⟩
     ·have l:¬ y<5:=by lia
      exact⟨_,qzz 0 [65,69,72,73,74,75] 4 (λq=>_/\_/\_/\_/\_/\_/\_/\_/\_/\_/\_/\q) [.c (O y,S),.c (Y3 S.length,S++[Y5 Z (vs.map O)]),.l (vs.map O),.c (Y3 S.length,S++[Y5 Z (c.map O)]),.l (c.map O),.b Y7,.b Y7,.b Y7,.b Z,.c (O o,S),.c (rD g,S)] ⟨j,c1,gv,c2,s,Z6 t1,Z6 i,Z6 l,Z5 d,w,A,rfl⟩,ds⟩
    ·have i:¬ y<8:=by lia
     have l:¬ y<5:=by lia
     by_cases tC:y<17/\c=[]
     ·exact⟨_,qzz 0 [65,69,72,73,74,75] 4 (λq=>_/\_/\_/\_/\_/\_/\_/\_/\_/\_/\_/\_/\_/\q) [.c (O y,S),.c (Y3 S.length,S++[Y5 Z (vs.map O)]),.l (vs.map O),.c (Y3 S.length,S++[Y5 Z (c.map O)]),.l (c.map O),.b Y7,.b Y7,.b Y7,.b Y7,.b Z,.b Z,.c (O o,S),.c (rD g,S)] ⟨j,c1,gv,c2,s,Z6 t1,Z6 i,Z6 l,Z6 d,Z5 tC.1,K c tC.2,w,A,rfl⟩,ds⟩
     ·obtain⟨f,hf,Q⟩:=qhd hn w1 w2 h1 h2 p0 p1 m S k (y - 12) (by lia) (by lia) du
      by_cases t:y<17
      ·have G:=λz=>tC ⟨t,z⟩;exact⟨f,qzz 0 [65,69,72,73,74,75] 4 (λq=>_/\_/\_/\_/\_/\_/\_/\_/\_/\_/\_/\_/\q) [.c (O y,S),.c (Y3 S.length,S++[Y5 Z (vs.map O)]),.l (vs.map O),.c (Y3 S.length,S++[Y5 Z (c.map O)]),.l (c.map O),.b Y7,.b Y7,.b Y7,.b Y7,.b Z,.b Y7,.c (f,S)] ⟨j,c1,gv,c2,s,Z6 t1,Z6 i,Z6 l,Z6 d,Z5 t,en c G,hf,rfl⟩,Q⟩
      ·exact⟨f,qzz 0 [65,69,72,73,74,75] 4 (λq=>_/\_/\_/\_/\_/\_/\_/\_/\_/\_/\_/\q) [.c (O y,S),.c (Y3 S.length,S++[Y5 Z (vs.map O)]),.l (vs.map O),.c (Y3 S.length,S++[Y5 Z (c.map O)]),.l (c.map O),.b Y7,.b Y7,.b Y7,.b Y7,.b Y7,.c (f,S)] ⟨j,c1,gv,c2,s,Z6 t1,Z6 i,Z6 l,Z6 d,Z6 t,hf,rfl⟩,Q⟩
theorem ql1(m)(st)(k)(k1:0<=k)(k2:k<1000)(X:1<=many)(V:many<=24):∃pl:L (J×D),callD fns (m+5) 77 [scr ns,O k,szD W H P,O many] st=Y (Y3 st.length,st++[Y5 Z (pl.map pD)])/\(pl.length:J)=many/\(∀p∈pl,DF W H P p.2/\1<=p.1/\p.1<=360)/\(pl.map (·.1)).Pairwise (· < ·):=by
 obtain⟨a,C,a1,a2⟩:=dr hn (m+3) st k 0 (many:=4) (by decide) (by decide) (by decide);have s:∃h:J,idxD st (.lst [O 1,O 3,O 8,O 15]) (O a)=Y (O h)/\1<=h/\h<=15:=by
  have:a=0\/a=1\/a=2\/a=3:=by lia
  rcases this with rfl|rfl|rfl|rfl
  ·exact⟨1,rfl,by decide,by decide⟩
  ·exact⟨3,rfl,by decide,by decide⟩
  ·exact⟨8,rfl,by decide,by decide⟩
  ·exact⟨15,rfl,by decide,by decide⟩
 obtain⟨h,z,U,T⟩:=s;have g:=qzc (st:=st) (ds:=[O 1,O 3,O 8,O 15]) rfl;obtain⟨j,st',I,k',d,o,pl,rfl,rfl,y,E,n,w⟩:=qxp (st:=st++[Y5 Z []]) (it:=.rng2 (.bin .Add (.var 1) (.lit (O 1))) (.bin .Add (.bin .Add (.var 1) (.lit (O 1))) (.var 3))) (t:=.var 7)
  (body:=[.set (.var 6) (.bin .Add (.bin .Add (.var 6) (.lit (O 1))) (.call 65 [.var 0,.var 7,.lit (O 25),.var 4])),.expr (.meth (.var 5) .append [.tup [.var 6,.call 76 [.var 0,.var 7,.var 2,.var 5]]])])
  (λi j st'=>i<=many.toNat/\∃(d:J) (o:Y4 D) (pl:L (J×D)),j=[Y (scr ns),Y (O k),Y (szD W H P),Y (O many),Y (O h),Y (Y3 st.length),Y (O d),o]/\st'=st++[Y5 Z (pl.map pD)]/\pl.length=i/\(0<=d/\d<=15*i)/\(∀p∈pl,DF W H P p.2/\1<=p.1/\p.1<=d)/\(pl.map (·.1)).Pairwise (· < ·))
  (by
   have N:(RL (callD fns (m+4))).ev [Y (scr ns),Y (O k),Y (szD W H P),Y (O many),Y (O h),Y (Y3 st.length),Y (O 0),B] (st++[Y5 Z []]) (.bin .Add (.var 1) (.lit (O 1)))=Y (O (k+1),st++[Y5 Z []]):=qzf 0 [] 4 (λq=>q) [] rfl;have K:(RL (callD fns (m+4))).ev [Y (scr ns),Y (O k),Y (szD W H P),Y (O many),Y (O h),Y (Y3 st.length),Y (O 0),B] (st++[Y5 Z []]) (.bin .Add (.bin .Add (.var 1) (.lit (O 1))) (.var 3))=Y (O (k+1+many),st++[Y5 Z []]):=qzf 0 [] 4 (λq=>q) [] rfl;show((RL (callD fns (m+4))).ev _ _ _).bind _=_;rw[N];show((RL (callD fns (m+4))).ev _ _ _).bind _=_;rw[K];show(if (big (k+1)||big (k+1+many))=Z then B else Y (Src.rng (k+1) (k+1+many - (k+1)).toNat,_))=_
   rw[Z7 (by unfold big; simp; lia),show k+1+many - (k+1)=many by lia])
  (by simp[Src.size]) (λi j st' _=>qwn _ _ _) ⟨Qq8 _,0,B,[],rfl,rfl,rfl,⟨by lia,by lia⟩,by simp,.nil⟩ (λi j st' x F e=>by
   obtain⟨_,d,o,pl,rfl,rfl,y,E,n,w⟩:=e;rw[Qqw]at F;obtain⟨i',l,rfl⟩:=Qqd.mp F;have A:i<many.toNat:=by
    have:=(Qqk.mp l).1;simpa using this
   rw[Qxs A]at l;cases l;obtain⟨v,hv,S,R⟩:=dr hn (m+3) (st++[Y5 Z (pl.map pD)]) (k+1+(i:Y1)) 25 (many:=h) (by decide) (by decide) (by lia);obtain⟨f,hf,Q⟩:=qnb hn w1 w2 h1 h2 p0 p1 m st (k+1+(i:Y1)) (λp e=>by have:=n p e; exact⟨this.1,this.2.1,by lia⟩) (by lia);have G:=gl (st:=st) (c:=Y5 Z (pl.map pD));have u:(pl.map pD).length<lim:=by rw[Qqx]; unfold lim; lia
   refine⟨_,_,qze 0 [65,76] 4 (λq=>_/\_/\_/\_/\_/\q) [.c (O v,st++[Y5 Z (pl.map pD)]),.r (Y5 Z (pl.map pD)),.c (f,st++[Y5 Z (pl.map pD)]),.r (Y5 Z (pl.map pD)),.b Z] (r:=(.nx [Y (scr ns),Y (O k),Y (szD W H P),Y (O many),Y (O h),Y (Y3 st.length),Y (O (d+1+v)),Y (O (k+1+(i:Y1)))],(st++[Yb.lst Z (pl.map pD)]).set st.length (Y5 Z (pl.map pD++[pD (d+1+v,f)])))) ⟨hv,G,hf,G,Z5 u,rfl⟩,by lia,d+1+v,Y (O (k+1+(i:Y1))),pl++[(d+1+v,f)],rfl,by rw[sl]; simp,by simp[y],⟨by lia,by lia⟩,λp e=>?_,?_⟩
   ·rcases Qql.mp e with e|e
    ·have:=n p e;exact⟨this.1,this.2.1,by lia⟩
    ·cases Qqy.mp e;exact⟨Q,by simp only; lia,Int.le_refl _⟩
   ·rw[Qqm,Qje];refine⟨w,by simp,λa C b hb=>?_⟩;obtain⟨p,e,rfl⟩:=Qqv.mp C;simp only[Qqh,Qxy,Qqy]at hb;have:=n p e
    lia)
 rw[Qqx,Qx9]at y E;refine⟨pl,qzz 0 [65] 5 (λq=>_/\_/\_/\_/\q) [.l [O 1,O 3,O 8,O 15],.c (O a,st),.i (O h),.s (.nx [Y (scr ns),Y (O k),Y (szD W H P),Y (O many),Y (O h),Y (Y3 st.length),Y (O d),o],st++[Y5 Z (pl.map pD)])] ⟨g,C,z,I,rfl⟩,by lia,λp e=>?_,w⟩;have:=n p e;exact⟨this.1,this.2.1,by lia⟩
end
abbrev En:=J×J×J×J
noncomputable def eD(e:En):D:=.tup [.int e.1,.int e.2.1,.int e.2.2.1,.int e.2.2.2]
theorem qdb{ds:L D}(P:Y1->Sl->Y2->Prop)(c:D->Y2->Prop)(b:∀i τ st,P i τ st->s.at st i=Y ds[i]?)(hs:∀i τ st d,ds[i]?=Y d->P i τ st->(∃a st',f τ st d=Y (.nx a,st')/\P (i+1) a st')\/∃v st',f τ st d=Y (.rt v,st')/\c v st'):
  ∀(k i:Y1) (τ:Sl) (st:Y2),i+k=ds.length->P i τ st->(∃a st',loop s f (k+1) i τ st=Y (.nx a,st')/\P ds.length a st')\/∃v st',loop s f (k+1) i τ st=Y (.rt v,st')/\c v st'
 |0,i,τ,st,h,p=>by
  have e:i=ds.length:=by lia
  subst e;refine .inl ⟨τ,st,?_,p⟩;rw[loop,b _ _ _ p];simp[Qzm (Qqj _)]
 |k+1,i,τ,st,h,p=>by
  have hi:i<ds.length:=by lia
  have h1:ds[i]?=Y ds[i]:=by simp
  rw[loop,b _ _ _ p,h1];simp only[oBs];rcases hs i τ st _ h1 p with⟨a,st',e,q⟩|⟨v,st',e,q⟩
  ·rw[e]; exact qdb P c b hs k (i+1) a st' (by lia) q
  ·rw[e]; exact .inr ⟨v,st',rfl,q⟩
def qib{ds:L D}(P:Y1->Sl->Y2->Prop)(h:D->Y2->Prop)(m:src (RL c) τ st it=Y (s,st))(l:s.size st=ds.length)(j:∀k a st',P k a st'->s.at st' k=Y ds[k]?)(n:P 0 τ st)(hs:∀k a st' d,ds[k]?=Y d->P k a st'->(∃g b,((setT t d a).bind λf=>(RL c).ex f st' body)=Y (.nx g,b)/\P (k+1) g b)\/∃v b,((setT t d a).bind λf=>(RL c).ex f st' body)=Y (.rt v,b)/\h v b):
  (∃a st',stepEx (RL c) τ st (.forr t it body)=Y (.nx a,st')/\P ds.length a st')\/∃v st',stepEx (RL c) τ st (.forr t it body)=Y (.rt v,st')/\h v st':=by
 have e:∀x,loop s (λτ st d=>(setT t d τ).bind λa=>(RL c).ex a st body) (ds.length+1) 0 τ st=x->stepEx (RL c) τ st (.forr t it body)=x:=λx i=>by
  show(src (RL c) τ st it).bind _=_;rw[m];simp only[oBs];rw[l];exact i
 rcases qdb P h j hs ds.length 0 τ st (by lia) n with⟨a,st',q,p⟩|⟨v,st',q,p⟩
 ·exact .inl ⟨a,st',e _ q,p⟩
 ·exact .inr ⟨v,st',e _ q,p⟩
section
def qej(b:1<=n)(a:n<=1000000):Fit W H P (n,"coins"):=⟨1,1000000,by kernel_rfl,b,a⟩
def qnc(b:0<=n)(a:n<=P):Fit W H P (n,"floor"):=⟨0,P,by kernel_rfl,b,a⟩
def s_pay(m)(st)(f:1<=a)(e:a<=40)(b1:1<=b)(b2:b<=40)(ne:a≠b)(d:1<=n)(c:n<=1000000):callD fns (m+3) 29 [szD W H P,Ya [sO "pay",O a,O b,O n]] st=Y (.bl Z,st):=
 qzz 0 [23] 3 (λq=>_/\_/\_/\q) [.c (.bl Z,st++[.dic Z (bD W H P)]),.g,.b Z] ⟨qq3 m st (W:=W) (H:=H) (P:=P) [(a,"folk"),(b,"folk"),(n,"coins")] (by simp) (by simp only[Qqa,Qq4,or_false,forall_eq_or_imp,forall_eq]; exact⟨qkh f e,qkh b1 b2,qej d c⟩),gB st (.dic Z (bD W H P)),(show(!(a==b))=Z by simpa using ne),rfl⟩
def s_dig(m)(st)(r:1<=o)(p:o<=40)(l:0<=b)(k:b<W)(h:0<=a)(g:a<H)(j:0<=x)(i:x<W)(f:0<=y)(e:y<H)(d:0<=z)(c:z<=P)(t:1<=n)(s:n<=1000000):callD fns (m+3) 29 [szD W H P,Ya [sO "dig",O o,O b,O a,O x,O y,O z,O n]] st=Y (.bl Z,st):=
 qzz 0 [23] 3 (λq=>_/\_/\q) [.c (.bl Z,st++[.dic Z (bD W H P)]),.g] ⟨qq3 m st [(o,"folk"),(b,"x"),(a,"y"),(x,"x"),(y,"y"),(z,"floor"),(n,"coins")] (by simp) (by simp only[Qqa,Qq4,or_false,forall_eq_or_imp,forall_eq]; exact⟨qkh r p,f_x l k,f_y h g,f_x j i,f_y f e,qnc d c,qej t s⟩),gB st (.dic Z (bD W H P)),rfl⟩
end
section
variable {sz:Zt}{T d:J}{fo jo:L (D×D)}{ro:L J}{rest:Y2}{cs:L Cl}
noncomputable def owE(d a:J)(c:Y4 J)(t:J):L En:=match c with
 |some b=>if b=a then [] else [(d,a,b,t)]
 |none=>[]
def qk5(d a)(c)(t):(owE d a c t).length<=1:=by
 unfold owE
 split
 ·split
  ·exact Qq8 _
  ·exact Qqj _
 ·exact Qq8 _
def qc7(m)(a)(c)(t)(g:sz.es.length<1000):callD fns (m+1) 55 [Y3 0,O a,oD c,O t] (FC sz T d fo jo cs ro rest)=Y (.non,FC ⟨sz.s,sz.dg,sz.es++(owE d a c t).map eD⟩ T d fo jo cs ro rest):=by
 have f:FC ⟨sz.s,sz.dg,sz.es++([]:L En).map eD⟩ T d fo jo cs ro rest=FC sz T d fo jo cs ro rest:=by rw[Qxy,Qq5]
 cases c with
 |none=>
  show _=Y (_,FC ⟨_,_,_++([]:L En).map eD⟩ T d fo jo cs ro rest);rw[f];exact qzz 8 [] 1 (λq=>_/\q) [.b Y7] ⟨(show(!isNon .non)=Y7 from rfl),rfl⟩
 |some b=>
  show _=Y (_,FC ⟨_,_,_++(if b=a then [] else [(d,a,b,t)]:L En).map eD⟩ T d fo jo cs ro rest)
  by_cases e:b=a
  ·rw[Z8 e,f];exact qzz 8 [] 1 (λq=>_/\_/\q) [.b Z,.b Y7] ⟨(show(!isNon (O b))=Z from rfl),(show(!(b==a))=Y7 by simpa using e),rfl⟩
  ·rw[Z7 e];exact qzz 8 [] 1 (λq=>_/\_/\_/\q) [.b Z,.b Z,.b Z] ⟨(show(!isNon (O b))=Z from rfl),(show(!(b==a))=Z by simpa using e),Z5 (p:=sz.es.length<lim) (by unfold lim; lia),rfl⟩
def qgm(n):mulOk 10 n=true:=rfl
def pay_ok(m)(ne:a≠b)(c:sz.es.length<1000):callD fns (m+2) 53 [Y3 0,Ya [sO "pay",O a,O b,O n]] (FC sz T d fo jo cs ro rest)=Y (sO "good",FC ⟨sz.s,sz.dg,sz.es++[(d,b,a,10*n)].map eD⟩ T d fo jo cs ro rest):=by
 have h2:=qc7 (T:=T) (d:=d) (fo:=fo) (jo:=jo) (ro:=ro) (rest:=rest) (cs:=cs) m b (Y a) (10*n) c;rw[show owE d b (Y a) (10*n)=[(d,b,a,10*n)] from Z7 ne]at h2;exact qzz 8 [55] 2 (λq=>_/\_/\q) [.b Z,.c (.non,FC ⟨sz.s,sz.dg,sz.es++[(d,b,a,10*n)].map eD⟩ T d fo jo cs ro rest)] ⟨qgm n,h2,rfl⟩
end
def gS(x)(st:Y2)(h:noLoc x=Z):noLoc x=Z/\st.take st.length=st:=⟨h,Qzc⟩
noncomputable def sgD(gs:L Cl):L D:=gs.map λc=>.tup [.int c.nm,rD c.g]
def nl_sg(gs):noLocs (sgD gs)=true:=qzi λ_ _=>rfl
theorem qic{α:Type}{P:α->Yc}{c:α}:∀{l:L α}{k:Y1},(∀x∈l.take k,P x=Y7)->l[k]?=Y c->P c=Z->l.find? P=Y c
 |[],_,_,h,_=>by cases h
 |x::l,0,_,h,a=>by cases h; exact List.find?_cons_of_pos a
 |x::l,k+1,h1,h2,a=>by
  rw[List.find?_cons_of_neg (by rw[h1 x (.head _)]; exact Qq0)];exact qic (λy b=>h1 y (.tail _ b)) h2 a
def take_all{α:Type}{P:α->Prop}{l:L α}{c:α}(h:∀x∈l.take k,P x)(b:l[k]?=Y c)(hc:P c):∀x∈l.take (k+1),P x:=λx a=>by
 rw[Qxc,b]at a;rcases Qql.mp a with a|a
 ·exact h x a
 ·cases Qqy.mp a; exact hc
section
variable {p:Pl}{sz:D}{d:J}{fo jo:L (D×D)}{ro:L J}{S:Y2}{cs:L Cl}
def qd6(m)(A:FA p sz d fo jo cs ro S)(hc:c∈cs):callD fns (m+3) 33 [Y3 p.a,O c.nm] S=Y (rD c.g,S):=
 qzz 0 [61] 3 (λq=>_/\_/\q) [.r (p.fc sz d),.c (clT c,S)] ⟨A.hf,qjj m A hc,rfl⟩
noncomputable def stC(cs:L Cl)(ro:L J)(d:J):L Cl:=ro.filterMap λn=>if stB cs d n then cs.find? λc=>c.nm==n else B
def qwr(h:c∈stC cs ro d):c∈cs:=by
 obtain⟨n,_,e⟩:=Qz8.mp h
 split at e
 ·exact Qzu e
 ·cases e
def qcw:(stC cs ro d).length<=ro.length:=Qx6 _ _
def stC_nm(a:∀n∈ro,∃c∈cs,c.nm=n):(stC cs ro d).map (·.nm)=ro.filter (stB cs d):=by
 unfold stC
 induction ro with
 |nil=>rfl
 |cons n r b=>
  have b:=b λx f=>a x (.tail _ f);rw[Qzh,Qj4];obtain⟨c,hc,e⟩:=a n (.head _)
  cases hb:stB cs d n with
  |false=>exact b
  |true=>
   cases hf:cs.find? λc=>c.nm==n with
   |none=>exact absurd (beq_iff_eq.mpr e) (Qxh.mp hf c hc)
   |some x=>
    have f:x.nm=n:=by simpa using Qx0 hf
    show x.nm::_=n::_;rw[b,f]
def sg_ok(m)(A:FA p sz d fo jo cs ro S)(nd:(cs.map (·.nm)).Nodup)(f:∀n∈ro,∃c∈cs,c.nm=n)(j:ro.length<1000):callD fns (m+4) 37 [Y3 p.a] S=Y (Y3 S.length,S++[Y5 Z (sgD (stC cs ro d))]):=by
 have b:=qfu m A nd f j;rw[<- stC_nm f]at b;have l:=qcw (cs:=cs) (ro:=ro) (d:=d);have o:=λc (h:c∈stC cs ro d)=>qwr h;generalize stC cs ro d=a at *;have i:(RL (callD fns (m+3))).ev [Y (Y3 p.a)] S (.gc (.mcall 642 62 "standing" (.var 0) []))=Y (.lst (rowD (a.map (·.nm))),S):=
  qzf 0 [62] 3 (λq=>_/\_/\_/\q) [.r (p.fc sz d),.c (Y3 S.length,S++[Y5 Z (rowD (a.map (·.nm)))]),.l (rowD (a.map (·.nm)))] ⟨A.hf,b,qzc (st:=S) (nlI (a.map (·.nm))),rfl⟩
 have hc:=qai (it:=.gc (.mcall 642 62 "standing" (.var 0) [])) (elt:=.tup [.var 0,.call 33 [.var 1,.var 0]]) (sr:=[B,Y 0]) (es:=sgD a)
  (by show((RL (callD fns (m+3))).ev _ _ _).bind _=_; rw[i]; rfl) (qqp rfl) (qzt rfl) rfl (by unfold sgD; simp) (by simp; unfold lim; lia) λk x e hd g=>by
   have hd:((a.map (·.nm)).map D.int)[k]?=Y x:=hd;rw[Qq7,Qqw]at hd;unfold sgD at g;rw[Qqw]at g;obtain⟨c,h1,rfl⟩:=Qqd.mp hd;rw[h1]at g;cases g;exact qzf 0 [33] 3 (λq=>_/\q) [.c (rD c.g,S)] ⟨qd6 m A (o c (Qqo h1)),rfl⟩
 exact qzz 0 [] 4 (λq=>_/\q) [.c (Y3 S.length,S++[Y5 Z (sgD a)])] ⟨hc,rfl⟩
noncomputable def ovC(cs:L Cl)(ro:L J)(d:J)(q:J×J):Y4 Cl:=(stC cs ro d).find? λc=>inB c.g q
def qc9(h:ovC cs ro d q=Y c):c∈cs:=qwr (Qzu h)
def qc8(m)(A:FA p sz d fo jo cs ro S)(nd:(cs.map (·.nm)).Nodup)(l:∀n∈ro,∃c∈cs,c.nm=n)(r:ro.length<1000)(u):callD fns (m+5) 43 [Y3 p.a,cD u] S=Y (oD ((ovC cs ro d u).map (·.nm)),S):=by
 have hs:=sg_ok m A nd l r;unfold ovC;generalize stC cs ro d=i at *;have o:(RL (callD fns (m+4))).ev [Y (Y3 p.a),Y (cD u),B,B] S (.gc (.call 37 [.var 0]))=Y (.lst (sgD i),S):=
  qzf 0 [37] 4 (λq=>_/\_/\q) [.c (Y3 S.length,S++[Y5 Z (sgD i)]),.l (sgD i)] ⟨hs,qzc (st:=S) (nl_sg i),rfl⟩
 rcases qib (it:=.gc (.call 37 [.var 0])) (t:=.tup [2,3]) (body:=[.ite (.call 0 [.var 3,.var 1]) [.ret (.var 2)] []])
  (λk f st'=>(∀c∈i.take k,inB c.g u=Y7)/\∃a b,f=[Y (Y3 p.a),Y (cD u),a,b]/\st'=S) (λv st'=>∃c,i.find? (λc=>inB c.g u)=Y c/\v=O c.nm/\st'=S)
  (by show((RL (callD fns (m+4))).ev _ _ _).bind _=_; rw[o]; rfl) (qzt rfl) (λk f st' _=>qqp rfl k) ⟨Qqp _,_,_,rfl,rfl⟩ (λk f st' x j h=>by
   obtain⟨hn,a,b,rfl,rfl⟩:=h;unfold sgD at j;rw[Qqw]at j;obtain⟨c,hc,rfl⟩:=Qqd.mp j;have g:=qjt (m+3) st' c.g u
   cases hb:inB c.g u with
   |true=>
    rw[hb]at g;exact .inr ⟨O c.nm,st',qze 0 [0] 4 (λq=>_/\q) [.c (.bl Z,st')] ⟨g,rfl⟩,c,qic hn hc hb,rfl,rfl⟩
   |false=>
    rw[hb]at g
    exact .inl ⟨[Y (Y3 p.a),Y (cD u),Y (O c.nm),Y (rD c.g)],st',qze 0 [0] 4 (λq=>_/\q) [.c (.bl Y7,st')] ⟨g,rfl⟩,take_all hn hc hb,_,_,rfl,rfl⟩) with⟨f,st',e,hn,a,b,rfl,rfl⟩|⟨v,st',e,c,hc,rfl,rfl⟩
 ·have:i.find? (λc=>inB c.g u)=none:=Qxh.mpr λc hc=>by
   rw[hn c (by unfold sgD; rw[Qqx,Qzc]; exact hc)];exact Qq0
  rw[this];exact qzz 0 [] 5 (λq=>_/\q) [.s (.nx [Y (Y3 p.a),Y (cD u),a,b],st')] ⟨e,rfl⟩
 ·rw[hc];exact qzz 0 [] 5 (λq=>_/\q) [.s (.rt (O c.nm),st')] ⟨e,rfl⟩
def qnv(m)(A:FA p sz d fo jo cs ro S)(nd:(cs.map (·.nm)).Nodup)(a:∀n∈ro,∃c∈cs,c.nm=n)(e:ro.length<1000)(u):callD fns (m+6) 54 [Y3 p.a,cD u] S=Y (oD ((ovC cs ro d u).map (·.o)),S):=by
 have h2:=qc8 m A nd a e u
 cases b:ovC cs ro d u with
 |none=>
  rw[b]at h2;exact qzz 0 [43] 6 (λq=>_/\_/\_/\q) [.c (.non,S),.g,.b Z] ⟨h2,gS .non S rfl,(show isNon .non=Z from rfl),rfl⟩
 |some c=>
  rw[b]at h2;exact qzz 0 [43,61] 6 (λq=>_/\_/\_/\_/\_/\q) [.c (O c.nm,S),.g,.b Y7,.r (p.fc sz d),.c (clT c,S)] ⟨h2,gS (O c.nm) S rfl,(show isNon (O c.nm)=Y7 from rfl),A.hf,qjj (m+3) A (qc9 b),rfl⟩
end
noncomputable def ing(W H P x y z:J):Bool:=(decide (0<=x)&&decide (x<W))&&((decide (0<=y)&&decide (y<H))&&(decide (0<=z)&&decide (z<=P)))
def qik(m)(st)(W H P x y z):callD fns (m+1) 4 [szD W H P,Ya [O x,O y,O z]] st=Y (.bl (ing W H P x y z),st):=by
 unfold ing
 by_cases h1:0<=x
 ·by_cases h2:x<W
  ·by_cases a:0<=y
   ·by_cases b:y<H
    ·by_cases c:0<=z
     ·rw[Z5 h1,Z5 h2,Z5 a,Z5 b,Z5 c];have e:((Z&&Z)&&((Z&&Z)&&(Z&&decide (z<=P))))=decide (z<=P):=by cases decide (z<=P)<;>rfl
      rw[e];exact qzz 0 [] 1 (λq=>_/\_/\_/\_/\_/\_/\q) [.b Z,.b Z,.b Z,.b Z,.b Z,.b (decide (z<=P))] ⟨Z5 h1,Z5 h2,Z5 a,Z5 b,Z5 c,(show decide (z<=P)=decide (z<=P) from rfl),rfl⟩
     ·rw[Z5 h1,Z5 h2,Z5 a,Z5 b,Z6 c];exact qzz 0 [] 1 (λq=>_/\_/\_/\_/\_/\q) [.b Z,.b Z,.b Z,.b Z,.b Y7] ⟨Z5 h1,Z5 h2,Z5 a,Z5 b,Z6 c,rfl⟩
    ·rw[Z5 h1,Z5 h2,Z5 a,Z6 b];exact qzz 0 [] 1 (λq=>_/\_/\_/\_/\q) [.b Z,.b Z,.b Z,.b Y7] ⟨Z5 h1,Z5 h2,Z5 a,Z6 b,rfl⟩
   ·rw[Z5 h1,Z5 h2,Z6 a];exact qzz 0 [] 1 (λq=>_/\_/\_/\q) [.b Z,.b Z,.b Y7] ⟨Z5 h1,Z5 h2,Z6 a,rfl⟩
  ·rw[Z5 h1,Z6 h2];exact qzz 0 [] 1 (λq=>_/\_/\q) [.b Z,.b Y7] ⟨Z5 h1,Z6 h2,rfl⟩
 ·rw[Z6 h1];exact qzz 0 [] 1 (λq=>_/\q) [.b Y7] ⟨Z6 h1,rfl⟩
noncomputable abbrev mvD:D:=.tup [.tup [.int 0,.int 0],.tup [.int 1,.int 0],.tup [.int (-1),.int 0],.tup [.int 0,.int 1],.tup [.int 0,.int (-1)]]
noncomputable abbrev clB:L M.S:=[.set (.var 3) (.bin .Sub (.var 3) (.idx (.idx (.glo "MOVES" mvD) (.var 5)) (.lit (.int 0)))),.set (.var 4) (.bin .Sub (.var 4) (.idx (.idx (.glo "MOVES" mvD) (.var 5)) (.lit (.int 1)))),.ite (.not (.call 4 [.var 0,.tup [.var 3,.var 4,.lit (.int 0)]])) [.ret (.lit .non)] []]
noncomputable def mvX:J->J×J
 |1=>(1,0)
 |2=>(-1,0)
 |3=>(0,1)
 |4=>(0,-1)
 |_=>(0,0)
noncomputable def stp(W H P x y s:J):Y4 (J×J):=if ing W H P (x - (mvX s).1) (y - (mvX s).2) 0 then Y (x - (mvX s).1,y - (mvX s).2) else B
def clb_ok(m)(st)(e:0<=s)(d:s<=4)(u v):(RL (callD fns (m+1))).ex [Y (szD W H P),Y u,Y v,Y (O x),Y (O y),Y (O s)] st clB=Y (match stp W H P x y s with|some q=>.nx [Y (szD W H P),Y u,Y v,Y (O q.1),Y (O q.2),Y (O s)]|none=>.rt .non,st):=by
 have c:∀s:J,atI [D.tup [O 0,O 0],Ya [O 1,O 0],Ya [O (-1),O 0],Ya [O 0,O 1],Ya [O 0,O (-1)]] s=Y (Ya [O (mvX s).1,O (mvX s).2])->(RL (callD fns (m+1))).ex [Y (szD W H P),Y u,Y v,Y (O x),Y (O y),Y (O s)] st clB=Y (match stp W H P x y s with|some q=>.nx [Y (szD W H P),Y u,Y v,Y (O q.1),Y (O q.2),Y (O s)]|none=>.rt .non,st):=λs hi=>by
  unfold stp;generalize mvX s=q at hi ⊢;obtain⟨dx,a⟩:=q;have b:=qik m st W H P (x - dx) (y - a) 0;dsimp only at hi ⊢
  cases hb:ing W H P (x - dx) (y - a) 0 with
  |true=>
   rw[hb]at b;exact qze 0 [4] 1 (λq=>_/\_/\_/\q) [.i (Ya [O dx,O a]),.n,.i (Ya [O dx,O a]),.n,.c (.bl Z,st)] ⟨hi,hi,b,rfl⟩
  |false=>
   rw[hb]at b;exact qze 0 [4] 1 (λq=>_/\_/\_/\q) [.i (Ya [O dx,O a]),.n,.i (Ya [O dx,O a]),.n,.c (.bl Y7,st)] ⟨hi,hi,b,rfl⟩
 have hc:s=0\/s=1\/s=2\/s=3\/s=4:=by lia
 rcases hc with rfl|rfl|rfl|rfl|rfl<;>exact c _ rfl
noncomputable def cO:Y4 (J×J)->D
 |some p=>cD p
 |none=>.non
noncomputable def clm(W H P:J):J->J->L J->Y4 (J×J)
 |x,y,[]=>Y (x,y)
 |x,y,s::r=>(stp W H P x y s).bind λq=>clm W H P q.1 q.2 r
theorem qd0{Q:J->Prop}:∀{l:L D},(∀q∈l,∃s,q=O s/\Q s)->∃a:L J,l=a.map O/\∀s∈a,Q s
 |[],_=>⟨[],rfl,Qqp _⟩
 |d::r,h=>by
  obtain⟨s,rfl,hs⟩:=h _ (.head _);obtain⟨a,rfl,c⟩:=qd0 λq b=>h q (.tail _ b);exact⟨s::a,rfl,Qjf.mpr ⟨hs,c⟩⟩
def qhw{c:L J}(hs:∀s∈c,0<=s/\s<=4):∃o:Y4 (J×J),∀m st,callD fns (m+2) 30 [szD W H P,.tup (c.map O),.tup [O x,O y,O z]] st=Y (cO o,st):=by
 obtain⟨E,u,F⟩:=qd0 (l:=cut (c.map D.int) B (Y z)) (Q:=λs=>0<=s/\s<=4) λq n=>by
  unfold cut at n;obtain⟨s,h1,rfl⟩:=Qqv.mp (List.mem_of_mem_drop (List.mem_of_mem_take n));exact⟨s,rfl,hs s h1⟩
 refine⟨clm W H P x y E.reverse,λm st=>?_⟩;have p:(RL (callD fns (m+1))).ev [Y (szD W H P),Y (.tup (c.map O)),Y (.tup [O x,O y,O z]),Y (O x),Y (O y),B] st (.sli (.var 1) B (Y (.idx (.var 2) (.lit (O 2)))))=Y (.tup (cut (c.map O) B (Y z)),st):=qzf 0 [] 1 (λq=>q) [] rfl;generalize A:E.reverse=R;have w:∀s∈R,0<=s/\s<=4:=λs h=>F s (by rw[<- A]at h; exact List.mem_reverse.mp h);have i:(cut (c.map D.int) B (Y z)).reverse=R.map O:=by rw[u,<- List.map_reverse,A]
 generalize cut (c.map D.int) B (Y z)=r at p i;rcases qib (it:=.rev (.sli (.var 1) B (Y (.idx (.var 2) (.lit (O 2)))))) (t:=.var 5) (ds:=R.map O)
  (λk d st'=>∃g f a,clm W H P x y R=clm W H P g f (R.drop k)/\d=[Y (szD W H P),Y (.tup (c.map O)),Y (.tup [O x,O y,O z]),Y (O g),Y (O f),a]/\st'=st) (λv st'=>clm W H P x y R=B/\v=.non/\st'=st)
  (by show((RL (callD fns (m+1))).ev _ _ _).bind _=_; rw[p]; rfl) (by rw[<- i,List.length_reverse]; rfl) (λk d st' _=>by
   rw[<- i];show Y (if k<r.length then r[r.length - 1 - k]? else B)=_
   by_cases j:k<r.length
   ·rw[Z8 j,List.getElem?_reverse j]
   ·rw[Z7 j,Qzm (by rw[List.length_reverse]; lia)]) ⟨_,_,_,rfl,rfl,rfl⟩ (λk d st' q n h=>by
   obtain⟨g,f,a,b,rfl,rfl⟩:=h;rw[Qqw]at n;obtain⟨s,hs,rfl⟩:=Qqd.mp n;obtain⟨j,hs⟩:=Qqk.mp hs;have C:=w s (hs▸Qxe j);rw[Qx1 j,hs]at b;have e:=clb_ok m st' C.1 C.2 (.tup (c.map O)) (.tup [O x,O y,O z]) (W:=W) (H:=H) (P:=P) (x:=g) (y:=f);have b:clm W H P x y R=(stp W H P g f s).bind λq=>clm W H P q.1 q.2 (R.drop (k+1)):=b
   cases hb:stp W H P g f s with
   |some q=>
    rw[hb]at b e;exact .inl ⟨_,_,e,q.1,q.2,_,b,rfl,rfl⟩
   |none=>
    rw[hb]at b e
    exact .inr ⟨_,_,e,b,rfl,rfl⟩) with⟨d,st',e,g,f,a,b,rfl,rfl⟩|⟨v,st',e,b,rfl,rfl⟩
 ·rw[Qqx,List.drop_length]at b;rw[b];exact qzz 0 [] 2 (λq=>_/\q) [.n,.n,.s (.nx [Y (szD W H P),Y (.tup (c.map O)),Y (.tup [O x,O y,O z]),Y (O g),Y (O f),a],st')] ⟨e,rfl⟩
 ·rw[b];exact qzz 0 [] 2 (λq=>_/\q) [.n,.n,.s (.rt .non,st')] ⟨e,rfl⟩
theorem qeq{g:D->Y4 D}{Q:J->Prop}:∀{ds:L D},(∀d∈ds,∀x,g d=Y x->∃i,x=O i/\Q i)->∃ys:L J,ds.filterMap g=ys.map O/\ys.length<=ds.length/\∀y∈ys,Q y
 |[],_=>⟨[],rfl,Qqj _,Qqp _⟩
 |d::r,h=>by
  obtain⟨ys,e,l,q⟩:=qeq λx b=>h x (.tail _ b);rw[Qzh,e]
  cases c:g d with
  |none=>exact⟨ys,rfl,Qxj l,q⟩
  |some x=>
   obtain⟨i,rfl,hi⟩:=h d (.head _) x c
   exact⟨i::ys,rfl,Qj5 l,λy a=>by
    rcases Qqa.mp a with rfl|a
    ·exact hi
    ·exact q y a⟩
def VsOk(vs:L (J×D×L (J×J))):Prop:=∀v∈vs,(∃ss:L J,v.2.1=.tup (ss.map .int)/\(∀s∈ss,0<=s/\s<=4)/\ss.length<1000)/\v.2.2.length<=16
noncomputable def enW(w:D):D->Y4 D
 |.tup [.int i,x]=>if eqT x w then Y (.int i) else B
 |_=>B
noncomputable def ltW(n:Y1):D->Y4 D
 |.int i=>if decide (i<(n:J)) then Y (.int i) else B
 |_=>B
section
variable {p:Pl}{d:J}{jo:L (D×D)}{ro:L J}{S:Y2}{cs:L Cl}{vs:L (J×D×L (J×J))}
noncomputable abbrev vD(v:J×D×L (J×J)):D:=.tup [v.2.1,.tup (v.2.2.map cD)]
def qko(m)(A:FA p sz d (voD vs) jo cs ro S)(a:(vs.map (·.1)).Nodup)(hv:v∈vs):callD fns (m+1) 59 [Y3 p.a,O v.1] S=Y (vD v,S):=by
 have h:=qyb hv a;exact qzz 0 [] 1 (λq=>_/\_/\_/\_/\_/\_/\q) [.r (p.fc sz d),.r (.dic Z (voD vs)),.q (Y (vD v)),.r (p.fc sz d),.r (.dic Z (voD vs)),.q (Y (vD v))] ⟨A.hf,A.hv,h,A.hf,A.hv,h,rfl⟩
def qak(m)(A:FA p sz d (voD vs) jo cs ro S)(a:(vs.map (·.1)).Nodup)(hv:v∈vs):callD fns (m+1) 60 [Y3 p.a,O v.1] S=Y ((dget jo (O v.1)).getD .non,S):=by
 have h:=qyb hv a;exact qzz 0 [] 1 (λq=>_/\_/\_/\_/\_/\_/\_/\q) [.r (p.fc sz d),.r (.dic Z (voD vs)),.q (Y (vD v)),.r (p.fc sz d),.r (.dic Z jo),.r (.dic Z jo),.q (dget jo (O v.1))] ⟨A.hf,A.hv,h,A.hf,A.hj,A.hj,(show dget jo (O v.1)=dget jo (O v.1) from rfl),rfl⟩
def met_ok(r:(vs.map (·.1)).Nodup)(hv:v∈vs)(hV:VsOk vs){xs:L J}(a2:xs.length<=16)(R:∀x∈xs,0<=x)(hj:dget jo (O v.1)=B\/∃b f,dget jo (O v.1)=Y (.tup [O b,O f])):
  ∃ys:L J,(∀(m:Y1) (p:Pl) (S:Y2),FA p (szD W H P) d (voD vs) jo cs ro S->∀j kvs,S[j]?=Y (.dic Z kvs)->(∀b f,dget jo (O v.1)=Y (.tup [O b,O f])->∃l,dget kvs (O b)=Y (Y3 l)/\S[l]?=Y (Y5 Z (xs.map O)))->callD fns (m+3) 31 [Y3 p.a,O v.1,.tup [O x,O y,O z],Y3 j] S=Y (Y3 S.length,S++[Y5 Z (ys.map O)]))/\ys.length<=16/\∀y∈ys,0<=y/\y<(v.2.2.length:J):=by
 obtain⟨⟨ss,es,U,_⟩,a1⟩:=hV v hv;obtain⟨o,hc⟩:=qhw (W:=W) (H:=H) (P:=P) (x:=x) (y:=y) (z:=z) U;generalize hw:cO o=w at hc;have T:∀(m:Y1) (p:J×J) (S:Y2) (n:Y1),(RL (callD fns (m+2))).tst [Y (O n),Y (cD p),Y w] S (.cmp .Eq (.var 1) (.var 2))=Y (eqT (cD p) w,S):=λm p S n=>by
  subst hw
  cases o with
  |none=>exact qzl 0 [] 2 (λq=>q) [] rfl
  |some q=>exact qzl 0 [] 2 (λq=>q) [] rfl
 obtain⟨ys,e,l,q⟩:=qeq (g:=enW w) (Q:=λy=>0<=y/\y<(v.2.2.length:J)) (ds:=v.2.2.zipIdx.map λp=>D.tup [O (p.2:J),cD p.1]) (λx I u c=>by
  obtain⟨p,hp,rfl⟩:=Qqv.mp I;have hi:=List.snd_lt_of_mem_zipIdx hp;have c:(if eqT (cD p.1) w then Y (D.int (p.2:J)) else B)=Y u:=c
  split at c
  ·cases c; exact⟨_,rfl,by lia,by lia⟩
  ·cases c)
 rw[Qqx,Qjn]at l;have own:∀(m:Y1) (S:Y2) (a j:Y1) (k:D),stepEv (RL (callD fns (m+2))) [Y (Y3 a),Y (O v.1),Y (.tup [O x,O y,O z]),Y (Y3 j),Y (vD v),Y k,Y w] S (.comp (.tup [0,1]) (.enu (.idx (.var 4) (.lit (O 1)))) (Y (.cmp .Eq (.var 1) (.var 2))) (.var 0) [B,B,Y 6])=Y (Y3 S.length,S++[Y5 Z (ys.map O)]):=λm S a j k=>by
  have F:(RL (callD fns (m+2))).ev [Y (Y3 a),Y (O v.1),Y (.tup [O x,O y,O z]),Y (Y3 j),Y (vD v),Y k,Y w] S (.idx (.var 4) (.lit (O 1)))=Y (.tup (v.2.2.map cD),S):=qzf 0 [] 2 (λq=>q) [] rfl;have a0:∀i:Y1,((v.2.2.zipIdx.map λp=>D.tup [O (p.2:J),cD p.1])[i]?)=((v.2.2.map cD)[i]?).map λx=>D.tup [O i,x]:=λi=>by
   rw[Qqw,List.getElem?_zipIdx,Qqw]
   cases v.2.2[i]? with
   |none=>rfl
   |some p=>show Y (D.tup [O ((0+i:Y1):J),cD p])=_; rw[Qx4]; rfl
  have h:=qqg (t:=.tup [0,1]) (it:=.enu (.idx (.var 4) (.lit (O 1)))) (elt:=.var 0) (sr:=[B,B,Y 6]) (enW w) (λτ=>∃a b,τ=[a,b,Y w])
   (by show((RL (callD fns (m+2))).ev _ _ _).bind _=_; rw[F]; rfl) (λi=>by rw[a0]; rfl) (by rw[Qqx,Qjn]; show(v.2.2.map cD).length=_; rw[Qqx]) (by rw[Qqx,Qjn]; unfold lim; lia) ⟨B,B,rfl⟩ (λτ x I C=>by
    obtain⟨a,b,rfl⟩:=C;obtain⟨p,hp,rfl⟩:=Qqv.mp I
    exact⟨[Y (O (p.2:J)),Y (cD p.1),Y w],turn_if rfl (T m p.1 S p.2) λ_=>qje _ _ _ _ _ rfl,_,_,rfl⟩)
  rw[e]at h;exact h
 have N:∀k:D,(dget jo (O v.1)).getD .non=k->(isNon k=Z\/∃b f,k=.tup [O b,O f]/\¬ f<=z)->∀(m:Y1) (p:Pl) (S:Y2),FA p (szD W H P) d (voD vs) jo cs ro S->∀j,callD fns (m+3) 31 [Y3 p.a,O v.1,.tup [O x,O y,O z],Y3 j] S=Y (Y3 S.length,S++[Y5 Z (ys.map O)]):=λk hn h2 m p S A j=>by
  have G:=qko (m+1) A r hv;have h1:=qak (m+1) A r hv;rw[hn]at h1;have hc:=hc m S;have e:=own m S p.a j k;unfold vD at G e;rw[es]at G e;rcases h2 with h2|⟨b,f,rfl,h2⟩
  ·exact qzz 0 [59,60,30] 3 (λq=>_/\_/\_/\_/\_/\_/\_/\_/\_/\q) [.r (p.fc (szD W H P) d),.c (.tup [.tup (ss.map O),.tup (v.2.2.map cD)],S),.r (p.fc (szD W H P) d),.c (k,S),.b Y7,.r (p.fc (szD W H P) d),.r (p.fc (szD W H P) d),.c (w,S),.c (Y3 S.length,S++[Y5 Z (ys.map O)])] ⟨A.hf,G,A.hf,h1,(show(!isNon k)=Y7 by rw[h2]; rfl),A.hf,A.hf,hc,e,rfl⟩
  ·exact qzz 0 [59,60,30] 3 (λq=>_/\_/\_/\_/\_/\_/\_/\_/\_/\q) [.r (p.fc (szD W H P) d),.c (.tup [.tup (ss.map O),.tup (v.2.2.map cD)],S),.r (p.fc (szD W H P) d),.c (.tup [O b,O f],S),.k,.b Y7,.r (p.fc (szD W H P) d),.r (p.fc (szD W H P) d),.c (w,S),.c (Y3 S.length,S++[Y5 Z (ys.map O)])] ⟨A.hf,G,A.hf,h1,Z6 h2,A.hf,A.hf,hc,e,rfl⟩
 rcases hj with hj|⟨b,f,hj⟩
 ·exact⟨ys,λm p S A j kvs _ _=>N .non (by rw[hj]; rfl) (.inl rfl) m p S A j,by lia,q⟩
 ·by_cases hf:f<=z
  ·obtain⟨ys,e,le,q⟩:=qeq (g:=ltW (v.2.2.map cD).length) (Q:=λy=>0<=y/\y<(v.2.2.length:J)) (ds:=xs.map O) (λx I u c=>by
    obtain⟨i,hi,rfl⟩:=Qqv.mp I;have c:(if decide (i<((v.2.2.map cD).length:J)) then Y (D.int i) else B)=Y u:=c
    split at c
    ·rename_i V;cases c;have:=of_decide_eq_true V;rw[Qqx]at this;exact⟨_,rfl,R i hi,this⟩
    ·cases c)
   rw[Qqx]at le;refine⟨ys,λm p S A j kvs hk X=>?_,by lia,q⟩;obtain⟨l,hb,hl⟩:=X b f hj;have G:=qko (m+1) A r hv;have K:=qak (m+1) A r hv;rw[hj]at K;have E:listAt S l=Y (xs.map O):=by unfold listAt; rw[hl]
   have F:(RL (callD fns (m+2))).ev [Y (Y3 p.a),Y (O v.1),Y (.tup [O x,O y,O z]),Y (Y3 j),Y (vD v),Y (.tup [O b,O f]),B] S (.didx (.var 3) (.idx (.var 5) (.lit (O 0))))=Y (Y3 l,S):=
    qzf 0 [] 2 (λq=>_/\_/\q) [.n,.r (.dic Z kvs),.q (Y (Y3 l))] ⟨hk,hb,rfl⟩
   have h:=qqg (t:=.var 0) (it:=.didx (.var 3) (.idx (.var 5) (.lit (O 0)))) (test:=Y (.cmp .Lt (.var 0) (.bcall .len [.idx (.var 1) (.lit (O 1))]))) (elt:=.var 0) (sr:=[B,Y 4]) (s:=.lst (Y3 l)) (ltW (v.2.2.map cD).length) (λτ=>∃a,τ=[a,Y (vD v)])
    (by show((RL (callD fns (m+2))).ev _ _ _).bind _=_; rw[F]; show(listAt S l).map _=_; rw[E]; rfl) (qqp E) (qzt E) (by rw[Qqx]; unfold lim; lia) ⟨B,rfl⟩ (λτ u c C=>by
     obtain⟨a,rfl⟩:=C;obtain⟨i,hi,rfl⟩:=Qqv.mp c
     exact⟨[Y (O i),Y (vD v)],turn_if rfl (qzl 0 [] 2 (λq=>_/\q) [.b (decide (i<((v.2.2.map cD).length:J)))] ⟨(show decide (i<((v.2.2.map cD).length:J))=decide (i<((v.2.2.map cD).length:J)) from rfl),rfl⟩) λ_=>qje _ _ _ _ _ rfl,_,rfl⟩)
   rw[e]at h;exact qzz 0 [59,60,30] 3 (λq=>_/\_/\_/\_/\_/\_/\q) [.r (p.fc (szD W H P) d),.c (vD v,S),.r (p.fc (szD W H P) d),.c (.tup [O b,O f],S),.k,.b Z,.c (Y3 S.length,S++[Y5 Z (ys.map O)])] ⟨A.hf,G,A.hf,K,Z5 hf,h,rfl⟩
  ·exact⟨ys,λm p S A j kvs _ _=>N _ (by rw[hj]; rfl) (.inr ⟨b,f,rfl,hf⟩) m p S A j,by lia,q⟩
end
noncomputable def metD:Y1->L J->L (D×D)
 |_,[]=>[]
 |Bq,a::r=>(.int a,.loc Bq)::metD (Bq+1) r
theorem qy7(a):∀(r:L J) (Bq:Y1),metD Bq (r++[a])=metD Bq r++[(O a,Y3 (Bq+r.length))]
 |[],Bq=>rfl
 |x::r,Bq=>by
  show(D.int x,D.loc Bq)::metD (Bq+1) (r++[a])=_;rw[qy7 a r,Qqg,show Bq+1+r.length=Bq+(r.length+1) by lia]
  rfl
theorem qw4:∀{r}{Bq i},r.Nodup->r[i]?=Y n->dget (metD Bq r) (O n)=Y (Y3 (Bq+i))
 |x::r,Bq,i,hn,hi=>by
  unfold dget;show Option.map _ (match (x==n) with|true=>_|false=>_)=_;rw[Qzj]at hn
  cases i with
  |zero=>cases hi; rw[beq_self_eq_true]; rfl
  |succ i=>
   have hi:=hi;have a:x≠n:=λe=>hn.1 (by rw[e]; exact Qqo hi);rw[beq_false_of_ne a];have:=qw4 (Bq:=Bq+1) hn.2 hi;rw[show Bq+1+i=Bq+(i+1) by lia]at this;exact this
theorem qdw:∀(r:L J) (Bq:Y1),(metD Bq r).length=r.length
 |[],_=>rfl
 |_::r,Bq=>congrArg (· + 1) (qdw r (Bq+1))
theorem qdy:∀{r}{Bq},p∈metD Bq r->∃x∈r,p.1=O x
 |a::r,Bq,h=>by
  rcases Qqa.mp h with rfl|h
  ·exact⟨a,.head _,rfl⟩
  ·obtain⟨x,b,e⟩:=qdy h;exact⟨x,.tail _ b,e⟩
theorem set0{ls:Y2}:∀{R},(R++a::b::ls).set R.length a'=R++a'::b::ls
 |[]=>rfl
 |x::r=>congrArg (x::·) (set0)
theorem set1{ls:Y2}:∀{R},(R++a::b::ls).set (R.length+1) b'=R++a::b'::ls
 |[]=>rfl
 |x::r=>congrArg (x::·) (set1)
theorem get0(i):∀{R:Y2},(R++ls)[R.length+i]?=ls[i]?
 |[]=>by rw[List.nil_append,Qj9,Qx4]
 |x::r=>by
  rw[Qqg,show r.length+1+i=(r.length+i)+1 by lia];exact get0 i
def gc_at(h:ex[i]?=Y (Y5 Z ds))(a:noLocs ds=Z):gcD st (Y3 (st.length+i),st++ex)=(Yd ds,st):=by
 rw[gc_x (by simp)];unfold gcX;rw[Z7 (by simp[noLoc])];simp only[Qjj,if_true,get0,h,a];simp
def CoI(vs:L (J×D×L (J×J)))(pr:L (J×J)):Prop:=∀p∈pr,∃v∈vs,v.1=p.1/\0<=p.2/\p.2<(v.2.2.length:J)
noncomputable abbrev ysC(ys:L J):Yb:=.lst Z (ys.map .int)
def JoI(vs:L (J×D×L (J×J)))(jo:L (D×D)):Prop:=∀p∈jo,∃a b f:J,p=(.int a,.tup [.int b,.int f])/\b<a/\b∈vs.map (·.1)
def jo_get(Jq:JoI vs jo)(h:dget jo (O a)=Y x):∃b f:J,x=Ya [O b,O f]/\b<a/\b∈vs.map (·.1):=by
 unfold dget at h;obtain⟨p,c,rfl⟩:=Qqd.mp h;obtain⟨d,b,f,rfl,h1,h2⟩:=Jq p (Qzu c);have e:=Qx0 c;have e:=e;cases beq_iff_eq.mp e;exact⟨b,f,rfl,h1,h2⟩
section
noncomputable abbrev coB:L M.S:=[.dset (.var 2) (.var 4) (.call 31 [.var 0,.var 4,.var 1,.var 2]),.expr (.meth (.var 3) .extend [.gc (.comp (.var 0) (.didx (.var 2) (.var 4)) B (.tup [.var 1,.var 0]) [B,Y 4])])]
noncomputable abbrev coX(S:Y2)(vs:L (J×D×L (J×J)))(k:Y1)(s:L (J×J)×L (L J)):Y2:=S++.dic Z (metD (S.length+2) ((vs.take k).map (·.1)))::.lst Z (s.1.map cD)::s.2.map ysC
theorem chain{S:Type}{I:Y1->S->Prop}{R:Y1->S->S->Prop}{s0:S}(b:I 0 s0):∀n:Y1,(∀k s,k<n->I k s->∃s',I (k+1) s'/\R k s s')->∃f:Y1->S,f 0=s0/\(∀k,k<=n->I k (f k))/\∀k,k<n->R k (f k) (f (k+1))
 |0,_=>⟨λ_=>s0,rfl,λk a=>by cases Nat.le_zero.mp a; exact b,λk a=>absurd a (Nat.not_lt_zero k)⟩
 |n+1,h=>by
  obtain⟨f,e,hi,hr⟩:=chain b n λk s a=>h k s (Qxl a);obtain⟨s',h1,h2⟩:=h n (f n) (Qzb n) (hi n (Qqj n));refine⟨λk=>if k<=n then f k else s',(Z8 (Qq8 n)).trans e,λk a=>?_,λk a=>?_⟩<;>dsimp only
  ·by_cases c:k<=n
   ·rw[Z8 c]; exact hi k c
   ·rw[Z7 c,show k=n+1 by lia]; exact h1
  ·rw[Z8 (Qxk a)]
   by_cases c:k+1<=n
   ·rw[Z8 c]; exact hr k c
   ·rw[Z7 c,show k=n by lia]; exact h2
noncomputable abbrev coT(a n:Y1)(x y z:J)(o:Y4 D):Sl:=[Y (.loc a),Y (.tup [.int x,.int y,.int z]),Y (.loc n),Y (.loc (n+1)),o]
def qno(a0:(vs.map (·.1)).Pairwise (· < ·))(c7:vs.length<60)(hV:VsOk vs)(Jq:JoI vs jo){x y z:J}(b7:ing W H P x y z=Z):
  ∃l:L (J×J),CoI vs l/\l.length<=16*vs.length/\∀(m:Y1) (p:Pl) (S:Y2),FA p (szD W H P) d (voD vs) jo cs ro S->∃ex:Y2,callD fns (m+4) 32 [Y3 p.a,.tup [O x,O y,O z]] S=Y (Y3 (S.length+1),S++ex)/\ex[1]?=Y (Y5 Z (l.map cD)):=by
 have G:(vs.map (·.1)).Nodup:=a0.imp λh=>by lia
 have keys:keysOf (voD vs)=vs.map λv=>D.int v.1:=by unfold keysOf voD; rw[Qq7]; rfl
 obtain⟨F,c6,c5,c4⟩:=chain (S:=L (J×J)×L (L J)) (I:=λk s=>s.2.length=k/\(∀ys∈s.2,ys.length<=16/\∀u∈ys,0<=u)/\CoI vs s.1/\s.1.length<=16*k)
  (R:=λk s s'=>∀v,vs[k]?=Y v->∀(m:Y1) (p:Pl) (S:Y2),FA p (szD W H P) d (voD vs) jo cs ro S->∀o:Y4 D,((setT (.var 4) (O v.1) (coT p.a S.length x y z o)).bind λa8=>(RL (callD fns (m+3))).ex a8 (coX S vs k s) coB)=Y (.nx (coT p.a S.length x y z (Y (O v.1))),coX S vs (k+1) s')) (s0:=([],[])) ⟨rfl,Qqp _,Qqp _,Qqj _⟩ vs.length λk s n h=>by
  obtain⟨l,j⟩:=s;obtain⟨h4,T,h6,h7⟩:=h;dsimp only at h4 T h6 h7;obtain⟨v,hv⟩:∃v,vs[k]?=Y v:=⟨_,Qqi n⟩
  have a1:=Qqo hv;have tk:(vs.take (k+1)).map (·.1)=(vs.take k).map (·.1)++[v.1]:=by rw[Qxc,hv,Qqm]; rfl
  have nk:=(List.Sublist.map (·.1) (Qx7 k vs)).nodup G;have C:=(List.Sublist.map (·.1) (Qx7 (k+1) vs)).nodup G;generalize N:(vs.take k).map (·.1)=ns at nk C tk;have nl:ns.length=k:=by rw[<- N,Qqx,Qzk]; lia
  have b0:∃xs:L J,xs.length<=16/\(∀x∈xs,0<=x)/\(dget jo (O v.1)=B\/∃b f,dget jo (O v.1)=Y (.tup [O b,O f]))/\∀b f,dget jo (O v.1)=Y (.tup [O b,O f])->∃i:Y1,ns[i]?=Y b/\j[i]?=Y xs:=by
   cases hj:dget jo (O v.1) with
   |none=>exact⟨[],Qq8 _,Qqp _,.inl rfl,λb f e=>by cases e⟩
   |some u=>
    obtain⟨b,f,rfl,hb,c2⟩:=jo_get Jq hj;obtain⟨vb,b5,rfl⟩:=Qqv.mp c2;obtain⟨i,hi⟩:=List.mem_iff_getElem?.mp b5;have b8:=(Qqk.mp hi).1;have b9:i<k:=by
     by_cases c:i<k
     ·exact c
     ·exfalso;have b3:(vs.map (·.1))[k]?=Y v.1:=by rw[Qqw,hv]; rfl
      have b4:(vs.map (·.1))[i]?=Y vb.1:=by rw[Qqw,hi]; rfl
      obtain⟨_,e1⟩:=Qqk.mp b3;obtain⟨_,e2⟩:=Qqk.mp b4
      by_cases e:i=k
      ·subst e; rw[e1]at e2; lia
      ·have:=Qxu.mp a0 k i (by simpa using n) (by simpa using b8) (by lia);rw[e1,e2]at this
       lia
    have a4:ns[i]?=Y vb.1:=by rw[<- N,Qqw,Qj1 b9,hi]; rfl
    have V:i<j.length:=by lia
    have T:=T _ (Qxe V);exact⟨j[i],T.1,T.2,.inr ⟨_,_,rfl⟩,λb f e=>by cases e; exact⟨i,a4,Qqi V⟩⟩
  obtain⟨xs,x1,x2,x3,x4⟩:=b0;obtain⟨ys,hm,m1,m2⟩:=met_ok (W:=W) (H:=H) (P:=P) (d:=d) (cs:=cs) (ro:=ro) (x:=x) (y:=y) (z:=z) G a1 hV x1 x2 x3;refine⟨(l++ys.map (λi=>(v.1,i)),j++[ys]),⟨by simp[h4],?_,?_,?_⟩,λv' b6 m p S A o=>?_⟩
  ·intro u E;rcases Qql.mp E with E|E
   ·exact T u E
   ·cases Qqy.mp E; exact⟨m1,λi hi=>(m2 i hi).1⟩
  ·intro p K;rcases Qql.mp K with K|K
   ·exact h6 p K
   ·obtain⟨i,hi,rfl⟩:=Qqv.mp K;exact⟨v,a1,rfl,m2 i hi⟩
  ·rw[Qqe,Qqx]; lia
  cases hv.symm.trans b6;have c0:∀p∈metD (S.length+2) ns,eqT p.1 (O v.1)=false:=λp K=>by
   obtain⟨u,E,e⟩:=qdy K;rw[tk,Qxb]at C;rw[e];exact beq_false_of_ne (C.2.2 u E v.1 (Qqy.mpr rfl))
  have a2:dput (metD (S.length+2) ns) (O v.1) (Y3 (S.length+2+k))=metD (S.length+2) (ns++[v.1]):=by
   rw[qxr c0,qy7,nl]
  have hm:=hm m p _ (A.app (.dic Z (metD (S.length+2) ns)::Y5 Z (l.map cD)::j.map ysC)) S.length (metD (S.length+2) ns) (get0 0) λb f e=>by
   obtain⟨i,i1,i2⟩:=x4 b f e;refine⟨_,qw4 nk i1,?_⟩;rw[show S.length+2+i=S.length+(i+2) by lia,get0];show(j.map ysC)[i]?=_;rw[Qqw,i2]
   rfl
  unfold coX;rw[N,tk];dsimp only;generalize hX:S++.dic Z (metD (S.length+2) ns)::Y5 Z (l.map cD)::j.map ysC=X at hm ⊢;have c3:X.length=S.length+2+k:=by rw[<- hX]; simp[h4]; lia
  have r0:(X++[ysC ys])[S.length]?=Y (.dic Z (metD (S.length+2) ns)):=by rw[<- hX,Qzq]; exact get0 0
  have a3:(ns++[v.1])[k]?=Y v.1:=by rw[<- nl]; simp
  have hq:=qw4 (Bq:=S.length+2) (tk▸C) a3;have b1:decide ((metD (S.length+2) ns).length<lim)=true:=Z5 (by rw[qdw,nl]; unfold lim; lia);have e2:=set1 (a:=.dic Z (metD (S.length+2) (ns++[v.1]))) (b:=Y5 Z (l.map cD)) (b':=Y5 Z (l.map cD++(ys.map λi=>(v.1,i)).map cD)) (ls:=(j++[ys]).map ysC) (R:=S);have r1:=get0 (R:=S) (ls:=.dic Z (metD (S.length+2) (ns++[v.1]))::Y5 Z (l.map cD)::(j++[ys]).map ysC) 1;have g:=get0 (R:=S) (ls:=.dic Z (metD (S.length+2) (ns++[v.1]))::Y5 Z (l.map cD)::(j++[ys]).map ysC) 0;have Q:listAt (S++.dic Z (metD (S.length+2) (ns++[v.1]))::Y5 Z (l.map cD)::(j++[ys]).map ysC) (S.length+2+k)=Y (ys.map O):=by
   unfold listAt;rw[show S.length+2+k=S.length+(k+2) by lia,get0,<- h4];simp
  have eY:(coT p.a S.length x y z (Y (O v.1)),(X++[ysC ys]).set S.length (.dic Z (dput (metD (S.length+2) ns) (O v.1) (Y3 X.length))))=(coT p.a S.length x y z (Y (O v.1)),S++.dic Z (metD (S.length+2) (ns++[v.1]))::Y5 Z (l.map cD)::(j++[ys]).map ysC):=by
   rw[c3,a2,<- hX,Qzq];show(_,(S++.dic Z (metD (S.length+2) ns)::Y5 Z (l.map cD)::(j.map ysC++[ysC ys])).set _ _)=_;rw[set0,Qqm]
   rfl
  rw[Qqm,<- e2];generalize S++.dic Z (metD (S.length+2) (ns++[v.1]))::Y5 Z (l.map cD)::(j++[ys]).map ysC=U at *;have a6:(RL (callD fns (m+3))).ev (coT p.a S.length x y z (Y (O v.1))) U (.didx (.var 2) (.var 4))=Y (Y3 (S.length+2+k),U):=
   qzf 0 [] 3 (λq=>_/\_/\q) [.r (.dic Z (metD (S.length+2) (ns++[v.1]))),.q (Y (Y3 (S.length+2+k)))] ⟨g,hq,rfl⟩
  have a7:=qqg (t:=.var 0) (it:=.didx (.var 2) (.var 4)) (elt:=.tup [.var 1,.var 0]) (sr:=[B,Y 4]) (s:=.lst (Y3 (S.length+2+k))) (λu=>Y (.tup [O v.1,u])) (λτ=>∃a,τ=[a,Y (O v.1)])
   (by show((RL (callD fns (m+3))).ev _ _ _).bind _=_; rw[a6]; show(listAt _ _).map _=_; rw[Q]; rfl) (qqp Q) (qzt Q) (by rw[Qqx]; unfold lim; lia) ⟨B,rfl⟩ (λτ u E a9=>by
    obtain⟨a,rfl⟩:=a9;obtain⟨i,hi,rfl⟩:=Qqv.mp E
    exact⟨[Y (O i),Y (O v.1)],qkp rfl (qzf 0 [] 3 (λq=>q) [] rfl),_,rfl⟩)
  have ef:(ys.map D.int).filterMap (λu=>Y (D.tup [O v.1,u]))=(ys.map λi=>(v.1,i)).map cD:=by
   rw[Qxf,Qq7];exact Qxp▸rfl
  rw[ef]at a7;have g2:=qzc (st:=U) (ds:=(ys.map λi=>(v.1,i)).map cD) (qzi λ_ _=>rfl);have b2:decide ((l.map cD).length+((ys.map λi=>(v.1,i)).map cD).length<=lim)=true:=Z5 (by simp only[Qqx]; unfold lim; lia);exact qze 0 [31] 3 (λq=>_/\_/\_/\_/\_/\_/\_/\_/\_/\q) [.c (Y3 X.length,X++[ysC ys]),.r (.dic Z (metD (S.length+2) ns)),.b Z,.e (coT p.a S.length x y z (Y (O v.1)),U),.r (Y5 Z (l.map cD)),.c (Y3 U.length,U++[Y5 Z ((ys.map λi=>(v.1,i)).map cD)]),.l ((ys.map λi=>(v.1,i)).map cD),.r (Y5 Z (l.map cD)),.b Z]
   (r:=(.nx (coT p.a S.length x y z (Y (O v.1))),U.set (S.length+1) (Y5 Z (l.map cD++(ys.map λi=>(v.1,i)).map cD)))) ⟨hm,r0,b1,eY,r1,a7,g2,r1,b2,rfl⟩
 obtain⟨h4,T,h6,h7⟩:=c5 vs.length (Qqj _);refine⟨(F vs.length).1,h6,h7,λm p S A=>⟨.dic Z (metD (S.length+2) (vs.map (·.1)))::Y5 Z ((F vs.length).1.map cD)::(F vs.length).2.map ysC,?_,rfl⟩⟩;have A2:=A.app [.dic Z [],Y5 Z []];have c1:(RL (callD fns (m+3))).ev (coT p.a S.length x y z B) (S++[.dic Z [],Y5 Z []]) (.gc (.mcall 642 58 "veins" (.var 0) []))=Y (.lst (vs.map λv=>D.int v.1),S++[.dic Z [],Y5 Z []]):=by
  have g:=qzc (st:=S++[.dic Z [],Y5 Z []]) (ds:=keysOf (voD vs)) (by rw[keys]; exact qzi λ_ _=>rfl);rw[<- keys];exact qzf 0 [] 3 (λq=>_/\_/\_/\_/\q) [.r (p.fc (szD W H P) d),.r (p.fc (szD W H P) d),.r (.dic Z (voD vs)),.l (keysOf (voD vs))] ⟨A2.hf,A2.hf,A2.hv,g,rfl⟩
 obtain⟨w,st',h1,hk,o,rfl,rfl⟩:=qxp (st:=S++[.dic Z [],Y5 Z []]) (it:=.gc (.mcall 642 58 "veins" (.var 0) [])) (t:=.var 4) (body:=coB)
  (λk w st'=>k<=vs.length/\∃o:Y4 D,w=coT p.a S.length x y z o/\st'=coX S vs k (F k))
  (by show((RL (callD fns (m+3))).ev _ _ _).bind _=_; rw[c1]; rfl) (qzt rfl) (λk w st' _=>qqp rfl k) ⟨Qq8 _,B,rfl,by rw[c6]; rfl⟩ (λk w st' q hq h=>by
   obtain⟨hk,o,rfl,rfl⟩:=h;rw[Qqw]at hq;obtain⟨v,hv,rfl⟩:=Qqd.mp hq;have n:=(Qqk.mp hv).1
   exact⟨_,_,c4 k n v hv m p S A o,n,_,rfl,rfl⟩)
 unfold coX at h1;rw[Qqx,Qzc]at h1;have a5:=qik (m+2) S W H P x y z;rw[b7]at a5;have e0:(([Y (Y3 p.a),Y (.tup [O x,O y,O z]),Y (Y3 S.length),B,B]:Sl),(S++[Yb.dic Z []]).set S.length (.dic Z (dall [])))=([Y (Y3 p.a),Y (.tup [O x,O y,O z]),Y (Y3 S.length),B,B],S++[Yb.dic Z []]):=by
  rw[sl]
  rfl
 have e1:(([Y (Y3 p.a),Y (.tup [O x,O y,O z]),Y (Y3 S.length),Y (Y3 (S++[Yb.dic Z []]).length),B]:Sl),S++[Yb.dic Z []]++[Y5 Z []])=(coT p.a S.length x y z B,S++[.dic Z [],Y5 Z []]):=by
  rw[Qqe,Qzq]
  rfl
 exact qzz 0 [4] 4 (λq=>_/\_/\_/\_/\_/\_/\_/\q) [.r (p.fc (szD W H P) d),.r (p.fc (szD W H P) d),.c (.bl Z,S),.r (.dic Z []),.e ([Y (Y3 p.a),Y (.tup [O x,O y,O z]),Y (Y3 S.length),B,B],S++[Yb.dic Z []]),.e (coT p.a S.length x y z B,S++[.dic Z [],Y5 Z []]),.s (.nx (coT p.a S.length x y z o),S++.dic Z (metD (S.length+2) (vs.map (·.1)))::Y5 Z ((F vs.length).1.map cD)::(F vs.length).2.map ysC)] ⟨A.hf,A.hf,a5,gl (st:=S) (c:=.dic Z []),e0,e1,h1,rfl⟩
end
noncomputable def hiD(p:J×String):D:=.tup [.int p.1,sO p.2]
def nl_h(a:L (J×String)):noLocs (a.map hiD)=true:=qzi λ_ _=>rfl
def cov_ok(m)(st)(g)(x y z):callD fns (m+2) 36 [rD g,Ya [O x,O y,O z]] st=Y (.bl (inB g (x,y)),st):=
 qzz 0 [0] 2 (λq=>_/\q) [.c (.bl (inB g (x,y)),st)] ⟨qjt m st g (x,y),rfl⟩
noncomputable abbrev rkB:L M.S:=[.ite (.call 1 [.var 6,.var 1]) [.expr (.meth (.var 3) .append [.tup [.var 5,.lit (sO "dip")]])] [.ite (.call 36 [.var 6,.var 2]) [.expr (.meth (.var 4) .append [.tup [.var 5,.lit (sO "ground")]])] []]]
noncomputable abbrev rkS(st:Y2)(a b:L (J×String)):Y2:=st++[.lst Z (a.map hiD)]++[.lst Z (b.map hiD)]
def ap1{a:Yb}:(st++[a]++[b]).set st.length c=st++[c]++[b]:=by
 rw[Qzq,Qzq];exact set0
noncomputable def rkA(ps:L (J×J))(gs:L Cl):L (J×String):=gs.filterMap λc=>if hasB c.g ps then Y (c.nm,"dip") else B
noncomputable def rkG(ps:L (J×J))(p:J×J)(gs:L Cl):L (J×String):=gs.filterMap λc=>if hasB c.g ps then B else if inB c.g p then Y (c.nm,"ground") else B
def qcm{cs:L Cl}(I:∀c∈gs,c∈cs)(R:gs.length<1000){ps:L (J×J)}(H:ps.length<lim)(x y z):∃a b:L (J×String),(∀(m:Y1) (st:Y2),callD fns (m+3) 38 [.lst (sgD gs),.lst (ps.map cD),.tup [O x,O y,O z]] st=Y (Y3 (rkS st a b).length,rkS st a b++[Y5 Z (a.map hiD++b.map hiD)]))/\(∀p∈a++b,∃c∈cs,c.nm=p.1):=by
 refine⟨rkA ps gs,rkG ps (x,y) gs,λm st=>?_,λp l=>?_⟩
 rotate_left
 ·rcases Qql.mp l with l|l
  ·obtain⟨c,hc,e⟩:=Qz8.mp l
   split at e
   ·cases e; exact⟨c,I c hc,rfl⟩
   ·cases e
  ·obtain⟨c,hc,e⟩:=Qz8.mp l
   split at e
   ·cases e
   ·split at e
    ·cases e; exact⟨c,I c hc,rfl⟩
    ·cases e
 obtain⟨f,st',h1,Q,u,v,a,b,rfl,rfl,h2,C,A⟩:=qez (c:=callD fns (m+2)) (i:=0) (t:=.tup [5,6]) (body:=rkB)
  (λk f st'=>k<=gs.length/\∃(u v:Y4 D) (a b:L (J×String)),f=[Y (.lst (sgD gs)),Y (.lst (ps.map cD)),Y (.tup [O x,O y,O z]),Y (Y3 st.length),Y (Y3 (st++[Yb.lst Z []]).length),u,v]/\st'=rkS st a b/\a.length+b.length<=k/\a=rkA ps (gs.take k)/\b=rkG ps (x,y) (gs.take k))
  rfl ⟨Qq8 _,B,B,[],[],rfl,rfl,Qqj _,rfl,rfl⟩ (λk f st' _=>rfl) (λk f st' q o h=>by
   obtain⟨Q,u,v,a,b,rfl,rfl,h2,C,A⟩:=h;have d:=(Qqk.mp o).1;unfold sgD at o d;rw[Qqx]at d;rw[Qqw]at o;obtain⟨c,hc,rfl⟩:=Qqd.mp o;have tk:gs.take (k+1)=gs.take k++[c]:=by rw[Qxc,hc]; rfl
   have tA:rkA ps (gs.take (k+1))=a++rkA ps [c]:=by rw[tk,C]; exact Qjy
   have G:rkG ps (x,y) (gs.take (k+1))=b++rkG ps (x,y) [c]:=by rw[tk,A]; exact Qjy
   have F:rkA ps [c]=if hasB c.g ps then [(c.nm,"dip")] else []:=by unfold rkA; rw[Qzh]; split<;>simp_all
   have E:rkG ps (x,y) [c]=if hasB c.g ps then [] else if inB c.g (x,y) then [(c.nm,"ground")] else []:=by unfold rkG; rw[Qzh]; split<;>simp_all
   have n:=qiv m (st:=rkS st a b) (g:=c.g) (q:=.lst (ps.map cD)) rfl H;have hv:=cov_ok m (rkS st a b) c.g x y z;have L2:(st++[Yb.lst Z []]).length=(st++[Yb.lst Z (a.map hiD)]).length:=by simp
   have w:(rkS st a b)[st.length]?=Y (Y5 Z (a.map hiD)):=by unfold rkS; rw[Qzq]; exact get0 0
   have s:(rkS st a b)[(st++[Yb.lst Z []]).length]?=Y (Y5 Z (b.map hiD)):=by unfold rkS; rw[L2]; exact gl
   have P:decide ((a.map hiD).length<lim)=true:=Z5 (by rw[Qqx]; unfold lim; lia);have N:decide ((b.map hiD).length<lim)=true:=Z5 (by rw[Qqx]; unfold lim; lia)
   cases hb:hasB c.g ps with
   |true=>
    rw[hb]at n;refine⟨_,_,qze 0 [1,36] 2 (λq=>_/\_/\_/\_/\q) [.c (.bl Z,rkS st a b),.r (Y5 Z (a.map hiD)),.r (Y5 Z (a.map hiD)),.b Z] (r:=(.nx [Y (.lst (sgD gs)),Y (.lst (ps.map cD)),Y (.tup [O x,O y,O z]),Y (Y3 st.length),Y (Y3 (st++[Yb.lst Z []]).length),Y (O c.nm),Y (rD c.g)],(rkS st a b).set st.length (Y5 Z (a.map hiD++[hiD (c.nm,"dip")])))) ⟨n,w,w,P,rfl⟩,d,_,_,a++[(c.nm,"dip")],b,rfl,by unfold rkS; rw[ap1,Qqm]; rfl,by rw[Qqe]; simp only[Qxq]; lia,by rw[tA,F,hb]; rfl,by rw[G,E,hb]; exact(Qq5 b).symm⟩
   |false=>
    rw[hb]at n
    cases j:inB c.g (x,y) with
    |true=>
     rw[j]at hv;refine⟨_,_,qze 0 [1,36] 2 (λq=>_/\_/\_/\_/\_/\q) [.c (.bl Y7,rkS st a b),.c (.bl Z,rkS st a b),.r (Y5 Z (b.map hiD)),.r (Y5 Z (b.map hiD)),.b Z] (r:=(.nx [Y (.lst (sgD gs)),Y (.lst (ps.map cD)),Y (.tup [O x,O y,O z]),Y (Y3 st.length),Y (Y3 (st++[Yb.lst Z []]).length),Y (O c.nm),Y (rD c.g)],(rkS st a b).set (st++[Yb.lst Z []]).length (Y5 Z (b.map hiD++[hiD (c.nm,"ground")])))) ⟨n,hv,s,s,N,rfl⟩,d,_,_,a,b++[(c.nm,"ground")],rfl,by unfold rkS; rw[L2,sl,Qqm]; rfl,by rw[Qqe]; simp only[Qxq]; lia,by rw[tA,F,hb]; exact(Qq5 a).symm,by rw[G,E,hb,j]; rfl⟩
    |false=>
     rw[j]at hv
     exact⟨_,_,qze 0 [1,36] 2 (λq=>_/\_/\q) [.c (.bl Y7,rkS st a b),.c (.bl Y7,rkS st a b)] (r:=(.nx [Y (.lst (sgD gs)),Y (.lst (ps.map cD)),Y (.tup [O x,O y,O z]),Y (Y3 st.length),Y (Y3 (st++[Yb.lst Z []]).length),Y (O c.nm),Y (rD c.g)],rkS st a b)) ⟨n,hv,rfl⟩,d,_,_,a,b,rfl,rfl,by lia,by rw[tA,F,hb]; exact(Qq5 a).symm,by rw[G,E,hb,j]; exact(Qq5 b).symm⟩)
 rw[show(sgD gs).length=gs.length by unfold sgD; rw[Qqx],Qzc]at C A;rw[<- C,<- A];have L2:(st++[Yb.lst Z []]).length=(st++[Yb.lst Z (a.map hiD)]).length:=by simp
 have w:(rkS st a b)[st.length]?=Y (Y5 Z (a.map hiD)):=by unfold rkS; rw[Qzq]; exact get0 0
 have s:(rkS st a b)[(st++[Yb.lst Z []]).length]?=Y (Y5 Z (b.map hiD)):=by unfold rkS; rw[L2]; exact gl
 have d:(sgD gs).length=gs.length:=by unfold sgD; rw[Qqx]
 have K:decide (lim<(a.map hiD).length+(b.map hiD).length)=false:=Z6 (by simp only[Qqx]; unfold lim; lia);exact qzz 0 [] 3 (λq=>_/\_/\_/\_/\q) [.s (.nx [Y (.lst (sgD gs)),Y (.lst (ps.map cD)),Y (.tup [O x,O y,O z]),Y (Y3 st.length),Y (Y3 (st++[Yb.lst Z []]).length),u,v],rkS st a b),.r (Y5 Z (a.map hiD)),.r (Y5 Z (b.map hiD)),.b Y7] ⟨h1,w,s,K,rfl⟩
def qg5(m)(st)(a:L (J×String)):callD fns (m+1) 40 [Yd (a.map hiD)] st=Y (oD (a.head?.map (·.1)),st):=by
 cases a with
 |nil=>exact qzz 0 [] 1 (λq=>q) [.k] rfl
 |cons p r=>
  have e:idxD st (Yd (hiD p::r.map hiD)) (O 0)=Y (hiD p):=by
   show atI (hiD p::r.map hiD) 0=_;unfold atI ixN;rw[Z8 (by decide),Z8 (by simp)]
   rfl
  exact qzz 0 [] 1 (λq=>_/\q) [.k,.i (hiD p),.n] ⟨e,rfl⟩
section
variable {p:Pl}{d:J}{jo:L (D×D)}{ro:L J}{S:Y2}{cs:L Cl}{vs:L (J×D×L (J×J))}
def out_ok(m)(A:FA p sz d (voD vs) jo cs ro S)(a:(vs.map (·.1)).Nodup)(hv:v∈vs)(e:v.1=u.1)(g:0<=u.2)(f:u.2<(v.2.2.length:J)):callD fns (m+2) 34 [Y3 p.a,cD u] S=Y (cD (v.2.2[u.2.toNat]?.getD (0,0)),S):=by
 have hi:u.2.toNat<v.2.2.length:=by lia
 have c:=qko m A a hv;rw[e]at c;rw[Qqi hi];have b:idxD S (Ya (v.2.2.map cD)) (O u.2)=Y (cD v.2.2[u.2.toNat]):=by
  show atI (v.2.2.map cD) u.2=_;unfold atI ixN;rw[Z8 g,Z8 (by rw[Qqx]; exact f)];simp[Qqi hi]
 exact qzz 0 [59] 2 (λq=>_/\_/\_/\q) [.r (p.fc sz d),.n,.c (vD v,S),.n,.n,.i (cD v.2.2[u.2.toNat])] ⟨A.hf,c,b,rfl⟩
def qgi(b:(vs.map (·.1)).Nodup)(j:CoI vs a)(k:a.length<lim):∃ps:L (J×J),ps.length=a.length/\∀(m:Y1) (p:Pl) (S:Y2) (sz:D),FA p sz d (voD vs) jo cs ro S->callD fns (m+3) 35 [Y3 p.a,Yd (a.map cD)] S=Y (Y3 S.length,S++[Y5 Z (ps.map cD)]):=by
 obtain⟨f,hf⟩:=Classical.axiomOfChoice (r:=λ(u q:J×J)=>u∈a->∀(m:Y1) (p:Pl) (S:Y2) (sz:D),FA p sz d (voD vs) jo cs ro S->callD fns (m+2) 34 [Y3 p.a,cD u] S=Y (cD q,S)) λu=>by
  by_cases h:u∈a
  ·obtain⟨v,hv,e,h1,h2⟩:=j u h;exact⟨_,λ_ m p S sz A=>out_ok m A b hv e h1 h2⟩
  ·exact⟨u,λz=>absurd z h⟩
 refine⟨a.map f,Qqx ..,λm p S sz A=>?_⟩;have h:=qyv (c:=callD fns (m+2)) (τ:=[Y (Y3 p.a),Y (Yd (a.map cD))]) (st:=S) (i:=1) (elt:=.call 34 [Ye 1,Ye 0]) (sr:=[B,Y 0]) a cD (λu=>cD (f u)) rfl rfl k rfl λu g=>qzf 0 [34] 2 (λq=>_/\q) [.c (cD (f u),S)] ⟨hf u g m p S sz A,rfl⟩;have e:a.map (λp=>cD (f p))=(a.map f).map cD:=by rw[Qq7]; rfl
 rw[e]at h;exact qzz 0 [] 3 (λq=>_/\q) [.c (Y3 S.length,S++[Y5 Z ((a.map f).map cD)])] ⟨h,rfl⟩
def qfm(nd:(cs.map (·.nm)).Nodup)(t:∀n∈ro,∃c∈cs,c.nm=n)(Q:ro.length<1000)(j:(vs.map (·.1)).Pairwise (· < ·))(s:vs.length<60)(T:VsOk vs)(Jq:JoI vs jo)(v:ing W H P x y z=Z):
  ∃o:Y4 Cl,(∀c,o=Y c->c∈cs)/\∀(m:Y1) (p:Pl) (S:Y2),FA p (szD W H P) d (voD vs) jo cs ro S->callD fns (m+6) 41 [Y3 p.a,Ya [O x,O y,O z]] S=Y (oD (o.map (·.nm)),S):=by
 have r:(vs.map (·.1)).Nodup:=j.imp λh=>by lia
 obtain⟨K,c3,c4,k⟩:=qno (d:=d) (cs:=cs) (ro:=ro) j s T Jq v;obtain⟨ps,p1,p2⟩:=qgi (d:=d) (jo:=jo) (cs:=cs) (ro:=ro) r c3 (by unfold lim; lia);have U:=qcw (cs:=cs) (ro:=ro) (d:=d);obtain⟨a,b,l,C⟩:=qcm (ps:=ps) (gs:=stC cs ro d) (cs:=cs) (λc h=>qwr h) (by lia) (by unfold lim; lia) x y z;have f:∀(m:Y1) (p:Pl) (S:Y2),FA p (szD W H P) d (voD vs) jo cs ro S->callD fns (m+6) 41 [Y3 p.a,Ya [O x,O y,O z]] S=Y (oD ((a++b).head?.map (·.1)),S):=λm p S A=>by
  obtain⟨ex,c1,c2⟩:=k m p S A;have p2:=p2 (m+1) p S _ A;have V:=sg_ok m A nd t Q;have l:=l (m+1) S;generalize stC cs ro d=w at *;have I:=gc_at (st:=S) c2 (qzi λ_ _=>rfl);have G:=qzc (st:=S) (ds:=ps.map cD) (qzi λ_ _=>rfl);have F:=qzc (st:=S) (nl_sg w);have R:callD fns (m+5) 39 [Y3 p.a,Ya [O x,O y,O z]] S=Y (Y3 (rkS S a b).length,rkS S a b++[Y5 Z (a.map hiD++b.map hiD)]):=
   qzz 0 [32,35,37,38] 5 (λq=>_/\_/\_/\_/\_/\_/\_/\q) [.c (Y3 (S.length+1),S++ex),.l (K.map cD),.c (Y3 S.length,S++[Y5 Z (ps.map cD)]),.l (ps.map cD),.c (Y3 S.length,S++[Y5 Z (sgD w)]),.l (sgD w),.c (Y3 (rkS S a b).length,rkS S a b++[Y5 Z (a.map hiD++b.map hiD)])] ⟨c1,I,p2,G,V,F,l,rfl⟩
  have E:gcD S (Y3 (rkS S a b).length,rkS S a b++[Y5 Z (a.map hiD++b.map hiD)])=(Yd ((a++b).map hiD),S):=by
   have:=gc_at (st:=S) (ex:=[Y5 Z (a.map hiD),Y5 Z (b.map hiD),Y5 Z ((a++b).map hiD)]) (i:=2) rfl (nl_h (a++b));rw[Qqm]at this ⊢;have e:(rkS S a b).length=S.length+2:=by simp
   rw[e];unfold rkS;rw[Qzq,Qzq];exact this
  have hf:=qg5 (m+4) S (a++b);exact qzz 0 [39,40] 6 (λq=>_/\_/\_/\q) [.c (Y3 (rkS S a b).length,rkS S a b++[Y5 Z (a.map hiD++b.map hiD)]),.l ((a++b).map hiD),.c (oD ((a++b).head?.map (·.1)),S)] ⟨R,E,hf,rfl⟩
 cases g:(a++b).head? with
 |none=>rw[g]at f; exact⟨B,(by intro _ z; cases z),f⟩
 |some u=>
  rw[g]at f;obtain⟨c,hc,e⟩:=C u (List.mem_of_head? g);refine⟨Y c,λx N=>by cases N; exact hc,λm p S A=>?_⟩;rw[f m p S A];show Y (D.int u.1,_)=Y (D.int c.nm,_);rw[e]
def qgh(nd:(cs.map (·.nm)).Nodup)(e:∀n∈ro,∃c∈cs,c.nm=n)(g:ro.length<1000)(a:(vs.map (·.1)).Pairwise (· < ·))(b:vs.length<60)(h:VsOk vs)(Jq:JoI vs jo)(f:ing W H P x y z=Z):
  ∃o:Y4 J,∀(m:Y1) (p:Pl) (S:Y2),FA p (szD W H P) d (voD vs) jo cs ro S->callD fns (m+7) 42 [Y3 p.a,Ya [O x,O y,O z]] S=Y (oD o,S):=by
 obtain⟨o,h1,h2⟩:=qfm (d:=d) nd e g a b h Jq f;refine⟨o.map (·.o),λm p S A=>?_⟩;have h2:=h2 m p S A
 cases o with
 |none=>exact qzz 0 [41] 7 (λq=>_/\_/\_/\q) [.c (.non,S),.g,.b Z] ⟨h2,gS .non S rfl,(show isNon .non=Z from rfl),rfl⟩
 |some c=>exact qzz 0 [41,61] 7 (λq=>_/\_/\_/\_/\_/\q) [.c (O c.nm,S),.g,.b Y7,.r (p.fc (szD W H P) d),.c (clT c,S)] ⟨h2,gS (O c.nm) S rfl,(show isNon (O c.nm)=Y7 from rfl),A.hf,qjj (m+4) A (h1 c rfl),rfl⟩
end
def vo_mem(h:(dget (voD vs) (O b)).isSome):b∈vs.map (·.1):=by
 obtain⟨x,a⟩:=Qz1.mp h;unfold dget at a;obtain⟨p,c,_⟩:=Qqd.mp a;have e:=Qx0 c;obtain⟨v,hv,rfl⟩:=Qqv.mp (Qzu c);have e:=e;cases beq_iff_eq.mp e;exact Qqv.mpr ⟨v,hv,rfl⟩
def JoI.put(Jq:JoI vs jo)(h:b<a)(hb:b∈vs.map (·.1)):JoI vs (dput jo (O a) (Ya [O b,O f])):=λp c=>by
 unfold dput at c
 split at c
 ·obtain⟨q,g,rfl⟩:=Qqv.mp c;obtain⟨d,j,i,rfl,h1,h2⟩:=Jq q g
  by_cases e:eqT (O d) (O a)=Z
  ·rw[Z8 e];have e:=e;cases beq_iff_eq.mp e;exact⟨_,b,f,rfl,h,hb⟩
  ·rw[Z7 e];exact⟨d,j,i,rfl,h1,h2⟩
 ·rcases Qql.mp c with c|c
  ·exact Jq p c
  ·cases Qqy.mp c;exact⟨a,b,f,rfl,h,hb⟩
def JoI.app(Jq:JoI vs jo)(v):JoI (vs++[v]) jo:=λp c=>by
 obtain⟨a,b,f,e,h1,h2⟩:=Jq p c;exact⟨a,b,f,e,h1,by rw[Qqm]; exact Qzf _ h2⟩
def qfl(kvs)(k)(v):(tput kvs k v).length<=kvs.length+1:=by
 unfold tput
 split
 ·rw[Qqx]; lia
 ·rw[Qqe]; exact Qqj _
def qfi{P:L J->Prop}(h:∀q∈kvs,P q.1)(c:P k):∀q∈tput kvs k v,P q.1:=λq a=>by
 unfold tput at a
 split at a
 ·obtain⟨u,b,rfl⟩:=Qqv.mp a
  split
  ·exact h u b
  ·exact h u b
 ·rcases Qql.mp a with a|a
  ·exact h q a
  ·cases Qqy.mp a; exact c
noncomputable abbrev P0(T:J)(cs:L Cl):Pl:=⟨0,1,2,3,4,5,.int T,.loc 6,.loc 7,qzb cs⟩
def fa_of{T:J}{Bq:Y1}(I:Inv Bq rest cs):FA (P0 T cs) sz.s d fo jo cs ro (FC sz T d fo jo cs ro rest):=⟨rfl,rfl,rfl,rfl,rfl,rfl,λc hc=>⟨c.j+9,_,I.get hc,(I.at_ c hc).2⟩⟩
noncomputable abbrev dgF(o mx my x y z n:J):D:=.tup [sO "dig",.int o,.int mx,.int my,.int x,.int y,.int z,.int n]
noncomputable abbrev pyF(a b n:J):D:=.tup [sO "pay",.int a,.int b,.int n]
section
variable {W H P:J}{dg:L (L J×D)}{T d:J}{jo:L (D×D)}{ro:L J}{rest:Y2}{cs:L Cl}{vs:L (J×D×L (J×J))}{Bq:Y1}
def dig_ok(m)(I:Inv Bq rest cs)(f:∀n∈ro,∃c∈cs,c.nm=n)(i:ro.length<1000)(g:∀(m:Y1) (p:Pl) (S:Y2),FA p (szD W H P) d (voD vs) jo cs ro S->callD fns (m+7) 42 [Y3 p.a,Ya [O x,O y,O z]] S=Y (oD ow,S))(k:dg.length<900)(h:tget dg [x,y,z]=B)(o e b n)(j:en.length<900):
  callD fns (m+8) 52 [Y3 0,dgF o e b x y z n] (FC ⟨szD W H P,dg,en⟩ T d (voD vs) jo cs ro rest)=Y (sO "good",FC ⟨szD W H P,tput dg [x,y,z] (.bl Z),en++(owE d o ow (10*n)++owE d o ((ovC cs ro d (e,b)).map (·.o)) n).map eD⟩ T d (voD vs) jo cs ro rest):=by
 have hb:decide (dg.length<lim)=true:=Z5 (by unfold lim; lia);have A:=λsz:Zt=>fa_of (sz:=sz) (T:=T) (d:=d) (fo:=voD vs) (jo:=jo) (ro:=ro) I;have r:=g m _ _ (A ⟨szD W H P,tput dg [x,y,z] (.bl Z),en⟩);have b2:=qc7 (sz:=⟨szD W H P,tput dg [x,y,z] (.bl Z),en⟩) (T:=T) (d:=d) (fo:=voD vs) (jo:=jo) (cs:=cs) (ro:=ro) (rest:=rest) (m+6) o ow (10*n) (by show en.length<1000; lia);have s:=qk5 d o ow (10*n);have c2:=qnv (m+1) (A ⟨szD W H P,tput dg [x,y,z] (.bl Z),en++(owE d o ow (10*n)).map eD⟩) I.nd f i (e,b);generalize (ovC cs ro d (e,b)).map (·.o)=a at *;have l:=qc7 (sz:=⟨szD W H P,tput dg [x,y,z] (.bl Z),en++(owE d o ow (10*n)).map eD⟩) (T:=T) (d:=d) (fo:=voD vs) (jo:=jo) (cs:=cs) (ro:=ro) (rest:=rest) (m+6) o a n (by rw[Qqe,Qqx]; lia);generalize owE d o ow (10*n)=m1 at *;generalize owE d o a n=m2 at *;rw[Qqm,<- Qzq];exact qzz 8 [42,55,54] 8 (λq=>_/\_/\_/\_/\_/\_/\_/\_/\_/\q) [.q B,.b Z,.c (oD ow,FC ⟨szD W H P,tput dg [x,y,z] (.bl Z),en⟩ T d (voD vs) jo cs ro rest),.g,.b Z,.c (.non,FC ⟨szD W H P,tput dg [x,y,z] (.bl Z),en++m1.map eD⟩ T d (voD vs) jo cs ro rest),.c (oD a,FC ⟨szD W H P,tput dg [x,y,z] (.bl Z),en++m1.map eD⟩ T d (voD vs) jo cs ro rest),.g,.c (.non,FC ⟨szD W H P,tput dg [x,y,z] (.bl Z),en++m1.map eD++m2.map eD⟩ T d (voD vs) jo cs ro rest)]
  ⟨h,hb,r,gS (oD ow) (FC ⟨szD W H P,tput dg [x,y,z] (.bl Z),en⟩ T d (voD vs) jo cs ro rest) (by cases ow<;>rfl),qgm n,b2,c2,gS (oD a) (FC ⟨szD W H P,tput dg [x,y,z] (.bl Z),en++m1.map eD⟩ T d (voD vs) jo cs ro rest) (by cases a<;>rfl),l,rfl⟩
end
inductive DG (W H P:J):D->Prop
 |old {f:D}(h:DF W H P f):DG W H P f
 |dig {o mx my x y z n:J}(o1:1<=o) (o2:o<=40) (x1:0<=mx) (x2:mx<W) (y1:0<=my) (y2:my<H) (x3:0<=x) (x4:x<W) (y3:0<=y) (y4:y<H) (z1:0<=z) (z2:z<=P) (h1:1<=n) (h2:n<=1000000):DG W H P (.tup [sO "dig",.int o,.int mx,.int my,.int x,.int y,.int z,.int n])
 |pay {a b n:J}(a1:1<=a) (a2:a<=40) (b1:1<=b) (b2:b<=40) (ne:a≠b) (h1:1<=n) (h2:n<=1000000):DG W H P (.tup [sO "pay",.int a,.int b,.int n])
theorem DG.sound(h:DG W H P f)(m)(st):callD fns (m+6) 29 [szD W H P,f] st=Y (.bl Z,st):=by
 cases h with
 |old h=>exact h.sound m st
 |dig o n l k g e j i d c b a h1 h2=>exact s_dig (m+3) st o n l k g e j i d c b a h1 h2
 |pay q p b1 b2 ne h1 h2=>exact s_pay (m+3) st q p b1 b2 ne h1 h2
inductive Br (W H P day:J) (dg:L (L J×D)) (vs:L (J×D×L (J×J))) (jo:L (D×D)) (cs:L Cl) (ro:L J):D->String->L (L J×D)->L En->Prop
 |dug {o mx my x y z n v} (h:tget dg [x,y,z]=Y v):Br W H P day dg vs jo cs ro (dgF o mx my x y z n) "dug" dg []
 |dig {o mx my x y z n} (h:tget dg [x,y,z]=B) (ow:Y4 J) (how:∀(m:Y1) (p:Pl) (S:Y2),FA p (szD W H P) day (voD vs) jo cs ro S->callD fns (m+7) 42 [.loc p.a,.tup [.int x,.int y,.int z]] S=Y (oD ow,S)):Br W H P day dg vs jo cs ro (dgF o mx my x y z n) "good" (tput dg [x,y,z] (.bl Z)) (owE day o ow (10*n)++owE day o ((ovC cs ro day (mx,my)).map (·.o)) n)
 |pay {a b n}:Br W H P day dg vs jo cs ro (pyF a b n) "good" dg [(day,b,a,10*n)]
def SpK(W H P:J):Prop:=∀x y z:J,0<=x->x<W->0<=y->y<H->0<=z->z<=P->spotK [x,y,z]=Z
structure Ok (k:Y1) (d:J) (dg:L (L J×D)) (vs:L (J×D×L (J×J))) (jo:L (D×D)) (cs:L Cl) (ro:L J) (rest:Y2):Prop where
 I:Inv 1 rest cs
 R:RowI d cs ro
 cl:cs.length<=k
 rl:ro.length<=25*k
 dl:∀c∈cs,c.ds.length<=k
 vl:vs.length<=k
 vn:(vs.map (·.1)).Pairwise (· < ·)
 vd:∀v∈vs,v.1<=d
 V:VsOk vs
 jl:jo.length<=k
 Jq:JoI vs jo
 gl:dg.length<=k
 gk:∀q∈dg,spotK q.1=Z
 rp:1<=rest.length
section
variable {W H P:J}{T d day:J}{dg:L (L J×D)}{jo:L (D×D)}{ro:L J}{rest:Y2}{cs:L Cl}{k:Y1}{vs:L (J×D×L (J×J))}
def qg9(m)(hz:SpK W H P)(h:Ok k d dg vs jo cs ro rest)(hk:k<25)(hf:DG W H P f)(S:1<=day)(Q:day<=400)(hd:d<day)(es)(he:es.length<=2*k):
  (DF W H P f/\∃w U N p j i,Ok (k+1) day dg U N p j i/\i.take 1=rest.take 1/\callD fns (m+10) 47 [Y3 0,O day,f] (FC ⟨szD W H P,dg,es.map eD⟩ T d (voD vs) jo cs ro rest)=Y (sO w,FC ⟨szD W H P,dg,es.map eD⟩ T day (voD U) N p j i))\/∃w dg' M,Br W H P day dg vs jo cs ro f w dg' M/\Ok (k+1) day dg' vs jo cs ro rest/\callD fns (m+10) 47 [Y3 0,O day,f] (FC ⟨szD W H P,dg,es.map eD⟩ T d (voD vs) jo cs ro rest)=Y (sO w,FC ⟨szD W H P,dg',(es++M).map eD⟩ T day (voD vs) jo cs ro rest):=by
 have hs:=hf.sound (m+3) (FC ⟨szD W H P,dg,es.map eD⟩ T d (voD vs) jo cs ro rest);have ⟨I,R,cl,rl,dl,vl,vn,vd,V,jl,Jq,a8,gk,rp⟩:=h;have a4:(vs.map (·.1)).Nodup:=vn.imp Int.ne_of_lt;have C:∀{p j},Op day cs ro p j->RowI day p j/\p.length<=k+1/\j.length<=25*(k+1):=λ{p j} o=>by
  obtain⟨_,b,c⟩:=qh6 o;exact⟨op_row hd R o,by lia,by lia⟩
 have r:∀v∈vs,v.1<=day:=λv hv=>Int.le_trans (vd v hv) (Int.le_of_lt hd);have E:∀c∈cs,c.ds.length<=k+1:=λc hc=>Qxj (dl c hc);have s:=Qxj vl;have u:=Qxj jl;have A:=Qxj a8
 cases hf with
 |old hf=>
  have h0:=hf
  cases hf with
  |vein hP b4 a5 b3 a6 b0 hc=>
   rename_i ss ps;obtain⟨i,e,I',t,l⟩:=qhe (T:=T) (d:=day) (jo:=jo) (ro:=ro) (m+3) I (Ya (ss.map O)) ps vs (λv hv=>Int.ne_of_lt (Int.lt_of_le_of_lt (vd v hv) hd)) (by lia) (by lia) (by lia);obtain⟨K,G,F⟩:=C (.vein ps);refine .inl ⟨h0,"good",vs++[(day,Ya (ss.map O),ps)],jo,_,_,i,⟨I',K,G,F,λc hc=>?_,by simp; lia,?_,λv hv=>?_,λv hv=>?_,u,Jq.app _,A,gk,by lia⟩,t,?_⟩
   ·obtain⟨x,X,rfl⟩:=Qqv.mp hc;rw[(qqq day ps x).2.2];exact E x X
   ·rw[Qqm,Qje];refine⟨vn,by simp,λa ha b hb=>?_⟩;obtain⟨v,hv,rfl⟩:=Qqv.mp ha;simp only[Qqh,Qxy,Qqy]at hb;have:=vd v hv
    lia
   ·rcases Qql.mp hv with hv|hv
    ·exact r v hv
    ·cases Qqy.mp hv; exact Int.le_refl _
   ·rcases Qql.mp hv with hv|hv
    ·exact V v hv
    ·cases Qqy.mp hv; exact⟨⟨ss,rfl,a5,by lia⟩,a6⟩
   ·exact qqe (m+3) S Q hd hs (e _)
  |join=>
   rename_i a b f _ _ _ _ _ _;obtain⟨w,N,e,l,hj⟩:=qhf (T:=T) (d:=day) (fo:=voD vs) (cs:=cs) (ro:=ro) (rest:=rest) (jo:=jo) (m+7) a b f (by lia);obtain⟨K,G,F⟩:=C .same;refine .inl ⟨h0,w,vs,N,cs,ro,rest,⟨I,K,G,F,E,s,vn,r,V,by lia,?_,A,gk,rp⟩,rfl,?_⟩
   ·rcases hj with rfl|⟨h3,h4,rfl⟩
    ·exact Jq
    ·exact Jq.put h3 (vo_mem h4)
   ·exact qqe (m+3) S Q hd hs (e _)
  |stake g1 g2=>
   rename_i o g _ _ _ _ _ _;obtain⟨p,j,i,e,I',op,t,l,ds⟩:=qfz (T:=T) (d:=day) (jo:=jo) (ro:=ro) (m+3) I rp o ⟨g1,g2⟩ g vs a4 (by lia) (λv hv=>(V v hv).2) (by lia) (λx X=>by have:=R.le x X; lia);obtain⟨K,G,F⟩:=C op;refine .inl ⟨h0,"good",vs,jo,p,j,i,⟨I',K,G,F,λc hc=>?_,s,vn,r,V,u,Jq,A,gk,by lia⟩,t,?_⟩
   ·rcases ds c hc with hc|hc
    ·exact E c hc
    ·lia
   ·exact qqe (m+3) S Q hd hs (e _)
  |claim hc a9=>
   obtain⟨w,p,j,i,e,I',op,t,l,ds⟩:=qei (T:=T) (d:=day) (fo:=voD vs) (jo:=jo) (m+4) I rp d day hd (by lia) (λc hc=>by have:=dl c hc; lia) R hc;obtain⟨K,G,F⟩:=C op;refine .inl ⟨h0,w,vs,jo,p,j,i,⟨I',K,G,F,λc hc=>?_,s,vn,r,V,u,Jq,A,gk,by lia⟩,t,?_⟩
   ·obtain⟨x,_,l2,X⟩:=ds c hc;have:=dl x X
    lia
   ·exact qqe (m+3) S Q hd hs (qfx (m+4) hc (e _))
 |dig o1 o2 x1 x2 y1 y2 x3 x4 y3 y4 z1 z2 n1 n2=>
  rename_i o mx my x y z n;have a7:ing W H P x y z=true:=by
   unfold ing;rw[Z5 x3,Z5 x4,Z5 y3,Z5 y4,Z5 z1,Z5 z2]
   rfl
  obtain⟨K,G,F⟩:=C .same
  cases hq:tget dg [x,y,z] with
  |some v=>
   refine .inr ⟨"dug",dg,[],.dug hq,⟨I,K,G,F,E,s,vn,r,V,u,Jq,A,gk,rp⟩,qqe (m+3) S Q hd hs ?_⟩;rw[Qq5];exact qzz 8 [] 9 (λq=>_/\q) [.q (Y v)] ⟨hq,rfl⟩
  |none=>
   obtain⟨ow,a0⟩:=qgh (d:=day) I.nd R.in1 (by lia) vn (by lia) V Jq a7;have e:=dig_ok (T:=T) (rest:=rest) (en:=es.map eD) m I R.in1 (by lia) a0 (by lia) hq o mx my n (by rw[Qqx]; lia);rw[<- Qqm]at e;have tl:=qfl dg [x,y,z] (.bl Z);refine .inr ⟨"good",_,_,.dig hq ow a0,⟨I,K,G,F,E,s,vn,r,V,u,Jq,by lia,qfi (P:=λk=>spotK k=Z) gk (hz x y z x3 x4 y3 y4 z1 z2),rp⟩,qqe (m+3) S Q hd hs ?_⟩;exact qzz 8 [52] 9 (λq=>_/\q) [.c (sO "good",FC ⟨szD W H P,tput dg [x,y,z] (.bl Z),(es++(owE day o ow (10*n)++owE day o ((ovC cs ro day (mx,my)).map (·.o)) n)).map eD⟩ T day (voD vs) jo cs ro rest)] ⟨e,rfl⟩
 |pay b1 b2 c1 c2 ne n1 n2=>
  rename_i a b n;obtain⟨K,G,F⟩:=C .same;refine .inr ⟨"good",dg,[(day,b,a,10*n)],.pay,⟨I,K,G,F,E,s,vn,r,V,u,Jq,A,gk,rp⟩,qqe (m+3) S Q hd hs ?_⟩;have e:=pay_ok (sz:=⟨szD W H P,dg,es.map eD⟩) (T:=T) (d:=day) (fo:=voD vs) (jo:=jo) (cs:=cs) (ro:=ro) (rest:=rest) (m+6) (n:=n) ne (by rw[Qqx]; lia);have e:callD fns (m+8) 53 [Y3 0,pyF a b n] (FC ⟨szD W H P,dg,es.map eD⟩ T day (voD vs) jo cs ro rest)=Y (sO "good",FC ⟨szD W H P,dg,(es++[(day,b,a,10*n)]).map eD⟩ T day (voD vs) jo cs ro rest):=by rw[Qqm]; exact e
  exact qzz 8 [53] 9 (λq=>_/\q) [.c (sO "good",FC ⟨szD W H P,dg,(es++[(day,b,a,10*n)]).map eD⟩ T day (voD vs) jo cs ro rest)] ⟨e,rfl⟩
end
section
variable {ns:L J}(hn:ns.length<=63){W H P:J}(w1:1<=W)(w2:W<=24)(h1:1<=H)(h2:H<=24)(p0:0<=P)(p1:P<=12)
include hn w1 h1 p0
theorem qms(m)(st)(k):∃f,callD fns (m+3) 78 [scr ns,O k,szD W H P] st=Y (f,st)/\DG W H P f:=by
 obtain⟨g,u,e,D,C,d,A,y⟩:=qwu hn m st k 1 (W:=W) (H:=H) (by decide) (by decide) (by lia) (by lia);obtain⟨q,s,I,G,i,F,E,h⟩:=qwu hn m st k 5 (W:=W) (H:=H) (by decide) (by decide) (by lia) (by lia);obtain⟨z,p,c,x⟩:=dr hn (m+1) st k 9 (many:=P+1) (by decide) (by decide) (by lia);obtain⟨a,v,R,Q⟩:=dr hn (m+1) st k 11 (many:=3) (by decide) (by decide) (by decide);have ⟨w,hw,b1,b2⟩:∃w:J,idxD st (Yd [O 9,O 300,O 1000000]) (O a)=Y (O w)/\0<w/\w<=1000000:=by
  have:a=0\/a=1\/a=2:=by lia
  rcases this with rfl|rfl|rfl
  ·exact⟨9,rfl,by decide,by decide⟩
  ·exact⟨300,rfl,by decide,by decide⟩
  ·exact⟨1000000,rfl,by decide,by decide⟩
 obtain⟨n,b,N,K⟩:=dr hn (m+1) st k 10 (by decide) (by decide) b1;obtain⟨o,t,l,j⟩:=qvd hn m st k 12 (by decide) (by decide);exact⟨_,qzz 0 [69,65,72] 3 (λq=>_/\_/\_/\_/\_/\_/\_/\_/\q) [.n,.n,.c (rD g,st),.n,.n,.c (rD q,st),.n,.c (O z,st),.l [O 9,O 300,O 1000000],.c (O a,st),.i (O w),.c (O n,st),.c (O o,st)] (r:=(Ya [sO "dig",O o,O g.1,O g.2.1,O q.2.2.1,O q.2.2.2,O z,O (1+n)],st)) ⟨u,s,p,qzc (st:=st) (ds:=[O 9,O 300,O 1000000]) rfl,v,hw,b,t,rfl⟩,.dig l j e (by lia) d (by lia) (by lia) i (by lia) h c (by lia) (by lia) (by lia)⟩
omit w1 h1 p0 in
theorem qmm(m)(st)(k):∃f,callD fns (m+3) 79 [scr ns,O k] st=Y (f,st)/\DG W H P f:=by
 obtain⟨a,h,j,i⟩:=qvd hn m st k 1 (by decide) (by decide);obtain⟨b,hb,b1,b2⟩:=qvd hn m st k 3 (by decide) (by decide);obtain⟨u,d,o,l⟩:=dr hn (m+1) st k 6 (many:=2) (by decide) (by decide) (by decide);have ⟨w,hw,c1,c2⟩:∃w:J,idxD st (Yd [O 9,O 1000000]) (O u)=Y (O w)/\0<w/\w<=1000000:=by
  have:u=0\/u=1:=by lia
  rcases this with rfl|rfl
  ·exact⟨9,rfl,by decide,by decide⟩
  ·exact⟨1000000,rfl,by decide,by decide⟩
 obtain⟨n,c,s,p⟩:=dr hn (m+1) st k 5 (by decide) (by decide) c1;have g:=qzc (st:=st) (ds:=[O 9,O 1000000]) rfl
 by_cases e:b=a
 ·exact⟨_,qzz 0 [65,72] 3 (λq=>_/\_/\_/\_/\_/\_/\_/\_/\q) [.c (O a,st),.c (O b,st),.b Z,.c (O (a % 40),st),.l [O 9,O 1000000],.c (O u,st),.i (O w),.c (O n,st)] (r:=(Ya [sO "pay",O a,O (a % 40+1),O (1+n)],st)) ⟨h,hb,(show(b==a)=Z by simpa using e),bMo st a (b:=40) (by decide),g,d,hw,c,rfl⟩,.pay j i (by lia) (by lia) (by lia) (by lia) (by lia)⟩
 ·exact⟨_,qzz 0 [65,72] 3 (λq=>_/\_/\_/\_/\_/\_/\_/\q) [.c (O a,st),.c (O b,st),.b Y7,.l [O 9,O 1000000],.c (O u,st),.i (O w),.c (O n,st)] (r:=(Ya [sO "pay",O a,O b,O (1+n)],st)) ⟨h,hb,(show(b==a)=Y7 by simpa using e),g,d,hw,c,rfl⟩,.pay j i b1 b2 (λz=>e z.symm) (by lia) (by lia)⟩
noncomputable abbrev dgB:L M.S:=[.set (.var 7) (.call 65 [.var 0,.bin .Add (.var 1) (.bcall .len [.var 4]),.lit (.int 60),.lit (.int 5)]),.ite (.and (.cmp .Gt (.bcall .len [.var 4]) (.lit (.int 2))) (.cmp .Lt (.var 7) (.lit (.int 2)))) [.set (.var 6) (.call 78 [.var 0,.bin .Add (.bin .Add (.var 1) (.lit (.int 1))) (.bcall .len [.var 4]),.var 2])] [],.ite (.and (.cmp .Gt (.bcall .len [.var 4]) (.lit (.int 2))) (.and (.cmp .Eq (.var 7) (.lit (.int 2))) (.cmp .NotEq (.idx (.var 6) (.lit (.int 0))) (.lit (sO "vein"))))) [.set (.var 6) (.call 79 [.var 0,.bin .Add (.bin .Add (.var 1) (.lit (.int 1))) (.bcall .len [.var 4])])] [],.expr (.meth (.var 4) .append [.tup [.var 5,.var 6]])]
noncomputable abbrev dgT(ns:L J)(k W H P many:J)(st:Y2)(a b c:Y4 D):Sl:=[Y (scr ns),Y (.int k),Y (szD W H P),Y (.int many),Y (.loc st.length),a,b,c]
omit w1 h1 p0 in
theorem qng(m)(st)(k many)(dl)(u:dl.length<100)(o:1<=W)(r:1<=H)(p0:0<=P)(x)(hf:DF W H P f)(c):
  ∃d v,DG W H P d/\(RL (callD fns (m+3))).ex (dgT ns k W H P many st (Y (O x)) (Y f) c) (st++[Y5 Z (dl.map pD)]) dgB=Y (.nx (dgT ns k W H P many st (Y (O x)) (Y d) (Y (O v))),st++[Y5 Z ((dl++[(x,d)]).map pD)]):=by
 have a:=gl (st:=st) (c:=Y5 Z (dl.map pD));have b:decide ((dl.map pD).length<lim)=true:=Z5 (by rw[Qqx]; unfold lim; lia);obtain⟨v,hv,t,s⟩:=dr hn (m+2) (st++[Y5 Z (dl.map pD)]) (k+((dl.map pD).length:J)) 60 (many:=5) (by decide) (by decide) (by decide);have e:∀d:D,st++[Y5 Z ((dl++[(x,d)]).map pD)]=(st++[Yb.lst Z (dl.map pD)]).set st.length (Y5 Z (dl.map pD++[pD (x,d)])):=λd=>by rw[sl,Qqm]; rfl
 by_cases t1:2<((dl.map pD).length:J)
 ·by_cases t2:v<2
  ·obtain⟨d,g,n⟩:=qms hn o r p0 m (st++[Y5 Z (dl.map pD)]) (k+1+((dl.map pD).length:J));refine⟨d,v,n,?_⟩;rw[e];exact qze 0 [65,78,79] 3 (λq=>_/\_/\_/\_/\_/\_/\_/\_/\_/\_/\_/\_/\_/\q) [.r (Y5 Z (dl.map pD)),.c (O v,st++[Y5 Z (dl.map pD)]),.r (Y5 Z (dl.map pD)),.b Z,.b Z,.r (Y5 Z (dl.map pD)),.c (d,st++[Y5 Z (dl.map pD)]),.r (Y5 Z (dl.map pD)),.b Z,.b Y7,.r (Y5 Z (dl.map pD)),.r (Y5 Z (dl.map pD)),.b Z] ⟨a,hv,a,Z5 t1,Z5 t2,a,g,a,Z5 t1,(show(v==2)=Y7 by simp; lia),a,a,b,rfl⟩
  ·by_cases i:v=2
   ·obtain⟨d,g,n⟩:=qmm hn (W:=W) (H:=H) (P:=P) m (st++[Y5 Z (dl.map pD)]) (k+1+((dl.map pD).length:J));have j:wIs f ["vein"]=Y7->(RL (callD fns (m+3))).ex (dgT ns k W H P many st (Y (O x)) (Y f) c) (st++[Y5 Z (dl.map pD)]) dgB=Y (.nx (dgT ns k W H P many st (Y (O x)) (Y d) (Y (O v))),st++[Y5 Z ((dl++[(x,d)]).map pD)]):=λp=>by
     rw[e]
     cases hf with
     |vein=>cases p
     |claim h _=>
      cases h<;>exact qze 0 [65,78,79] 3 (λq=>_/\_/\_/\_/\_/\_/\_/\_/\_/\_/\_/\_/\_/\q) [.r (Y5 Z (dl.map pD)),.c (O v,st++[Y5 Z (dl.map pD)]),.r (Y5 Z (dl.map pD)),.b Z,.b Y7,.r (Y5 Z (dl.map pD)),.b Z,.b Z,.r (Y5 Z (dl.map pD)),.c (d,st++[Y5 Z (dl.map pD)]),.r (Y5 Z (dl.map pD)),.r (Y5 Z (dl.map pD)),.b Z] ⟨a,hv,a,Z5 t1,Z6 t2,a,Z5 t1,(show(v==2)=Z by simpa using i),a,g,a,a,b,rfl⟩
     |_=>exact qze 0 [65,78,79] 3 (λq=>_/\_/\_/\_/\_/\_/\_/\_/\_/\_/\_/\_/\_/\q) [.r (Y5 Z (dl.map pD)),.c (O v,st++[Y5 Z (dl.map pD)]),.r (Y5 Z (dl.map pD)),.b Z,.b Y7,.r (Y5 Z (dl.map pD)),.b Z,.b Z,.r (Y5 Z (dl.map pD)),.c (d,st++[Y5 Z (dl.map pD)]),.r (Y5 Z (dl.map pD)),.r (Y5 Z (dl.map pD)),.b Z] ⟨a,hv,a,Z5 t1,Z6 t2,a,Z5 t1,(show(v==2)=Z by simpa using i),a,g,a,a,b,rfl⟩
    cases l:wIs f ["vein"] with
    |false=>exact⟨d,v,n,j l⟩
    |true=>
     refine⟨f,v,.old hf,?_⟩;rw[e]
     cases hf with
     |vein=>exact qze 0 [65,78,79] 3 (λq=>_/\_/\_/\_/\_/\_/\_/\_/\_/\_/\_/\q) [.r (Y5 Z (dl.map pD)),.c (O v,st++[Y5 Z (dl.map pD)]),.r (Y5 Z (dl.map pD)),.b Z,.b Y7,.r (Y5 Z (dl.map pD)),.b Z,.b Z,.r (Y5 Z (dl.map pD)),.r (Y5 Z (dl.map pD)),.b Z] ⟨a,hv,a,Z5 t1,Z6 t2,a,Z5 t1,(show(v==2)=Z by simpa using i),a,a,b,rfl⟩
     |claim h _=>cases h<;>cases l
     |_=>cases l
   ·refine⟨f,v,.old hf,?_⟩;rw[e];exact qze 0 [65,78,79] 3 (λq=>_/\_/\_/\_/\_/\_/\_/\_/\_/\_/\_/\q) [.r (Y5 Z (dl.map pD)),.c (O v,st++[Y5 Z (dl.map pD)]),.r (Y5 Z (dl.map pD)),.b Z,.b Y7,.r (Y5 Z (dl.map pD)),.b Z,.b Y7,.r (Y5 Z (dl.map pD)),.r (Y5 Z (dl.map pD)),.b Z] ⟨a,hv,a,Z5 t1,Z6 t2,a,Z5 t1,(show(v==2)=Y7 by simpa using i),a,a,b,rfl⟩
 ·refine⟨f,v,.old hf,?_⟩;rw[e];exact qze 0 [65,78,79] 3 (λq=>_/\_/\_/\_/\_/\_/\_/\_/\_/\q) [.r (Y5 Z (dl.map pD)),.c (O v,st++[Y5 Z (dl.map pD)]),.r (Y5 Z (dl.map pD)),.b Y7,.r (Y5 Z (dl.map pD)),.b Y7,.r (Y5 Z (dl.map pD)),.r (Y5 Z (dl.map pD)),.b Z] ⟨a,hv,a,Z6 t1,a,Z6 t1,a,a,b,rfl⟩
end
section
theorem DF.noLoc(h:DF W H P f):M.noLoc f=true:=by
 cases h with
 |vein=>
  rename_i a ps _ _ _ _ _ _ _;show(Z&&(M.noLoc (Ya (a.map O))&&(M.noLoc (Ya (ps.map cD))&&Z)))=Z;rw[qdj,qv2,nlI]
  rfl
 |claim h _=>cases h<;>rfl
 |_=>rfl
theorem DG.noLoc(h:DG W H P f):M.noLoc f=true:=by
 cases h with
 |old h=>exact h.noLoc
 |_=>rfl
def pl_nl{pl:L (J×D)}(h:∀p∈pl,DG W H P p.2):noLocs (pl.map pD)=true:=by
 induction pl with
 |nil=>rfl
 |cons p r a=>
  show((Z&&(M.noLoc p.2&&Z))&&noLocs (r.map pD))=Z;rw[(h p (Qq2 ..)).noLoc,a λq b=>h q (Qqs _ b)]
  rfl
end
section
variable {ns:L J}(hn:ns.length<=63){W H P:J}(w1:1<=W)(w2:W<=24)(h1:1<=H)(h2:H<=24)(p0:0<=P)(p1:P<=12)
include hn w1 w2 h1 h2 p0 p1
theorem dug_ok(m)(st)(k)(z:0<=k)(y:k<1000)(w:1<=many)(u:many<=24):∃pl:L (J×D),callD fns (m+6) 80 [scr ns,O k,szD W H P,O many] st=Y (Y3 st.length,st++[Y5 Z (pl.map pD)])/\(pl.length:J)=many/\(∀p∈pl,DG W H P p.2/\1<=p.1/\p.1<=360)/\(pl.map (·.1)).Pairwise (· < ·):=by
 obtain⟨pl,I,N,r,G⟩:=ql1 hn w1 w2 h1 h2 p0 p1 m (st++[Y5 Z []]) k z y w u;have n:(RL (callD fns (m+5))).ev (dgT ns k W H P many st B B B) (st++[Y5 Z []]) (.gc (.call 77 [.var 0,.var 1,.var 2,.var 3]))=Y (.lst (pl.map pD),st++[Y5 Z []]):=
  qzf 0 [77] 5 (λq=>_/\_/\q) [.c (Y3 (st++[Yb.lst Z []]).length,st++[Y5 Z []]++[Y5 Z (pl.map pD)]),.l (pl.map pD)] ⟨I,qzc (st:=st++[Y5 Z []]) (pl_nl λp f=>.old (r p f).1),rfl⟩
 obtain⟨d,st',e,K,a,b,c,dl,rfl,rfl,j,o⟩:=qxp (st:=st++[Y5 Z []]) (it:=.gc (.call 77 [.var 0,.var 1,.var 2,.var 3])) (t:=.tup [5,6])
  (λi d st'=>i<=pl.length/\∃(a b c:Y4 D) (dl:L (J×D)),d=dgT ns k W H P many st a b c/\st'=st++[Y5 Z (dl.map pD)]/\dl.map (·.1)=(pl.take i).map (·.1)/\∀p∈dl,DG W H P p.2)
  (by show((RL (callD fns (m+5))).ev _ _ _).bind _=_; rw[n]; rfl) (qzt rfl) (λi d st' _=>qqp rfl i) ⟨Qq8 _,B,B,B,[],rfl,rfl,rfl,Qqp _⟩ (λi d st' x s h=>by
   obtain⟨hi,a,b,c,dl,rfl,rfl,j,o⟩:=h;rw[Qqw]at s;obtain⟨p,f,rfl⟩:=Qqd.mp s;have l:=(Qqk.mp f).1;have F:dl.length<=i:=by
    have:=congrArg List.length j;rw[Qqx,Qqx,Qzk]at this
    lia
   obtain⟨E,v,C,A⟩:=qng hn (m+2) st k many dl (by lia) w1 h1 p0 p.1 (r p (Qqo f)).1 c
   exact⟨_,_,A,l,_,_,_,dl++[(p.1,E)],rfl,rfl,by rw[Qxc,f,Qqm,Qqm,j]; rfl,λq g=>by
    rcases Qql.mp g with g|g
    ·exact o q g
    ·cases Qqy.mp g; exact C⟩)
 rw[Qqx,Qzc]at j;refine⟨dl,qzz 0 [] 6 (λq=>_/\q) [.s (.nx (dgT ns k W H P many st a b c),st++[Y5 Z (dl.map pD)])] ⟨e,rfl⟩,?_,λp f=>⟨o p f,?_⟩,by rw[j]; exact G⟩
 ·have:=congrArg List.length j;rw[Qqx,Qqx]at this
  lia
 ·have:p.1∈dl.map (·.1):=Qqv.mpr ⟨p,f,rfl⟩;rw[j]at this;obtain⟨q,g,e⟩:=Qqv.mp this;rw[<- e];exact(r q g).2
end
section
variable {W H P T:J}(w1:1<=W)(w2:W<=24)(h1:1<=H)(h2:H<=24)(p0:0<=P)(p1:P<=12)(t1:1<=T)(t2:T<=400)
include w1 w2 h1 h2 p0 p1 t1 t2
theorem qnx(m):callD fns (m+3) 46 [Y3 0,O W,O H,O P,O T] [.obj 642 []]=Y (.non,FC ⟨szD W H P,[],([]:L En).map eD⟩ T 0 (voD []) [] [] [] []):=
 qzz 9 [] 3 (λq=>_/\_/\_/\_/\_/\_/\_/\_/\q) [.b Z,.b Z,.b Z,.b Z,.b Z,.b Z,.b Z,.b Z] ⟨Z5 w1,Z5 w2,Z5 h1,Z5 h2,Z5 p0,Z5 p1,Z5 t1,Z5 t2,rfl⟩
end
def ok0:Ok 0 0 [] [] [] [] [] [c]:=
 ⟨⟨Qqp _,Qqp _,.nil,Qqp _,.nil⟩,⟨Qqp _,Qqp _,Qqp _,Qqp _⟩,Qqj _,Qq8 _,Qqp _,Qqj _,.nil,Qqp _,Qqp _,Qqj _,Qqp _,Qqj _,Qqp _,Qqj _⟩
def spk_of(h:H<=3/\P<=2\/W<=3/\P<=2\/W<=3/\H<=3\/W<=6/\H<=6/\P<=5)(w:W<=24)(a:H<=24)(p:P<=12):SpK W H P:=λx y z _ _ _ _ _ _=>by
 simp only[spotK,Qza,Qqn,decide_eq_true_eq];refine⟨⟨⟨by lia,by lia⟩,by lia⟩,?_⟩;rcases h with h|h|h|h
 ·exact .inl (.inl (.inl ⟨⟨by lia,by lia⟩,by lia⟩))
 ·exact .inl (.inl (.inr ⟨⟨by lia,by lia⟩,by lia⟩))
 ·exact .inl (.inr ⟨⟨by lia,by lia⟩,by lia⟩)
 ·exact .inr ⟨⟨by lia,by lia⟩,by lia⟩
noncomputable abbrev cD0:Yb:=.dic Z []
noncomputable abbrev cL0:Yb:=.lst Z []
noncomputable abbrev cT0:Yb:=.tdc Z []
noncomputable abbrev ab(C:Y1)(l:L (Y6×D))(k:Y1)(f:Y6)(n:Y1):Yb:=.obj C (l.take k++[(f,.loc n)])
def nz(τ:Sl){s:Y2}(h:s=a):(τ,s)=(τ,a):=by rw[h]
section
variable (st:Y2)(o:Yb)(X:Y2)
theorem fe0(o'):(st++o::X).set st.length o'=st++o'::X:=by simp
theorem fe2(Yq)(g:Y1->Yb):(st++o::X++Yq).set st.length (g (st++o::X).length)=st++g (st.length+(X.length+1))::(X++Yq):=by simp
theorem fe1(g:Y1->Yb):((st++o::X++[cD0]).set (st++o::X).length (cD0)).set st.length (g (st++o::X).length)=st++g (st.length+(X.length+1))::(X++[cD0]):=by rw[sl]; exact fe2 ..
theorem fr0:(st++o::X)[st.length]?=Y o:=by simp
theorem fr2(Yq):(st++o::X++Yq)[st.length]?=Y o:=by simp
theorem fr1:((st++o::X++[cD0]).set (st++o::X).length (cD0))[st.length]?=Y o:=by rw[sl]; exact fr2 ..
end
def ctwin(m){S:Y2}(c:Cl)(hc:S[p]?=Y (c.cel (Y3 q)))(hd:S[q]?=Y c.dl):callD fns (m+3) 9 [Y3 p] S=Y (Y3 (S.length+1),S++[c.dl,c.cel (Y3 S.length)]):=by
 have h1:=qh2 m c hc hd c.o c.g;have h2:=ga [c.dl,(⟨0,0,c.o,c.g,[],c.la,c.v,B⟩:Cl).cel (Y3 S.length)] hc;have a:=get0 (R:=S) (ls:=[c.dl,(⟨0,0,c.o,c.g,[],c.la,c.v,B⟩:Cl).cel (Y3 S.length)]) 1;exact qz1 0 [8] 3 (Y3 (S.length+1),(S++[c.dl,(⟨0,0,c.o,c.g,[],c.la,c.v,B⟩:Cl).cel (Y3 S.length)]).set (S.length+1) (c.cel (Y3 S.length))) (λq=>_/\_/\_/\_/\_/\_/\q) [.r (c.cel (Y3 q)),.r (c.cel (Y3 q)),.r (c.cel (Y3 q)),.c (Y3 (S.length+1),S++[c.dl,(⟨0,0,c.o,c.g,[],c.la,c.v,B⟩:Cl).cel (Y3 S.length)]),.r (c.cel (Y3 q)),.r ((⟨0,0,c.o,c.g,[],c.la,c.v,B⟩:Cl).cel (Y3 S.length))] ⟨hc,hc,hc,h1,h2,a,by rw[set1]⟩
noncomputable def coF(b:Y1)(T:J):L (Y6×D):=[("year",.int T),("book",.loc (b+1)),("row",.loc (b+2))]
noncomputable abbrev coO(b:Y1)(T:J)(k:Y1):Yb:=.obj 273 ((coF b T).take k)
def qig(m)(st)(T):callD fns (m+1) 11 [Y3 st.length,O T] (st++[.obj 273 []])=Y (.non,st++[coO st.length T 3,cD0,cL0]):=
 qz1 0 [] 1 (.non,(st++[coO st.length T 2,cD0]++[cL0]).set st.length (ab 273 (coF st.length T) 2 "row" (st++[coO st.length T 2,cD0]).length)) (λq=>_/\_/\_/\_/\_/\_/\q) [.r (coO st.length T 0),.e ([Y (Y3 st.length),Y (O T)],st++[coO st.length T 1]),.r cD0,.r (coO st.length T 1),.e ([Y (Y3 st.length),Y (O T)],st++[coO st.length T 2,cD0]),.r (coO st.length T 2)]
  ⟨fr0 st (coO st.length T 0) [],nz [Y (Y3 st.length),Y (O T)] (fe0 st (coO st.length T 0) [] (coO st.length T 1)),gl (st:=st++[coO st.length T 1]) (c:=cD0),fr1 st (coO st.length T 1) [],nz [Y (Y3 st.length),Y (O T)] (fe1 st (coO st.length T 1) [] (ab 273 (coF st.length T) 1 "book")),fr2 st (coO st.length T 2) [cD0] [cL0],by rw[fe2 st (coO st.length T 2) [cD0] [cL0] (ab 273 (coF st.length T) 2 "row")]; rfl⟩
noncomputable def fF(b:Y1)(W H P T:J):L (Y6×D):=[("extent",szD W H P),("year",.int T),("day",.int 0),("found",.loc (b+1)),("joints",.loc (b+2)),("staked",.loc (b+3)),("dug",.loc (b+6)),("debts",.loc (b+7))]
noncomputable abbrev fO(b:Y1)(W H P T:J)(k:Y1):Yb:=.obj 642 ((fF b W H P T).take k)
noncomputable abbrev fR(b:Y1)(T:J):Y2:=[cD0,cD0,coO (b+3) T 3,cD0,cL0,cT0,cL0]
noncomputable abbrev fT(b:Y1)(W H P T:J):Sl:=[Y (.loc b),Y (.int W),Y (.int H),Y (.int P),Y (.int T)]
section
variable {W H P T:J}(w1:1<=W)(w2:W<=24)(h1:1<=H)(h2:H<=24)(p0:0<=P)(p1:P<=12)(t1:1<=T)(t2:T<=400)
include w1 w2 h1 h2 p0 p1 t1 t2
theorem finit(m)(st):callD fns (m+3) 46 [Y3 st.length,O W,O H,O P,O T] (st++[.obj 642 []])=Y (.non,st++fO st.length W H P T 8::fR st.length T):=by
 have hc:callD fns (m+2) 11 [Y3 (st++[fO st.length W H P T 5,cD0,cD0]).length,O T] (st++[fO st.length W H P T 5,cD0,cD0]++[.obj 273 []])=Y (.non,st++[fO st.length W H P T 5,cD0,cD0]++[coO (st.length+3) T 3,cD0,cL0]):=by
  rw[qig,Qqe]
  rfl
 refine qz1 0 [11] 3 (.non,(st++fO st.length W H P T 7::(fR st.length T).take 6++[cL0]).set st.length (ab 642 (fF st.length W H P T) 7 "debts" (st++fO st.length W H P T 7::(fR st.length T).take 6).length)) (λq=>_/\_/\_/\_/\_/\_/\_/\_/\_/\_/\_/\_/\_/\_/\_/\_/\_/\_/\_/\_/\_/\_/\_/\_/\_/\_/\q) [.b Z,.b Z,.b Z,.b Z,.b Z,.b Z,.b Z,.b Z,
  .r (fO st.length W H P T 0),.e (fT st.length W H P T,st++[fO st.length W H P T 1]),.r (fO st.length W H P T 1),.e (fT st.length W H P T,st++[fO st.length W H P T 2]),.r (fO st.length W H P T 2),.e (fT st.length W H P T,st++[fO st.length W H P T 3]),.r cD0,.r (fO st.length W H P T 3),.e (fT st.length W H P T,st++[fO st.length W H P T 4,cD0]),.r cD0,.r (fO st.length W H P T 4),.e (fT st.length W H P T,st++[fO st.length W H P T 5,cD0,cD0]),.c (.non,st++[fO st.length W H P T 5,cD0,cD0]++[coO (st.length+3) T 3,cD0,cL0]),.r (fO st.length W H P T 5),.e (fT st.length W H P T,st++fO st.length W H P T 6::(fR st.length T).take 5),.r (fO st.length W H P T 6),.e (fT st.length W H P T,st++fO st.length W H P T 7::(fR st.length T).take 6),.r (fO st.length W H P T 7)]
  ⟨Z5 w1,Z5 w2,Z5 h1,Z5 h2,Z5 p0,Z5 p1,Z5 t1,Z5 t2,
  fr0 st (fO st.length W H P T 0) [],nz (fT st.length W H P T) (fe0 st (fO st.length W H P T 0) [] (fO st.length W H P T 1)),fr0 st (fO st.length W H P T 1) [],nz (fT st.length W H P T) (fe0 st (fO st.length W H P T 1) [] (fO st.length W H P T 2)),fr0 st (fO st.length W H P T 2) [],nz (fT st.length W H P T) (fe0 st (fO st.length W H P T 2) [] (fO st.length W H P T 3)),
  gl (st:=st++[fO st.length W H P T 3]) (c:=cD0),fr1 st (fO st.length W H P T 3) [],nz (fT st.length W H P T) (fe1 st (fO st.length W H P T 3) [] (ab 642 (fF st.length W H P T) 3 "found")),
  gl (st:=st++[fO st.length W H P T 4,cD0]) (c:=cD0),fr1 st (fO st.length W H P T 4) [cD0],nz (fT st.length W H P T) (fe1 st (fO st.length W H P T 4) [cD0] (ab 642 (fF st.length W H P T) 4 "joints")),
  hc,fr2 st (fO st.length W H P T 5) [cD0,cD0] [coO (st.length+3) T 3,cD0,cL0],nz (fT st.length W H P T) (fe2 st (fO st.length W H P T 5) [cD0,cD0] [coO (st.length+3) T 3,cD0,cL0] (ab 642 (fF st.length W H P T) 5 "staked")),
  fr2 st (fO st.length W H P T 6) ((fR st.length T).take 5) [cT0],nz (fT st.length W H P T) (fe2 st (fO st.length W H P T 6) ((fR st.length T).take 5) [cT0] (ab 642 (fF st.length W H P T) 6 "dug")),
  fr2 st (fO st.length W H P T 7) ((fR st.length T).take 6) [cL0],by rw[fe2 st (fO st.length W H P T 7) ((fR st.length T).take 6) [cL0] (ab 642 (fF st.length W H P T) 7 "debts")]; rfl⟩
end
def qhx(h:dget bo k=Y x):dget (bo++[q]) k=Y x:=by
 unfold dget at h ⊢;obtain⟨p,a,e⟩:=Qqd.mp h;rw[Qj0,a,<- e]
 rfl
def qhj(h:∀p∈bo,eqT p.1 (O n)=Y7):dget (bo++[(O n,v)]) (O n)=Y v:=by
 unfold dget;have:bo.find? (λp=>eqT p.1 (O n))=none:=Qxh.mpr λp a=>by rw[h p a]; exact Qq0
 rw[Qj0,this];show Option.map _ (Option.or B (match (n==n) with|true=>_|false=>_))=_;rw[beq_self_eq_true]
 rfl
noncomputable def FSb(sz:Zt)(T d:J)(fo jo bo:L (D×D))(ro:L D)(rest:Y2):Y2:=
 .obj 642 [("extent",sz.s),("year",.int T),("day",.int d),("found",.loc 1),("joints",.loc 2),("staked",.loc 3),("dug",.loc 6),("debts",.loc 7)]::.dic Z fo::.dic Z jo::.obj 273 [("year",.int T),("book",.loc 4),("row",.loc 5)]::.dic Y7 bo::.lst Z ro::.tdc Z sz.dg::.lst Z sz.es::rest
def TwI(n:Y1)(cs:L Cl)(bo:L (D×D))(X:Y2):Prop:=bo.map (·.1)=cs.map (λc=>.int c.nm)/\∀c∈cs,∃(i:Y1) (x:D),dget bo (.int c.nm)=Y (.loc (n+9+i))/\X[i]?=Y (c.cel x)
noncomputable abbrev twB:L M.S:=[.dset (.var 1) (.var 2) (.mcall 191 9 "twin" (.didx (.attr 273 (.var 0) "book") (.var 2)) [])]
noncomputable abbrev twT(n:Y1)(a b:Y4 D):Sl:=[Y (.loc 3),Y (.loc (n+8)),a,b]
section
variable {sz:Zt}{T d:J}{fo jo:L (D×D)}{ro:L J}{R:Y2}{cs:L Cl}{Bq:Y1}
def twb_ok(m)(I:Inv Bq R cs)(o:cs[k]?=Y c)(P:cs.length<900)(h:TwI R.length (cs.take k) bo X)(a b):
  ∃n t,TwI R.length (cs.take (k+1)) n t/\((setT (.var 2) (O c.nm) (twT R.length a b)).bind λτ=>(RL (callD fns (m+3))).ex τ (FSb sz T d fo jo (qzb cs) (rowD ro) (R++.dic Z bo::X)) twB)=Y (.nx (twT R.length (Y (O c.nm)) b),FSb sz T d fo jo (qzb cs) (rowD ro) (R++.dic Z n::t)):=by
 have hc:=Qqo o;have G:=(Qqk.mp o).1;have tk:cs.take (k+1)=cs.take k++[c]:=by rw[Qxc,o]; rfl
 have H:=I.get hc;obtain⟨C,A⟩:=I.at_ c hc;have nd:=I.nd;have j:∀p∈bo,eqT p.1 (O c.nm)=false:=λp F=>by
  have h1:p.1∈bo.map (·.1):=Qqv.mpr ⟨p,F,rfl⟩;rw[h.1]at h1;obtain⟨x,g,e⟩:=Qqv.mp h1;rw[<- e];refine beq_false_of_ne λz=>?_;have s:((cs.take (k+1)).map (·.nm)).Nodup:=(List.Sublist.map _ (Qx7 _ _)).nodup nd;rw[tk,Qqm,Qxb]at s;exact s.2.2 x.nm (Qqv.mpr ⟨x,g,rfl⟩) c.nm (Qqy.mpr rfl) z
 have bl:bo.length<lim:=by
  have:=congrArg List.length h.1;rw[Qqx,Qqx,Qzk]at this;unfold lim
  lia
 generalize l:R++.dic Z bo::X=f;have r:f[c.j+1]?=Y c.cell:=l▸ga _ A;have w:f[c.j]?=Y c.dl:=l▸ga _ C;have E:=ctwin m (S:=FSb sz T d fo jo (qzb cs) (rowD ro) f) (p:=c.j+9) (q:=c.j+8) c r w;have y:(f++[c.dl,c.cel (Y3 (f.length+8))])[R.length]?=Y (.dic Z bo):=l▸fr2 R (.dic Z bo) X _;refine⟨bo++[(O c.nm,Y3 (f.length+9))],X++[c.dl,c.cel (Y3 (f.length+8))],⟨?_,λx g=>?_⟩,?_⟩
 ·rw[Qqm,h.1,tk,Qqm]
  rfl
 ·rw[tk]at g;rcases Qql.mp g with g|g
  ·obtain⟨i,u,N,K⟩:=h.2 x g;exact⟨i,u,qhx N,ga _ K⟩
  ·cases Qqy.mp g;refine⟨X.length+1,_,?_,get0 1⟩;rw[qhj j,<- l,Qqe,Qqg]
   congr 2
   lia
 ·have e:R++.dic Z (bo++[(O c.nm,Y3 (f.length+9))])::(X++[c.dl,c.cel (Y3 (f.length+8))])=(f++[c.dl,c.cel (Y3 (f.length+8))]).set R.length (.dic Z (dput bo (O c.nm) (Y3 (f.length+9)))):=by
   rw[qxr j];generalize f.length+8=u;generalize f.length+9=v;rw[<- l,Qzq];exact(fe0 ..).symm
  rw[e];exact qze 8 [9] 3 (λq=>_/\_/\_/\_/\_/\q) [.q (Y (Y3 (c.j+9))),.r c.cell,.c (Y3 (f.length+9),FSb sz T d fo jo (qzb cs) (rowD ro) (f++[c.dl,c.cel (Y3 (f.length+8))])),.r (.dic Z bo),.b Z] ⟨H,r,E,y,Z5 bl,rfl⟩
end
noncomputable abbrev coC(T:J)(b r:Y1):Yb:=.obj 273 [("year",.int T),("book",.loc b),("row",.loc r)]
section
variable {sz:Zt}{T d:J}{fo jo:L (D×D)}{ro:L J}{R:Y2}{cs:L Cl}{Bq:Y1}
def twl_ok(m)(I:Inv Bq R cs)(g:cs.length<900):∃bo X a,TwI R.length cs bo X/\stepEx (RL (callD fns (m+3))) (twT R.length B B) (FC sz T d fo jo cs ro (R++[cD0])) (.ford (.var 2) (.attr 273 (.var 0) "book") twB)=Y (.nx (twT R.length a B),FC sz T d fo jo cs ro (R++.dic Z bo::X)):=by
 have keys:keysOf (qzb cs)=cs.map λc=>D.int c.nm:=by unfold keysOf qzb; rw[Qq7]; rfl
 obtain⟨b,st',h1,h2⟩:=qjz (f:=λτ st x=>(setT (.var 2) x τ).bind λb=>(RL (callD fns (m+3))).ex b st twB) (s:=.tup (keysOf (qzb cs))) (ds:=cs.map λc=>D.int c.nm) (st:=FSb sz T d fo jo (qzb cs) (rowD ro) (R++[cD0]))
  (λk b st'=>∃a bo X,b=twT R.length a B/\st'=FSb sz T d fo jo (qzb cs) (rowD ro) (R++.dic Z bo::X)/\TwI R.length (cs.take k) bo X) (λ_ _=>False)
  ⟨B,[],[],rfl,rfl,rfl,Qqp _⟩ (by simp[Src.size,keys]) (λk b st' _=>by rw[keys]; rfl) (λk b st' x e h=>by
   obtain⟨a,bo,X,rfl,rfl,h⟩:=h;rw[Qqw]at e;obtain⟨c,hc,rfl⟩:=Qqd.mp e;obtain⟨n,o,j,i⟩:=twb_ok (sz:=sz) (T:=T) (d:=d) (fo:=fo) (jo:=jo) (ro:=ro) m I hc g h a B
   exact .inl ⟨_,_,.inl i,_,_,_,rfl,rfl,j⟩)
 obtain⟨a,bo,X,rfl,rfl,h⟩:=h2.resolve_right id;rw[Qqx,Qzc]at h;refine⟨bo,X,a,h,?_⟩;have l:(RL (callD fns (m+3))).ev (twT R.length B B) (FC sz T d fo jo cs ro (R++[cD0])) (.attr 273 (.var 0) "book")=Y (Y3 4,FC sz T d fo jo cs ro (R++[cD0])):=qzf 8 [] 3 (λq=>q) [] rfl;show((RL (callD fns (m+3))).ev _ _ _).bind _=_;rw[l];show((loop (.tup (keysOf (qzb cs))) _ ((qzb cs).length+1) 0 _ (FSb sz T d fo jo (qzb cs) (rowD ro) (R++[cD0]))).bind _)=_;have:(qzb cs).length+1=(Src.tup (keysOf (qzb cs))).size (FSb sz T d fo jo (qzb cs) (rowD ro) (R++[cD0]))+1:=by simp[Src.size,keysOf]
 rw[this,h1]
 rfl
def cst_ok(m)(I:Inv Bq R cs)(e:cs.length<900):∃bo X,TwI R.length cs bo X/\callD fns (m+4) 20 [Y3 3] (FC sz T d fo jo cs ro R)=Y (Y3 ((R++.dic Z bo::X).length+8),FC sz T d fo jo cs ro (R++.dic Z bo::X++[coC T (R.length+8) ((R++.dic Z bo::X).length+11),cD0,cL0,Y5 Z (rowD ro)])):=by
 obtain⟨bo,X,a,h1,h2⟩:=twl_ok (sz:=sz) (T:=T) (d:=d) (fo:=fo) (jo:=jo) (ro:=ro) m I e;refine⟨bo,X,h1,?_⟩;generalize R++.dic Z bo::X=b at *;have f:(([Y (Y3 3),Y (Y3 (R.length+8)),B,B]:Sl),FC sz T d fo jo cs ro ((R++[cD0]).set R.length (.dic Z (dall []))))=(twT R.length B B,FC sz T d fo jo cs ro (R++[cD0])):=nz _ (congrArg (FC sz T d fo jo cs ro) sl);have hc:=qig (m+2) (FC sz T d fo jo cs ro b) T;refine qz1 8 [11] 4 (Y3 (b.length+8),FC sz T d fo jo cs ro ((b++[coC T (R.length+8) (b.length+10),cD0,cL0]++[Yb.lst Z (rowD ro)]).set b.length (coC T (R.length+8) ((b++[coC T (R.length+8) (b.length+10),cD0,cL0]).length+8)))) (λq=>_/\_/\_/\_/\_/\_/\_/\q) [.r cD0,.e (twT R.length B B,FC sz T d fo jo cs ro (R++[cD0])),.s (.nx (twT R.length a B),FC sz T d fo jo cs ro b),.c (.non,FC sz T d fo jo cs ro (b++[coC T (b.length+9) (b.length+10),cD0,cL0])),.r (coC T (b.length+9) (b.length+10)),.e (twT R.length a (Y (Y3 (b.length+8))),FC sz T d fo jo cs ro (b++[coC T (R.length+8) (b.length+10),cD0,cL0])),.r (coC T (R.length+8) (b.length+10))]
  ⟨gl (st:=R) (c:=cD0),f,h2,hc,fr0 b (coC T (b.length+9) (b.length+10)) [cD0,cL0],nz (twT R.length a (Y (Y3 (b.length+8)))) (congrArg (FC sz T d fo jo cs ro) (fe0 b (coC T (b.length+9) (b.length+10)) [cD0,cL0] (coC T (R.length+8) (b.length+10)))),fr2 b (coC T (R.length+8) (b.length+10)) [cD0,cL0] [Y5 Z (rowD ro)],?_⟩
 rw[fe2 b (coC T (R.length+8) (b.length+10)) [cD0,cL0] [Y5 Z (rowD ro)] λn=>coC T (R.length+8) (n+8)]
 rfl
end
noncomputable abbrev tfC(W H P T d:J)(f j s g e:Y1):Yb:=.obj 642 [("extent",szD W H P),("year",.int T),("day",.int d),("found",.loc f),("joints",.loc j),("staked",.loc s),("dug",.loc g),("debts",.loc e)]
noncomputable abbrev tT(n:Y1):Sl:=[Y (.loc 0),Y (.loc (n+8))]
noncomputable def twY(W H P T d:J)(fo jo bo:L (D×D))(ro:L J)(dg:L (L J×D))(en:L D)(n:Y1)(X:Y2):Y2:=
 tfC W H P T d (n+16) (n+17) (n+X.length+19) (n+X.length+23) (n+X.length+24)::(fR (n+8) T++.dic Z fo::.dic Z jo::.dic Z bo::(X++[coC T (n+18) (n+X.length+22),cD0,cL0,.lst Z (rowD ro),.tdc Z dg,.lst Z en]))
section
variable {W H P T:J}(w1:1<=W)(w2:W<=24)(h1:1<=H)(h2:H<=24)(p0:0<=P)(p1:P<=12)(t1:1<=T)(t2:T<=400)
variable {d:J}{dg:L (L J×D)}{en:L D}{fo jo:L (D×D)}{ro:L J}{R:Y2}{cs:L Cl}{Bq:Y1}
include w1 w2 h1 h2 p0 p1 t1 t2
theorem qg3(m)(I:Inv Bq R cs)(f:cs.length<900)(g:∀q∈dg,spotK q.1=Z):
  ∃bo X,TwI (R.length+10) cs bo X/\callD fns (m+5) 64 [Y3 0] (FC ⟨szD W H P,dg,en⟩ T d fo jo cs ro R)=Y (Y3 (R.length+8),FC ⟨szD W H P,dg,en⟩ T d fo jo cs ro (R++twY W H P T d fo jo bo ro dg en R.length X)):=by
 obtain⟨bo,X,c,a⟩:=cst_ok (sz:=⟨szD W H P,dg,en⟩) (T:=T) (d:=d) (fo:=fo) (jo:=jo) (ro:=ro) m (I.more (tfC W H P T d (R.length+16) (R.length+17) (R.length+11) (R.length+14) (R.length+15)::(fR (R.length+8) T++[.dic Z fo]++[.dic Z jo]))) f;have rl:(R++tfC W H P T d (R.length+16) (R.length+17) (R.length+11) (R.length+14) (R.length+15)::(fR (R.length+8) T++[.dic Z fo]++[.dic Z jo])).length=R.length+10:=by simp
 rw[rl]at c a;refine⟨bo,X,c,?_⟩;have e:(R++tfC W H P T d (R.length+16) (R.length+17) (R.length+11) (R.length+14) (R.length+15)::(fR (R.length+8) T++[.dic Z fo]++[.dic Z jo])++.dic Z bo::X).length=R.length+X.length+11:=by rw[Qqe,rl,Qqg]; lia
 rw[e]at a;have hi:=finit w1 w2 h1 h2 p0 p1 t1 t2 (m+1) (FC ⟨szD W H P,dg,en⟩ T d fo jo cs ro R);have hd:∀K:Y2,bfun (FC ⟨szD W H P,dg,en⟩ T d fo jo cs ro K) .dict [Y3 6]=Y (Y3 (K.length+8),FC ⟨szD W H P,dg,en⟩ T d fo jo cs ro (K++[.tdc Z dg])):=λK=>by
  show(if dg.all λp=>spotK p.1 then Y (alloc (FC ⟨szD W H P,dg,en⟩ T d fo jo cs ro K) (.tdc Z dg)) else B)=_;rw[Z8 (Qzx.mpr g)]
  rfl
 obtain⟨E,b⟩:∃E:Y2,E=fR (R.length+8) T++[.dic Z fo]++[.dic Z jo]++(.dic Z bo::X++[coC T (R.length+18) (R.length+X.length+22),cD0,cL0,Y5 Z (rowD ro)]):=⟨_,rfl⟩
 have i:E.length=X.length+14:=by rw[b]; simp
 have h:(R++tfC W H P T d (R.length+16) (R.length+17) (R.length+11) (R.length+14) (R.length+15)::(fR (R.length+8) T++[.dic Z fo]++[.dic Z jo])++.dic Z bo::X++[coC T (R.length+18) (R.length+X.length+22),cD0,cL0,Y5 Z (rowD ro)]).set R.length (tfC W H P T d (R.length+16) (R.length+17) (R.length+X.length+19) (R.length+14) (R.length+15))=R++tfC W H P T d (R.length+16) (R.length+17) (R.length+X.length+19) (R.length+14) (R.length+15)::E:=by
  rw[b,Qzq,Qzq];exact fe0 ..
 refine qz1 8 [46,20] 5 (Y3 (R.length+8),FC ⟨szD W H P,dg,en⟩ T d fo jo cs ro ((R++tfC W H P T d (R.length+16) (R.length+17) (R.length+X.length+19) (R.length+(E.length+1)+8) (R.length+15)::(E++[Yb.tdc Z dg])++[Yb.lst Z en]).set R.length (tfC W H P T d (R.length+16) (R.length+17) (R.length+X.length+19) (R.length+(E.length+1)+8) ((R++tfC W H P T d (R.length+16) (R.length+17) (R.length+X.length+19) (R.length+(E.length+1)+8) (R.length+15)::(E++[Yb.tdc Z dg])).length+8)))) (λq=>_/\_/\_/\_/\_/\_/\_/\_/\_/\_/\_/\_/\_/\_/\q)
  [.c (.non,FC ⟨szD W H P,dg,en⟩ T d fo jo cs ro (R++fO (R.length+8) W H P T 8::fR (R.length+8) T)),.r (fO (R.length+8) W H P T 8),
  .e (tT R.length,FC ⟨szD W H P,dg,en⟩ T d fo jo cs ro (R++tfC W H P T d (R.length+9) (R.length+10) (R.length+11) (R.length+14) (R.length+15)::fR (R.length+8) T)),.r (tfC W H P T d (R.length+9) (R.length+10) (R.length+11) (R.length+14) (R.length+15)),
  .e (tT R.length,FC ⟨szD W H P,dg,en⟩ T d fo jo cs ro (R++tfC W H P T d (R.length+16) (R.length+10) (R.length+11) (R.length+14) (R.length+15)::(fR (R.length+8) T++[.dic Z fo]))),.r (tfC W H P T d (R.length+16) (R.length+10) (R.length+11) (R.length+14) (R.length+15)),
  .e (tT R.length,FC ⟨szD W H P,dg,en⟩ T d fo jo cs ro (R++tfC W H P T d (R.length+16) (R.length+17) (R.length+11) (R.length+14) (R.length+15)::(fR (R.length+8) T++[.dic Z fo]++[.dic Z jo]))),
  .c (Y3 (R.length+X.length+19),FC ⟨szD W H P,dg,en⟩ T d fo jo cs ro (R++tfC W H P T d (R.length+16) (R.length+17) (R.length+11) (R.length+14) (R.length+15)::(fR (R.length+8) T++[.dic Z fo]++[.dic Z jo])++.dic Z bo::X++[coC T (R.length+18) (R.length+X.length+22),cD0,cL0,Y5 Z (rowD ro)])),.r (tfC W H P T d (R.length+16) (R.length+17) (R.length+11) (R.length+14) (R.length+15)),
  .e (tT R.length,FC ⟨szD W H P,dg,en⟩ T d fo jo cs ro (R++tfC W H P T d (R.length+16) (R.length+17) (R.length+X.length+19) (R.length+14) (R.length+15)::E)),
  .c (Y3 ((R++tfC W H P T d (R.length+16) (R.length+17) (R.length+X.length+19) (R.length+14) (R.length+15)::E).length+8),FC ⟨szD W H P,dg,en⟩ T d fo jo cs ro (R++tfC W H P T d (R.length+16) (R.length+17) (R.length+X.length+19) (R.length+14) (R.length+15)::E++[.tdc Z dg])),.r (tfC W H P T d (R.length+16) (R.length+17) (R.length+X.length+19) (R.length+14) (R.length+15)),
  .e (tT R.length,FC ⟨szD W H P,dg,en⟩ T d fo jo cs ro (R++tfC W H P T d (R.length+16) (R.length+17) (R.length+X.length+19) (R.length+(E.length+1)+8) (R.length+15)::(E++[.tdc Z dg]))),.r (tfC W H P T d (R.length+16) (R.length+17) (R.length+X.length+19) (R.length+(E.length+1)+8) (R.length+15))]
  ⟨hi,fr0 R (fO (R.length+8) W H P T 8) (fR (R.length+8) T),
  nz (tT R.length) (congrArg (FC ⟨szD W H P,dg,en⟩ T d fo jo cs ro) (fe0 R (fO (R.length+8) W H P T 8) (fR (R.length+8) T) (tfC W H P T d (R.length+9) (R.length+10) (R.length+11) (R.length+14) (R.length+15)))),fr2 R (tfC W H P T d (R.length+9) (R.length+10) (R.length+11) (R.length+14) (R.length+15)) (fR (R.length+8) T) [.dic Z fo],
  nz (tT R.length) (congrArg (FC ⟨szD W H P,dg,en⟩ T d fo jo cs ro) (fe2 R (tfC W H P T d (R.length+9) (R.length+10) (R.length+11) (R.length+14) (R.length+15)) (fR (R.length+8) T) [.dic Z fo] λn=>tfC W H P T d (n+8) (R.length+10) (R.length+11) (R.length+14) (R.length+15))),fr2 R (tfC W H P T d (R.length+16) (R.length+10) (R.length+11) (R.length+14) (R.length+15)) (fR (R.length+8) T++[.dic Z fo]) [.dic Z jo],
  nz (tT R.length) (congrArg (FC ⟨szD W H P,dg,en⟩ T d fo jo cs ro) (fe2 R (tfC W H P T d (R.length+16) (R.length+10) (R.length+11) (R.length+14) (R.length+15)) (fR (R.length+8) T++[.dic Z fo]) [.dic Z jo] λn=>tfC W H P T d (R.length+16) (n+8) (R.length+11) (R.length+14) (R.length+15))),
  a,ga [coC T (R.length+18) (R.length+X.length+22),cD0,cL0,Y5 Z (rowD ro)] (ga (.dic Z bo::X) (fr0 R (tfC W H P T d (R.length+16) (R.length+17) (R.length+11) (R.length+14) (R.length+15)) (fR (R.length+8) T++[.dic Z fo]++[.dic Z jo]))),
  nz (tT R.length) (congrArg (FC ⟨szD W H P,dg,en⟩ T d fo jo cs ro) h),hd (R++tfC W H P T d (R.length+16) (R.length+17) (R.length+X.length+19) (R.length+14) (R.length+15)::E),fr2 R (tfC W H P T d (R.length+16) (R.length+17) (R.length+X.length+19) (R.length+14) (R.length+15)) E [.tdc Z dg],
  nz (tT R.length) (congrArg (FC ⟨szD W H P,dg,en⟩ T d fo jo cs ro) (fe2 R (tfC W H P T d (R.length+16) (R.length+17) (R.length+X.length+19) (R.length+14) (R.length+15)) E [.tdc Z dg] λn=>tfC W H P T d (R.length+16) (R.length+17) (R.length+X.length+19) (n+8) (R.length+15))),fr2 R (tfC W H P T d (R.length+16) (R.length+17) (R.length+X.length+19) (R.length+(E.length+1)+8) (R.length+15)) (E++[.tdc Z dg]) [Y5 Z en],?_⟩
 rw[fe2 R (tfC W H P T d (R.length+16) (R.length+17) (R.length+X.length+19) (R.length+(E.length+1)+8) (R.length+15)) (E++[Yb.tdc Z dg]) [Yb.lst Z en] λn=>tfC W H P T d (R.length+16) (R.length+17) (R.length+X.length+19) (R.length+(E.length+1)+8) (n+8),Qqe,i,b];unfold twY;simp[Nat.add_assoc,Nat.add_comm,Nat.add_left_comm]
end
def qzo(n)(g)(d)(c)(P:Prop->Prop)(t)(b:P (c=r))(h:qja n (runT n (RL (callD fns (k+d))) (qkj fns n g k d) 40) τ st s t (λa _=>a=r)=P (c=r):=by kernel_rfl):stepEx (RL (callD fns (k+d))) τ st s=Y r:=by
 rw[<- h]at b;obtain⟨a,i,e,rfl⟩:=qjw (qx0 (λf ds st=>qq9 d f ds st) 40) τ st s t _ b;exact e
def qmv(m){T:J}(c:1<=day)(b:day<=400)(h:d<=day){R:Y2}:callD fns (m+3) 56 [Y3 (R.length+8),O day] (FC z T1 d1 fo jo cs ro (R++tfC W H P T d f j s g e::a))=Y (.non,FC z T1 d1 fo jo cs ro (R++tfC W H P T day f j s g e::a)):=by
 have r:=fr0 R (tfC W H P T d f j s g e) a;exact qz1 8 [] 3 (.non,FC z T1 d1 fo jo cs ro ((R++tfC W H P T d f j s g e::a).set R.length (tfC W H P T day f j s g e))) (λq=>_/\_/\_/\_/\_/\q) [.b Z,.b Z,.r (tfC W H P T d f j s g e),.b Y7,.r (tfC W H P T d f j s g e)] ⟨Z5 c,Z5 b,r,Z6 (p:=day<d) (by lia),r,by rw[fe0]⟩
def fa_tw{T:J}{R:Y2}(h:TwI (n+10) cs bo X)(b:R.length=n):FA ⟨n+8,n+16,n+17,n+X.length+19,n+18,n+X.length+22,O T,Y3 (n+X.length+23),Y3 (n+X.length+24),bo⟩ (szD W H P) day fo jo cs ro (FC z T1 d1 fo1 jo1 cs1 ro1 (R++twY W H P T day fo jo bo ro dg en n X)):=by
 subst b;have at_:∀i j:Y1,j=R.length+i+8->(FC z T1 d1 fo1 jo1 cs1 ro1 (R++twY W H P T day fo jo bo ro dg en R.length X))[j]?=(twY W H P T day fo jo bo ro dg en R.length X)[i]?:=λi j e=>by
  rw[e];exact get0 i
 have a:∀i:Y1,(twY W H P T day fo jo bo ro dg en R.length X)[11+i]?=(X++[coC T (R.length+18) (R.length+X.length+22),cD0,cL0,Y5 Z (rowD ro),.tdc Z dg,Y5 Z en])[i]?:=λi=>by rw[Nat.add_comm]; rfl
 refine⟨at_ 0 _ rfl,(at_ 8 _ rfl).trans rfl,(at_ 9 _ rfl).trans rfl,(at_ (11+X.length) _ (by dsimp only; lia)).trans ?_,(at_ 10 _ rfl).trans rfl,(at_ (11+(X.length+3)) _ (by dsimp only; lia)).trans ?_,λc hc=>?_⟩
 ·rw[a];exact get0 0
 ·rw[a];exact get0 3
 ·obtain⟨i,x,f,d⟩:=h.2 c hc;refine⟨_,x,f,(at_ (11+i) _ (by lia)).trans ?_⟩;rw[a];exact ga _ d
section
variable {W H P day:J}{p:Pl}{dg dg':L (L J×D)}{jo:L (D×D)}{ro:L J}{S:Y2}{cs:L Cl}{vs:L (J×D×L (J×J))}{Q:L En}{f:D}
noncomputable abbrev bgT(a:Y1)(day:J)(f:D)(S:Y2)(w o:D):Sl:=[Y (.loc a),Y (.int day),Y f,Y (.loc S.length),Y w,Y o]
noncomputable abbrev bg4:M.S:=.ite (.and (.cmp .IsNot (.var 4) (.lit .non)) (.cmp .NotEq (.var 4) (.idx (.var 2) (.lit (.int 1))))) [.expr (.meth (.var 3) .append [.tup [.var 1,.idx (.var 2) (.lit (.int 1)),.var 4,.bin .Mult (.lit (.int 10)) (.idx (.var 2) (.lit (.int 7)))]])] []
noncomputable abbrev bg5:M.S:=.ite (.and (.cmp .IsNot (.var 5) (.lit .non)) (.cmp .NotEq (.idx (.mcall 642 61 "claim" (.var 0) [.var 5]) (.lit (.int 0))) (.idx (.var 2) (.lit (.int 1))))) [.expr (.meth (.var 3) .append [.tup [.var 1,.idx (.var 2) (.lit (.int 1)),.idx (.mcall 642 61 "claim" (.var 0) [.var 5]) (.lit (.int 0)),.idx (.var 2) (.lit (.int 7))]])] []
def bg4_ok(m)(a)(o h d x y z n)(c)(u):stepEx (RL (callD fns (m+0))) (bgT a day (dgF o h d x y z n) S (oD c) u) (S++[Y5 Z []]) bg4=Y (.nx (bgT a day (dgF o h d x y z n) S (oD c) u),S++[Y5 Z ((owE day o c (10*n)).map eD)]):=by
 have g:=gl (st:=S) (c:=Y5 Z [])
 cases c with
 |none=>exact qzo 0 [] 0 (.nx (bgT a day (dgF o h d x y z n) S .non u),S++[Y5 Z []]) (λq=>_/\q) [.b Y7] ⟨(show(!isNon .non)=Y7 from rfl),rfl⟩
 |some b=>
  unfold owE;dsimp only
  by_cases e:b=o
  ·rw[Z8 e];exact qzo 0 [] 0 (.nx (bgT a day (dgF o h d x y z n) S (O b) u),S++[Y5 Z []]) (λq=>_/\_/\q) [.b Z,.b Y7] ⟨(show(!isNon (O b))=Z from rfl),(show(!(b==o))=Y7 by simpa using e),rfl⟩
  ·rw[Z7 e];exact qzo 0 [] 0 (.nx (bgT a day (dgF o h d x y z n) S (O b) u),(S++[Yb.lst Z []]).set S.length (Y5 Z [eD (day,o,b,10*n)])) (λq=>_/\_/\_/\_/\_/\_/\q) [.b Z,.b Z,.r (Y5 Z []),.b Z,.r (Y5 Z []),.b Z] ⟨(show(!isNon (O b))=Z from rfl),(show(!(b==o))=Z by simpa using e),g,qgm n,g,(show decide (([]:L D).length<lim)=Z from rfl),by rw[sl]; rfl⟩
def bg5_ok(m)(A:FA p sz day fo jo cs ro S)(o b a x y z n)(u)(h:l.length<100)(hc:∀x,c=Y x->x∈cs):stepEx (RL (callD fns (m+2))) (bgT p.a day (dgF o b a x y z n) S u (oD (c.map (·.nm)))) (S++[Y5 Z (l.map eD)]) bg5=Y (.nx (bgT p.a day (dgF o b a x y z n) S u (oD (c.map (·.nm)))),S++[Y5 Z ((l++owE day o (c.map (·.o)) n).map eD)]):=by
 have g:=gl (st:=S) (c:=Y5 Z (l.map eD));have A:=A.app [Y5 Z (l.map eD)]
 cases c with
 |none=>
  show _=Y (_,S++[Y5 Z ((l++[]).map eD)]);rw[Qq5];exact qzo 0 [] 2 (.nx (bgT p.a day (dgF o b a x y z n) S u .non),S++[Y5 Z (l.map eD)]) (λq=>_/\q) [.b Y7] ⟨(show(!isNon .non)=Y7 from rfl),rfl⟩
 |some c=>
  have d:=qjj m A (hc c rfl);unfold owE;simp only[oMs]
  by_cases e:c.o=o
  ·rw[Z8 e,Qq5];exact qzo 0 [61] 2 (.nx (bgT p.a day (dgF o b a x y z n) S u (O c.nm)),S++[Y5 Z (l.map eD)]) (λq=>_/\_/\_/\_/\q) [.b Z,.r (p.fc sz day),.c (clT c,S++[Y5 Z (l.map eD)]),.b Y7] ⟨(show(!isNon (O c.nm))=Z from rfl),A.hf,d,(show(!(c.o==o))=Y7 by simpa using e),rfl⟩
  ·rw[Z7 e];exact qzo 0 [61] 2 (.nx (bgT p.a day (dgF o b a x y z n) S u (O c.nm)),(S++[Yb.lst Z (l.map eD)]).set S.length (Y5 Z (l.map eD++[eD (day,o,c.o,n)]))) (λq=>_/\_/\_/\_/\_/\_/\_/\_/\_/\q) [.b Z,.r (p.fc sz day),.c (clT c,S++[Y5 Z (l.map eD)]),.b Z,.r (Y5 Z (l.map eD)),.r (p.fc sz day),.c (clT c,S++[Y5 Z (l.map eD)]),.r (Y5 Z (l.map eD)),.b Z] ⟨(show(!isNon (O c.nm))=Z from rfl),A.hf,d,(show(!(c.o==o))=Z by simpa using e),g,A.hf,d,g,Z5 (p:=(l.map eD).length<lim) (by rw[Qqx]; unfold lim; lia),by rw[sl,Qqm]; rfl⟩
def qbi(m)(h:DF W H P f)(a):callD fns (m+8) 81 [Y3 a,O day,f] S=Y (Y3 S.length,S++[Y5 Z []]):=by
 cases h with
 |claim h _=>cases h<;>exact qzz 0 [] 8 (λq=>q) [] rfl
 |_=>exact qzz 0 [] 8 (λq=>q) [] rfl
def qbh(m)(Bq:Br W H P day dg vs jo cs ro f "good" dg' Q)(A:FA p (szD W H P) day (voD vs) jo cs ro S)(nd:(cs.map (·.nm)).Nodup)(g:∀n∈ro,∃c∈cs,c.nm=n)(s:ro.length<1000):callD fns (m+8) 81 [Y3 p.a,O day,f] S=Y (Y3 S.length,S++[Y5 Z (Q.map eD)]):=by
 generalize hw : "good" = w at Bq
 cases Bq with
 |dug=>exact absurd hw (by decide)
 |pay=>
  rename_i a b n;exact qzz 0 [] 8 (λq=>_/\q) [.b Z] ⟨qgm n,rfl⟩
 |dig h ow i=>
  rename_i o e d x y z n;have k:=A.app [Y5 Z []];have u:=i m p _ k;have t:=qc8 (m+2) k nd g s (e,d);have b1:=bg4_ok (day:=day) (S:=S) (m+7) p.a o e d x y z n ow (oD ((ovC cs ro day (e,d)).map (·.nm)));have b2:=bg5_ok (m+5) A o e d x y z n (oD ow) (l:=owE day o ow (10*n)) (by have:=qk5 day o ow (10*n); lia) (c:=ovC cs ro day (e,d)) λx r=>qc9 r;generalize owE day o ow (10*n)=j at *;generalize owE day o ((ovC cs ro day (e,d)).map (·.o)) n=l2 at *;exact qzz 0 [42,43] 8 (λq=>_/\_/\_/\_/\_/\_/\q) [.c (oD ow,S++[Y5 Z []]),.g,.c (oD ((ovC cs ro day (e,d)).map (·.nm)),S++[Y5 Z []]),.g,.t (.nx (bgT p.a day (dgF o e d x y z n) S (oD ow) (oD ((ovC cs ro day (e,d)).map (·.nm)))),S++[Y5 Z (j.map eD)]),.t (.nx (bgT p.a day (dgF o e d x y z n) S (oD ow) (oD ((ovC cs ro day (e,d)).map (·.nm)))),S++[Y5 Z ((j++l2).map eD)])]
   ⟨u,gS (oD ow) (S++[Y5 Z []]) (by cases ow<;>rfl),t,gS (oD ((ovC cs ro day (e,d)).map (·.nm))) (S++[Y5 Z []]) (by cases ovC cs ro day (e,d)<;>rfl),b1,b2,rfl⟩
end
def same_int(m)(st)(i):callD fns (m+1) 66 [O i,O i] st=Y (.bl Z,st):=
 qzz 0 [] 1 (λq=>_/\q) [.b Z] ⟨(show(i==i)=Z from beq_self_eq_true i),rfl⟩
def same_str(m)(st)(s):callD fns (m+1) 66 [.str s,.str s] st=Y (.bl Z,st):=
 qz1 0 [] 1 (.bl (s==s),st) (λq=>q) [] (by rw[beq_self_eq_true])
def qf1(m)(st):callD fns (m+1) 66 [.non,.non] st=Y (.bl Z,st):=
 qzz 0 [] 1 (λq=>q) [] rfl
def qyo(m)(st)(hd:d=.tup ds\/d=.lst ds)(r:ds.length<1000)(n:∀x∈ds,callD fns (m+1) 66 [x,x] st=Y (.bl Z,st)):callD fns (m+2) 66 [d,d] st=Y (.bl Z,st):=by
 have hb:bfun st .all [.lst ((ds.map λ_=>Z).map .bl)]=Y (.bl Z,st):=by
  show(asBools _).map _=_;rw[asB];exact congrArg (λb=>Y (D.bl b,st)) (by simp)
 have k:=qzc (st:=st) (nlB (ds.map λ_=>Z));have j:∀(S:Y2) (i:Y1) (x:D),ds[i]?=Y x->idxD S d (O (i:J))=Y x:=λS i x f=>by
  have hi:=(Qqk.mp f).1;have h2:(i:J)<ds.length:=by lia
  have e:atI ds (i:J)=Y x:=by
   unfold atI ixN;rw[Z8 (by lia),Z8 h2];exact f
  rcases hd with rfl|rfl<;>exact e
 have o:∀S:Y2,bfun S .len [d]=Y (O ds.length,S):=λS=>by rcases hd with rfl|rfl<;>rfl
 have hc:stepEv (RL (callD fns (m+1))) [Y d,Y d,B] st (.comp (.var 0) (.rng1 (.bcall .len [.var 1])) B (.gc (.call 66 [.idx (.var 2) (.var 0),.idx (.var 1) (.var 0)])) [B,Y 1,Y 0])=Y (Y3 st.length,st++[Y5 Z ((ds.map λ_=>Z).map .bl)]):=by
  have h:=qqg (c:=callD fns (m+1)) (τ:=[Y d,Y d,B]) (st:=st) (t:=.var 0) (it:=.rng1 (.bcall .len [.var 1])) (elt:=.gc (.call 66 [.idx (.var 2) (.var 0),.idx (.var 1) (.var 0)])) (test:=B) (sr:=[B,Y 1,Y 0]) (s:=.rng 0 ds.length) (ds:=(List.range ds.length).map λi:Y1=>D.int (0+(i:J))) (λ_=>Y (.bl Z)) (λτ=>∃a,τ=[a,Y d,Y d]) (by
   have el:(RL (callD fns (m+1))).ev [Y d,Y d,B] st (.bcall .len [.var 1])=Y (O ds.length,st):=by
    rcases hd with rfl|rfl<;>exact qzf 0 [] 1 (λq=>q) [] rfl
   show((RL (callD fns (m+1))).ev _ _ (.bcall .len [.var 1])).bind _=_;rw[el];show(if big (ds.length:J)=Z then B else Y (Src.rng 0 (ds.length:J).toNat,st))=_;rw[Z7 (by unfold big; simp; lia)]
   rfl) (λi=>qwn 0 _ i) (by simp[Src.size]) (by simp; unfold lim; lia) ⟨B,rfl⟩ λτ x f g=>by
   obtain⟨a,rfl⟩:=g;obtain⟨i,hi,rfl⟩:=Qqv.mp f;have hi:=Qzl.mp hi;have f:=Qqi hi;have p:(0:J)+(i:J)=i:=by lia
   rw[p];refine⟨[Y (O i),Y d,Y d],qkp rfl ?_,_,rfl⟩;exact qzf 0 [66] 1 (λq=>_/\_/\_/\_/\q) [.i ds[i],.i ds[i],.c (.bl Z,st),.g] ⟨j st i _ f,j st i _ f,n _ (Qxe hi),gS (.bl Z) st rfl,rfl⟩
  have e:((List.range ds.length).map λi:Y1=>D.int (0+(i:J))).filterMap (λ_=>Y (D.bl Z))=(ds.map λ_=>Z).map .bl:=by
   rw[Qxf,Qq7];refine(congrFun Qxp _).trans ?_;rw[List.map_const',Qx9];exact(List.map_const' (l:=ds) (b:=D.bl Z)).symm
  rw[e]at h;exact h
 rcases hd with rfl|rfl
 ·exact qzz 0 [] 2 (λq=>_/\_/\_/\_/\q) [.b Y7,.c (Y3 st.length,st++[Y5 Z ((ds.map λ_=>Z).map .bl)]),.l ((ds.map λ_=>Z).map .bl),.c (.bl Z,st)] ⟨(show(!((ds.length:J)==ds.length))=Y7 by simp),hc,k,hb,rfl⟩
 ·exact qzz 0 [] 2 (λq=>_/\_/\_/\_/\q) [.b Y7,.c (Y3 st.length,st++[Y5 Z ((ds.map λ_=>Z).map .bl)]),.l ((ds.map λ_=>Z).map .bl),.c (.bl Z,st)] ⟨(show(!((ds.length:J)==ds.length))=Y7 by simp),hc,k,hb,rfl⟩
inductive Dq:Y1->D->Prop
 |non {k}:Dq k .non
 |int {k i}:Dq k (.int i)
 |str {k s}:Dq k (.str s)
 |tup {k ds} (h:∀d∈ds,Dq k d) (hl:ds.length<1000):Dq (k+1) (.tup ds)
 |lst {k ds} (h:∀d∈ds,Dq k d) (hl:ds.length<1000):Dq (k+1) (.lst ds)
def qle(h:Dq k d):∀(m:Y1) (st:Y2),callD fns (m+k+1) 66 [d,d] st=Y (.bl Z,st):=by
 induction h with
 |non=>exact λm st=>qf1 _ st
 |int=>exact λm st=>same_int _ st _
 |str=>exact λm st=>same_str _ st _
 |@tup k ds h c a=>exact λm st=>qyo (m+k) st (.inl rfl) c λx b=>a x b m st
 |@lst k ds h c a=>exact λm st=>qyo (m+k) st (.inr rfl) c λx b=>a x b m st
abbrev Sp:=J×J×J
noncomputable def spD(q:Sp):D:=.tup [.int q.1,.int q.2.1,.int q.2.2]
def eq_sp(q u):eqT (spD q) (spD u)=decide (q=u):=by
 obtain⟨a,b,c⟩:=q;obtain⟨x,y,z⟩:=u;show((a==x)&&((b==y)&&((c==z)&&Z)))=_;rw[Qxz];simp
def in_sp{sp:L Sp}(h:listAt st 8=Y (sp.map spD))(q):cmpD st .In (spD q) (Y3 8)=Y (decide (q∈sp)):=by
 show(listAt st 8).bind _=_;rw[h];have f:flats 9 (sp.map spD)=true:=Qzx.mpr λd hd=>by
  obtain⟨u,_,rfl⟩:=Qqv.mp hd
  rfl
 show(if (Z&&flats 9 (sp.map spD))=Z then Y ((sp.map spD).any λy=>eqT y (spD q)) else B)=_;rw[f,Qxr,Z8 rfl,List.any_map];refine congrArg Y ?_;rw[Qxz,Qxd,decide_eq_true_eq];constructor
 ·rintro⟨u,h1,h2⟩;rw[Function.comp,eq_sp,decide_eq_true_eq]at h2;exact h2▸h1
 ·exact λh=>⟨q,h,by rw[Function.comp,eq_sp]; exact Z5 rfl⟩
def SpI(dg:L (L J×D))(sp:L Sp):Prop:=∀q:Sp,(tget dg [q.1,q.2.1,q.2.2]).isSome=decide (q∈sp)
def SpI.dug(h:SpI dg sp)(a:q∈sp):SpI dg (sp++[q]):=λu=>by
 rw[h u,Qxz,decide_eq_true_eq,decide_eq_true_eq,Qql,Qqy];exact⟨.inl,λz=>z.elim id λe=>e▸a⟩
def SpI.dig(h:SpI dg sp)(d:tget dg [q.1,q.2.1,q.2.2]=B)(v):SpI (tput dg [q.1,q.2.1,q.2.2] v) (sp++[q]):=λu=>by
 have n:=Qxh.mp (Qkj.mp d);have e:tput dg [q.1,q.2.1,q.2.2] v=dg++[([q.1,q.2.1,q.2.2],v)]:=by
  unfold tput;rw[Z7];intro z;obtain⟨x,h1,h2⟩:=Qxd.mp z;exact n x h1 h2
 have h:=h u;rw[e];unfold tget at h ⊢;rw[Qx8]at h ⊢;rw[Qj0,Option.isSome_or,h,Qxz,Qza,decide_eq_true_eq,decide_eq_true_eq,Qql,Qqy];refine or_congr Iff.rfl ?_;rw[List.find?_singleton];obtain⟨a,b,c⟩:=q;obtain⟨x,y,z⟩:=u
 by_cases g:[a,b,c]=[x,y,z]
 ·simp only[List.cons.injEq,and_true]at g;obtain⟨rfl,rfl,rfl⟩:=g;simp
 ·simp only[g];simp only[List.cons.injEq,and_true]at g;simp only[decide_false,Qzw,if_false,Option.isSome_none,false_iff];exact λe=>by cases e; exact g ⟨rfl,rfl,rfl⟩
def dq_es{es:L En}(b:es.length<1000):Dq 2 (.lst (es.map eD)):=.lst (λd hd=>by
 obtain⟨e,_,rfl⟩:=Qqv.mp hd
 exact .tup (λx a=>by
  simp only[Qqa,Qq4,or_false]at a
  rcases a with rfl|rfl|rfl|rfl<;>exact .int) (by simp)) (by rw[Qqx]; exact b)
def qmi(es:L En):noLocs (es.map eD)=true:=qzi λ_ _=>rfl
noncomputable abbrev lwT(ns:L J)(W H P T:J)(pl es:L D)(a b c w u:Y4 D):Sl:=[Y (scr ns),Y (szD W H P),Y (.int T),Y (.lst pl),Y (.loc 0),Y (.lst es),Y (.loc 8),a,b,c,w,u]
noncomputable abbrev lw4:M.S:=.ite (.and (.cmp .Eq (.idx (.var 8) (.lit (.int 0))) (.lit (sO "dig"))) (.cmp .In (.sli (.var 8) (Y (.lit (.int 4))) (Y (.lit (.int 7)))) (.var 6))) [.set (.var 10) (.lit (sO "dug"))] []
noncomputable abbrev lw6:M.S:=.ite (.and (.cmp .In (.idx (.var 8) (.lit (.int 0))) (.tup [.lit (sO "dig"),.lit (sO "pay")])) (.not (.gc (.call 66 [.var 11,.var 10])))) [.ret (.lit (.bl Y7))] []
noncomputable abbrev lw7:M.S:=.ite (.cmp .Eq (.idx (.var 8) (.lit (.int 0))) (.lit (sO "dig"))) [.expr (.meth (.var 6) .append [.sli (.var 8) (Y (.lit (.int 4))) (Y (.lit (.int 7)))])] []
noncomputable abbrev lw8:M.S:=.ite (.cmp .Eq (.var 10) (.lit (sO "good"))) [.set (.var 5) (.gc (.bin .Add (.var 5) (.gc (.call 81 [.var 9,.var 7,.var 8]))))] []
noncomputable abbrev lw9:M.S:=.ite (.not (.gc (.call 66 [.gc (.mcall 642 63 "entries" (.var 4) []),.var 5]))) [.ret (.lit (.bl Y7))] []
noncomputable abbrev lwB:L M.S:=[.set (.var 9) (.mcall 642 64 "twin" (.var 4) []),.expr (.mcall 642 56 "pass_to" (.var 9) [.var 7]),.set (.var 10) (.lit (sO "good")),lw4,.set (.var 11) (.mcall 642 47 "enter" (.var 4) [.var 7,.var 8]),lw6,lw7,lw8,lw9]
section
variable {ns:L J}{W H P T d day:J}{pl:L D}{es:L En}{f:D}{a c w u:Y4 D}{S:Y2}
def qlf(m)(hb:callD fns (m+10) 81 [Y3 l,O day,f] S=Y (Y3 S.length,S++[Y5 Z (Q.map eD)]))(e:es.length+Q.length<1000):stepEx (RL (callD fns (m+10))) (lwT ns W H P T pl (es.map eD) (Y (O day)) (Y f) (Y (Y3 l)) (Y (sO "good")) u) S lw8=Y (.nx (lwT ns W H P T pl ((es++Q).map eD) (Y (O day)) (Y f) (Y (Y3 l)) (Y (sO "good")) u),S):=by
 have b:=qzc (st:=S) (ds:=es.map eD++Q.map eD) (by rw[<- Qqm]; exact qmi _);exact qzo 0 [81] 10 (.nx (lwT ns W H P T pl (es.map eD++Q.map eD) (Y (O day)) (Y f) (Y (Y3 l)) (Y (sO "good")) u),S) (λq=>_/\_/\_/\_/\q) [.c (Y3 S.length,S++[Y5 Z (Q.map eD)]),.l (Q.map eD),.b Y7,.l (es.map eD++Q.map eD)] ⟨hb,qzc (st:=S) (qmi Q),Z6 (p:=lim<(es.map eD).length+(Q.map eD).length) (by rw[Qqx,Qqx]; unfold lim; lia),b,by rw[Qqm]⟩
def qf2(m)(e:es.length<1000){R:Y2}:stepEx (RL (callD fns (m+10))) (lwT ns W H P T pl (es.map eD) a b c w u) (FC ⟨szD W H P,dg,es.map eD⟩ T d fo jo cs ro R) lw9=Y (.nx (lwT ns W H P T pl (es.map eD) a b c w u),FC ⟨szD W H P,dg,es.map eD⟩ T d fo jo cs ro R):=
 qzo 8 [66] 10 (.nx (lwT ns W H P T pl (es.map eD) a b c w u),FC ⟨szD W H P,dg,es.map eD⟩ T d fo jo cs ro R) (λq=>_/\_/\_/\q) [.l (es.map eD),.c (.bl Z,FC ⟨szD W H P,dg,es.map eD⟩ T d fo jo cs ro R),.g] ⟨qzc (st:=FC ⟨szD W H P,dg,es.map eD⟩ T d fo jo cs ro R) (qmi es),qle (dq_es e) (m+7) (FC ⟨szD W H P,dg,es.map eD⟩ T d fo jo cs ro R),gS (.bl Z) (FC ⟨szD W H P,dg,es.map eD⟩ T d fo jo cs ro R) rfl,rfl⟩
def no_ok(h:DF W H P f)(m):∀s∈[lw4,lw6,lw7],stepEx (RL (callD fns (m+10))) (lwT ns W H P T pl el a (Y f) c w u) S s=Y (.nx (lwT ns W H P T pl el a (Y f) c w u),S):=λs hs=>by
 simp only[Qqa,Qq4,or_false]at hs
 cases h with
 |claim h _=>cases h<;>rcases hs with rfl|rfl|rfl<;>exact qzo 0 [] 10 (.nx (lwT ns W H P T pl el a _ c w u),S) (λq=>q) [] rfl
 |_=>rcases hs with rfl|rfl|rfl<;>exact qzo 0 [] 10 (.nx (lwT ns W H P T pl el a _ c w u),S) (λq=>q) [] rfl
def qlg(m)(z)(hf:(∃o g e x y z n,f=dgF o g e x y z n)\/∃a b n,f=pyF a b n):stepEx (RL (callD fns (m+10))) (lwT ns W H P T pl el a (Y f) c (Y (sO z)) (Y (sO z))) S lw6=Y (.nx (lwT ns W H P T pl el a (Y f) c (Y (sO z)) (Y (sO z))),S):=by
 have h:=same_str (m+9) S (Str.ofString z);rcases hf with⟨_,_,_,_,_,_,_,rfl⟩|⟨_,_,_,rfl⟩<;>exact qzo 0 [66] 10 (.nx (lwT ns W H P T pl el a _ c (Y (sO z)) (Y (sO z))),S) (λq=>_/\_/\q) [.c (.bl Z,S),.g] ⟨h,gS (.bl Z) S rfl,rfl⟩
def qva(m){R:Y2}(C:callD fns (m+10) 64 [Y3 0] (FC ⟨szD W H P,dg,es.map eD⟩ T d fo jo cs ro R)=Y (Y3 (R.length+8),FC ⟨szD W H P,dg,es.map eD⟩ T d fo jo cs ro (R++Y0)))(y:(R++Y0)[R.length]?=Y (tfC W H P T d o n l k j))(A:callD fns (m+10) 56 [Y3 (R.length+8),O day] (FC ⟨szD W H P,dg,es.map eD⟩ T d fo jo cs ro (R++Y0))=Y (.non,FC ⟨szD W H P,dg,es.map eD⟩ T d fo jo cs ro (R++Yq)))(x:stepEx (RL (callD fns (m+10))) (lwT ns W H P T pl (es.map eD) (Y (O day)) (Y f) (Y (Y3 (R.length+8))) (Y (sO "good")) u) (FC ⟨szD W H P,dg,es.map eD⟩ T d fo jo cs ro (R++Yq)) lw4=Y (.nx (lwT ns W H P T pl (es.map eD) (Y (O day)) (Y f) (Y (Y3 (R.length+8))) (Y (sO z)) u),FC ⟨szD W H P,dg,es.map eD⟩ T d fo jo cs ro (R++Yq)))(E:callD fns (m+10) 47 [Y3 0,O day,f] (FC ⟨szD W H P,dg,es.map eD⟩ T d fo jo cs ro (R++Yq))=Y (sO v,h))(t:stepEx (RL (callD fns (m+10))) (lwT ns W H P T pl (es.map eD) (Y (O day)) (Y f) (Y (Y3 (R.length+8))) (Y (sO z)) (Y (sO v))) h lw6=Y (.nx (lwT ns W H P T pl (es.map eD) (Y (O day)) (Y f) (Y (Y3 (R.length+8))) (Y (sO z)) (Y (sO v))),h))(s:stepEx (RL (callD fns (m+10))) (lwT ns W H P T pl (es.map eD) (Y (O day)) (Y f) (Y (Y3 (R.length+8))) (Y (sO z)) (Y (sO v))) h lw7=Y (.nx (lwT ns W H P T pl (es.map eD) (Y (O day)) (Y f) (Y (Y3 (R.length+8))) (Y (sO z)) (Y (sO v))),g))(r:stepEx (RL (callD fns (m+10))) (lwT ns W H P T pl (es.map eD) (Y (O day)) (Y f) (Y (Y3 (R.length+8))) (Y (sO z)) (Y (sO v))) g lw8=Y (.nx (lwT ns W H P T pl e (Y (O day)) (Y f) (Y (Y3 (R.length+8))) (Y (sO z)) (Y (sO v))),g))(p:stepEx (RL (callD fns (m+10))) (lwT ns W H P T pl e (Y (O day)) (Y f) (Y (Y3 (R.length+8))) (Y (sO z)) (Y (sO v))) g lw9=Y (.nx (lwT ns W H P T pl e (Y (O day)) (Y f) (Y (Y3 (R.length+8))) (Y (sO z)) (Y (sO v))),g)):
  ((setT (.tup [7,8]) (.tup [O day,f]) (lwT ns W H P T pl (es.map eD) a b c w u)).bind λi=>(RL (callD fns (m+10))).ex i (FC ⟨szD W H P,dg,es.map eD⟩ T d fo jo cs ro R) lwB)=Y (.nx (lwT ns W H P T pl e (Y (O day)) (Y f) (Y (Y3 (R.length+8))) (Y (sO z)) (Y (sO v))),g):=
 qze 8 [64,56,47] 10 (λq=>_/\_/\_/\_/\_/\_/\_/\_/\_/\q) [.c (Y3 (R.length+8),FC ⟨szD W H P,dg,es.map eD⟩ T d fo jo cs ro (R++Y0)),.r (tfC W H P T d o n l k j),.c (.non,FC ⟨szD W H P,dg,es.map eD⟩ T d fo jo cs ro (R++Yq)),.t (.nx (lwT ns W H P T pl (es.map eD) (Y (O day)) (Y f) (Y (Y3 (R.length+8))) (Y (sO z)) u),FC ⟨szD W H P,dg,es.map eD⟩ T d fo jo cs ro (R++Yq)),.c (sO v,h),.t (.nx (lwT ns W H P T pl (es.map eD) (Y (O day)) (Y f) (Y (Y3 (R.length+8))) (Y (sO z)) (Y (sO v))),h),.t (.nx (lwT ns W H P T pl (es.map eD) (Y (O day)) (Y f) (Y (Y3 (R.length+8))) (Y (sO z)) (Y (sO v))),g),.t (.nx (lwT ns W H P T pl e (Y (O day)) (Y f) (Y (Y3 (R.length+8))) (Y (sO z)) (Y (sO v))),g),.t (.nx (lwT ns W H P T pl e (Y (O day)) (Y f) (Y (Y3 (R.length+8))) (Y (sO z)) (Y (sO v))),g)] ⟨C,y,A,x,E,t,s,r,p,rfl⟩
end
theorem Ok.more{k:Y1}{d:J}{dg:L (L J×D)}{vs:L (J×D×L (J×J))}{jo:L (D×D)}{cs:L Cl}{ro:L J}{rest:Y2}(h:Ok k d dg vs jo cs ro rest)(X:Y2):Ok k d dg vs jo cs ro (rest++X):=
 ⟨h.I.more X,h.R,h.cl,h.rl,h.dl,h.vl,h.vn,h.vd,h.V,h.jl,h.Jq,h.gl,h.gk,by rw[Qqe]; exact Nat.le_add_right_of_le h.rp⟩
def Ok.set0{k:Y1}{d:J}{dg:L (L J×D)}{vs:L (J×D×L (J×J))}{jo:L (D×D)}{cs:L Cl}{ro:L J}{r:Y2}{a b:Yb}(h:Ok k d dg vs jo cs ro (a::r)):Ok k d dg vs jo cs ro (b::r):=
 ⟨⟨h.I.lo,λc hc=>by
  have h1:=h.I.lo c hc;have h2:=h.I.at_ c hc;obtain⟨i,e⟩:∃i,c.j=i+1:=⟨c.j - 1,by lia⟩
  rw[e]at h2 ⊢
  exact h2,h.I.pw,h.I.ne,h.I.nd⟩,h.R,h.cl,h.rl,h.dl,h.vl,h.vn,h.vd,h.V,h.jl,h.Jq,h.gl,h.gk,Nat.le_add_left 1 _⟩
structure LwI (k:Y1) (W H P T:J) (ns:L J) (pl:L D) (d:J) (τ:Sl) (st:Y2):Prop where
 ex:∃(dg:L (L J×D)) (vs:L (J×D×L (J×J))) (jo:L (D×D)) (cs:L Cl) (ro:L J) (r:Y2) (sp:L Sp) (es:L En) (a b c w u:Y4 D),Ok k d dg vs jo cs ro (.lst Z (sp.map spD)::r)/\SpI dg sp/\sp.length<=k/\es.length<=2*k/\τ=lwT ns W H P T pl (es.map eD) a b c w u/\st=FC ⟨szD W H P,dg,es.map eD⟩ T d (voD vs) jo cs ro (.lst Z (sp.map spD)::r)
section
variable {W H P T:J}(w1:1<=W)(w2:W<=24)(h1:1<=H)(h2:H<=24)(p0:0<=P)(p1:P<=12)(t1:1<=T)(t2:T<=400)
include w1 w2 h1 h2 p0 p1 t1 t2
theorem qir(m)(hz:SpK W H P)(hk:k<25)(hf:DG W H P f)(a1:1<=day)(a2:day<=400)(a3:d<day)(Lq:LwI k W H P T ns pl d τ st):∃I st',((setT (.tup [7,8]) (.tup [O day,f]) τ).bind λa4=>(RL (callD fns (m+10))).ex a4 st lwB)=Y (.nx I,st')/\LwI (k+1) W H P T ns pl day I st':=by
 obtain⟨dg,vs,jo,cs,ro,r,sp,es,a,b,c,w,u,ok,G,sl,el,rfl,rfl⟩:=Lq.ex;obtain⟨bo,X,x1,F⟩:=qg3 w1 w2 h1 h2 p0 p1 t1 t2 (d:=d) (dg:=dg) (en:=es.map eD) (fo:=voD vs) (jo:=jo) (ro:=ro) (m+5) ok.I (by have:=ok.cl; lia) ok.gk;have x3:callD fns (m+10) 56 [Y3 (r.length+9),O day] (FC ⟨szD W H P,dg,es.map eD⟩ T d (voD vs) jo cs ro (Y5 Z (sp.map spD)::r++twY W H P T d (voD vs) jo bo ro dg (es.map eD) (r.length+1) X))=Y (.non,FC ⟨szD W H P,dg,es.map eD⟩ T d (voD vs) jo cs ro (Y5 Z (sp.map spD)::r++twY W H P T day (voD vs) jo bo ro dg (es.map eD) (r.length+1) X)):=qmv (R:=Y5 Z (sp.map spD)::r) (m+7) a1 a2 (Int.le_of_lt a3);have x4:(Yb.lst Z (sp.map spD)::r++twY W H P T d (voD vs) jo bo ro dg (es.map eD) (r.length+1) X)[r.length+1]?=Y (tfC W H P T d (r.length+1+16) (r.length+1+17) (r.length+1+X.length+19) (r.length+1+X.length+23) (r.length+1+X.length+24)):=fr0 (Y5 Z (sp.map spD)::r) _ _;have fa:=λ(R:Y2) (z:Zt) (T1 d1:J) (a8 a6:L (D×D)) (a9:L Cl) (a5:L J) (hR:R.length=r.length+1)=>fa_tw (W:=W) (H:=H) (P:=P) (T:=T) (day:=day) (dg:=dg) (en:=es.map eD) (fo:=voD vs) (jo:=jo) (ro:=ro) (T1:=T1) (d1:=d1) (fo1:=a8) (jo1:=a6) (cs1:=a9) (ro1:=a5) (z:=z) x1 hR;have en:=qg9 m (T:=T) hz (ok.more (twY W H P T day (voD vs) jo bo ro dg (es.map eD) (r.length+1) X)) hk hf a1 a2 a3 es el;have F:callD fns (m+10) 64 [Y3 0] (FC ⟨szD W H P,dg,es.map eD⟩ T d (voD vs) jo cs ro (Y5 Z (sp.map spD)::r))=Y (Y3 (r.length+9),FC ⟨szD W H P,dg,es.map eD⟩ T d (voD vs) jo cs ro (Y5 Z (sp.map spD)::r++twY W H P T d (voD vs) jo bo ro dg (es.map eD) (r.length+1) X)):=F;generalize twY W H P T day (voD vs) jo bo ro dg (es.map eD) (r.length+1) X=Yq at *;generalize twY W H P T d (voD vs) jo bo ro dg (es.map eD) (r.length+1) X=Y0 at *;have rl:ro.length<1000:=by have:=ok.rl; lia
 rcases en with⟨df,l,t,C,E,A,j,U,e2,N⟩|⟨l,dg',Q,br,U,N⟩
 ·obtain⟨r',rfl⟩:∃r',j=Y5 Z (sp.map spD)::r':=by
   cases j with
   |nil=>cases e2
   |cons x y=>cases e2; exact⟨y,rfl⟩
  have y6:=λs hs=>no_ok (ns:=ns) (T:=T) (pl:=pl) (a:=Y (O day)) (c:=Y (Y3 (r.length+9))) (w:=Y (sO "good")) (u:=Y (sO l)) (S:=FC ⟨szD W H P,dg,es.map eD⟩ T day (voD t) C E A (Y5 Z (sp.map spD)::r')) df m (el:=es.map eD) s hs;have y8:=qlf (ns:=ns) (W:=W) (H:=H) (P:=P) (T:=T) (pl:=pl) (u:=Y (sO l)) (es:=es) m (qbi (m+2) df (day:=day) (S:=FC ⟨szD W H P,dg,es.map eD⟩ T day (voD t) C E A (Y5 Z (sp.map spD)::r')) (r.length+9)) (Q:=[]) (by show es.length+0<1000; lia);rw[Qq5]at y8;exact⟨_,_,qva m F x4 x3 (no_ok df m lw4 (by simp)) N (y6 lw6 (by simp)) (y6 lw7 (by simp)) y8 (qf2 m (by lia)),⟨dg,t,C,E,A,r',sp,es,_,_,_,_,_,U,G,by lia,by lia,rfl,rfl⟩⟩
 ·have ql:Q.length<=2:=by
   cases br with
   |dug=>exact Qq8 _
   |pay=>exact Qxv _
   |dig h ow a7=>
    rename_i o i g x y z n;have:=qk5 day o ow (10*n);have:=qk5 day o ((ovC cs ro day (i,g)).map (·.o)) n;rw[Qqe]
    lia
  have V:∀(z:String) (o i g x y u n:J),stepEx (RL (callD fns (m+10))) (lwT ns W H P T pl (es.map eD) (Y (O day)) (Y (dgF o i g x y u n)) (Y (Y3 (r.length+9))) (Y (sO z)) (Y (sO l))) (FC ⟨szD W H P,dg',(es++Q).map eD⟩ T day (voD vs) jo cs ro (Y5 Z (sp.map spD)::r++Yq)) lw7=Y (.nx (lwT ns W H P T pl (es.map eD) (Y (O day)) (Y (dgF o i g x y u n)) (Y (Y3 (r.length+9))) (Y (sO z)) (Y (sO l))),FC ⟨szD W H P,dg',(es++Q).map eD⟩ T day (voD vs) jo cs ro (Y5 Z ((sp++[(x,y,u)]).map spD)::r++Yq)):=λz o i g x y u n=>by
   rw[show(sp++[(x,y,u)]).map spD=sp.map spD++[spD (x,y,u)] from Qqm];exact qzo 9 [] 10 (.nx (lwT ns W H P T pl (es.map eD) (Y (O day)) (Y (dgF o i g x y u n)) (Y (Y3 (r.length+9))) (Y (sO z)) (Y (sO l))),FC ⟨szD W H P,dg',(es++Q).map eD⟩ T day (voD vs) jo cs ro (Y5 Z (sp.map spD++[spD (x,y,u)])::r++Yq)) (λq=>_/\q) [.b Z] ⟨Z5 (p:=(sp.map spD).length<lim) (by rw[Qqx]; unfold lim; lia),rfl⟩
  have a0:∀o i g x y z n:J,stepEx (RL (callD fns (m+10))) (lwT ns W H P T pl (es.map eD) (Y (O day)) (Y (dgF o i g x y z n)) (Y (Y3 (r.length+9))) (Y (sO "good")) u) (FC ⟨szD W H P,dg,es.map eD⟩ T d (voD vs) jo cs ro (Y5 Z (sp.map spD)::r++Yq)) lw4=Y (.nx (lwT ns W H P T pl (es.map eD) (Y (O day)) (Y (dgF o i g x y z n)) (Y (Y3 (r.length+9))) (Y (sO (if (x,y,z)∈sp then "dug" else "good"))) u),FC ⟨szD W H P,dg,es.map eD⟩ T d (voD vs) jo cs ro (Y5 Z (sp.map spD)::r++Yq)):=λo i g x y z n=>by
   have h:=in_sp (sp:=sp) (st:=FC ⟨szD W H P,dg,es.map eD⟩ T d (voD vs) jo cs ro (Y5 Z (sp.map spD)::r++Yq)) rfl (x,y,z)
   by_cases c:(x,y,z)∈sp
   ·rw[Z5 c]at h;rw[Z8 c];exact qzo 9 [] 10 (.nx (lwT ns W H P T pl (es.map eD) (Y (O day)) (Y (dgF o i g x y z n)) (Y (Y3 (r.length+9))) (Y (sO "dug")) u),FC ⟨szD W H P,dg,es.map eD⟩ T d (voD vs) jo cs ro (Y5 Z (sp.map spD)::r++Yq)) (λq=>_/\q) [.b Z] ⟨h,rfl⟩
   ·rw[Z6 c]at h;rw[Z7 c];exact qzo 9 [] 10 (.nx (lwT ns W H P T pl (es.map eD) (Y (O day)) (Y (dgF o i g x y z n)) (Y (Y3 (r.length+9))) (Y (sO "good")) u),FC ⟨szD W H P,dg,es.map eD⟩ T d (voD vs) jo cs ro (Y5 Z (sp.map spD)::r++Yq)) (λq=>_/\q) [.b Y7] ⟨h,rfl⟩
  have bg:l = "good"->∀R:Y2,R.length=r.length+1->callD fns (m+10) 81 [Y3 (r.length+9),O day,f] (FC ⟨szD W H P,dg',(es++Q).map eD⟩ T day (voD vs) jo cs ro (R++Yq))=Y (Y3 (FC ⟨szD W H P,dg',(es++Q).map eD⟩ T day (voD vs) jo cs ro (R++Yq)).length,FC ⟨szD W H P,dg',(es++Q).map eD⟩ T day (voD vs) jo cs ro (R++Yq)++[Y5 Z (Q.map eD)]):=λe R hR=>by
   subst e;exact qbh (m+2) br (fa R _ T day (voD vs) jo cs ro hR) ok.I.nd ok.R.in1 rl
  cases br with
  |dug h=>
   rename_i o i g x y z n v;have hm:(x,y,z)∈sp:=of_decide_eq_true (by rw[<- G (x,y,z)]; dsimp only; rw[h]; rfl);have K:=a0 o i g x y z n;rw[Z8 hm]at K;exact⟨_,_,qva m F x4 x3 K N (qlg m "dug" (.inl ⟨_,_,_,_,_,_,_,rfl⟩)) (V "dug" o i g x y z n) (qzo 0 [] 10 (.nx (lwT ns W H P T pl (es.map eD) (Y (O day)) (Y (dgF o i g x y z n)) (Y (Y3 (r.length+9))) (Y (sO "dug")) (Y (sO "dug"))),FC ⟨szD W H P,dg,(es++[]).map eD⟩ T day (voD vs) jo cs ro (Y5 Z ((sp++[(x,y,z)]).map spD)::r++Yq)) (λq=>q) [] rfl) (by rw[Qq5]; exact qf2 m (by lia)),⟨dg,vs,jo,cs,ro,r++Yq,sp++[(x,y,z)],es,_,_,_,_,_,U.set0,G.dug hm,by rw[Qqe]; exact Qj5 sl,by lia,rfl,by rw[Qq5]; rfl⟩⟩
  |dig h ow a7=>
   rename_i o i g x y z n;have hm:(x,y,z) ∉ sp:=of_decide_eq_false (by rw[<- G (x,y,z)]; dsimp only; rw[h]; rfl);have K:=a0 o i g x y z n;rw[Z7 hm]at K;exact⟨_,_,qva m F x4 x3 K N (qlg m "good" (.inl ⟨_,_,_,_,_,_,_,rfl⟩)) (V "good" o i g x y z n) (qlf m (bg rfl (Y5 Z ((sp++[(x,y,z)]).map spD)::r) rfl) (by lia)) (qf2 m (by rw[Qqe]; lia)),⟨_,vs,jo,cs,ro,r++Yq,sp++[(x,y,z)],_,_,_,_,_,_,U.set0,G.dig (q:=(x,y,z)) h _,by rw[Qqe]; exact Qj5 sl,by rw[Qqe]; lia,rfl,rfl⟩⟩
  |pay=>
   rename_i a b n;exact⟨_,_,qva m F x4 x3 (z:="good") (qzo 0 [] 10 (.nx (lwT ns W H P T pl (es.map eD) (Y (O day)) (Y (pyF a b n)) (Y (Y3 (r.length+9))) (Y (sO "good")) u),FC ⟨szD W H P,dg,es.map eD⟩ T d (voD vs) jo cs ro (Y5 Z (sp.map spD)::r++Yq)) (λq=>q) [] rfl) N (qlg m "good" (.inr ⟨_,_,_,rfl⟩)) (qzo 0 [] 10 (.nx (lwT ns W H P T pl (es.map eD) (Y (O day)) (Y (pyF a b n)) (Y (Y3 (r.length+9))) (Y (sO "good")) (Y (sO "good"))),FC ⟨szD W H P,dg,(es++[(day,b,a,10*n)]).map eD⟩ T day (voD vs) jo cs ro (Y5 Z (sp.map spD)::r++Yq)) (λq=>q) [] rfl) (qlf m (bg rfl (Y5 Z (sp.map spD)::r) rfl) (by lia)) (qf2 m (by rw[Qqe]; lia)),⟨_,vs,jo,cs,ro,r++Yq,sp,_,_,_,_,_,_,U,G,by lia,by rw[Qqe]; lia,rfl,rfl⟩⟩
end
def law_ok(m):∀ns:L J,ns.length<=63->∃st',callD fns (m+11) 82 [.lst (ns.map O)] []=Y (.bl Z,st'):=λns hn=>by
 obtain⟨W,H,P,C,w1,w2,h1,h2,p0,p1,A⟩:=qly hn (m+8) [] 0;obtain⟨T,z,t1,t2⟩:=qi8 hn (m+8) [] 0;obtain⟨v,y,U,S⟩:=dr hn (m+9) [] 0 20 (many:=21) (by decide) (by decide) (by decide);obtain⟨pl,w,X,l,F⟩:=dug_ok hn w1 w2 h1 h2 p0 p1 (m+4) [] 1 (many:=4+v) (by decide) (by decide) (by lia) (by lia);have G:=spk_of A w2 h2 p1;have N:=qzc (st:=[]) (pl_nl λp a=>(l p a).1);have u:=qnx w1 w2 h1 h2 p0 p1 t1 t2 (m+7);obtain⟨g,st',e,K,d,s,_⟩:=qez (c:=callD fns (m+10)) (i:=3) (t:=.tup [7,8]) (body:=lwB) (τ:=lwT ns W H P T (pl.map pD) [] B B B B B) (st:=FC ⟨szD W H P,[],([]:L En).map eD⟩ T 0 (voD []) [] [] [] [Y5 Z []]) (q:=.lst (pl.map pD)) (ds:=pl.map pD)
  (λk τ st=>k<=pl.length/\∃d,LwI k W H P T ns (pl.map pD) d τ st/\∀p∈pl.drop k,d<p.1)
  rfl ⟨Qq8 _,0,⟨[],[],[],[],[],[],[],[],B,B,B,B,B,ok0,λ_=>rfl,Qqj _,Qqj _,rfl,rfl⟩,λp a=>by have:=(l p (List.mem_of_mem_drop a)).2; lia⟩ (λk τ st _=>rfl) (λk τ st x o h=>by
   obtain⟨K,d,s,hd⟩:=h;rw[Qqw]at o;obtain⟨p,a,rfl⟩:=Qqd.mp o;obtain⟨b,n⟩:=Qqk.mp a;have dr:pl.drop k=p::pl.drop (k+1):=by rw[Qx1 b,n]
   obtain⟨E,D,V⟩:=l p (Qqo a);obtain⟨f,j,R,Q⟩:=qir w1 w2 h1 h2 p0 p1 t1 t2 m G (by lia) E D (by lia) (hd p (by rw[dr]; exact .head _)) s;refine⟨f,j,R,b,p.1,Q,λq I=>?_⟩;have r:=F.sublist ((List.drop_sublist k pl).map _);rw[dr,Qqh,Qxg]at r
   exact r.1 q.1 (Qqv.mpr ⟨q,I,rfl⟩))
 exact⟨st',qzz 9 [67,68,65,80,46] 11 (λq=>_/\_/\_/\_/\_/\_/\_/\q) [.c (szD W H P,[]),.c (O T,[]),.c (O v,[]),.c (Y3 0,[Y5 Z (pl.map pD)]),.l (pl.map pD),.c (.non,FC ⟨szD W H P,[],([]:L En).map eD⟩ T 0 (voD []) [] [] [] []),.k,.s (.nx g,st')] ⟨C,z,y,w,N,u,e,rfl⟩⟩
end K35
end
namespace K35
open PySem PySem.Spec PyProof.Rows L2 MS
open M (D Yb Y2 Sl E S T Src Fn Out R)
def ar0{P:L Y9->Prop}(h:P []):∀us:L Y9,us.length=0->P us:=λus e=>by
 cases us with
 |nil=>exact h
 |cons a r=>cases e
def arS{P:L Y9->Prop}(h:∀a,∀us:L Y9,us.length=n->P (a::us)):∀us:L Y9,us.length=n+1->P us:=λus e=>by
 cases us with
 |nil=>cases e
 |cons a r=>exact h a r (Nat.succ.inj e)
def bs:∀r∈tab,Bd r:=by
 repeat' first|exact Qqp _|refine Qjf.mpr ⟨?_,?_⟩
 all_goals first|exact λ_ _ _ _ _ _=>arS λ_=>ar0 rfl|exact λ_ _ _ _ _ _=>arS λ_=>arS λ_=>ar0 rfl|exact λ_ _ _ _ _ _=>arS λ_=>arS λ_=>arS λ_=>ar0 rfl|exact λ_ _ _ _ _ _=>arS λ_=>arS λ_=>arS λ_=>arS λ_=>ar0 rfl|exact λ_ _ _ _ _ _=>arS λ_=>arS λ_=>arS λ_=>arS λ_=>arS λ_=>ar0 rfl
end K35
open PySem PySem.W PyProof.Rows
set_option maxRecDepth 100000 in
set_option maxHeartbeats 0 in
theorem PySem.Challenge.cw_dipright_k35_what_a_dig_brings_holds : PySem.Challenge.rw_dipright_k35_what_a_dig_brings.Holds := by
 w_on; o_law
 refine holds_open (XP:=XL (K35.vw PZW) []) (YP:=InK K35.KF) K35.left (InK.of (λ_=>by kernel_rfl)) InK.keeps (λs e=>xl_of s (Bool.and_eq_true_iff.mp e).1) XL.keeps (by rfl) (by rfl) (by rfl) (λs e=>recFacts_of (Bool.and_eq_true_iff.mp e).2) (by rfl) (by assumption) (by decide +kernel) ⟨rfl,rfl,rfl,rfl,rfl,by decide +kernel⟩ ?hw ?hc
 (case hw=>w_witness2)
 refine MS.walk_law (l:=RZW) (K:=K35.KH) (k:=2*20) (x:="_law_script") rfl rfl ⟨rfl,by decide,by decide⟩ (λw h Yq=>Yq) ?F
 case F=>
  intro w mg fa h KX G hmg
  k_fill
  refine MS.law_mk (t:=K35.tab) (glo:=K35.glo) (i:=82) (n:=19) KX G hmg rfl rfl rfl K35.bs (by decide +kernel) (K35.law_ok 9) ?_ ?_ ?_ ?_ ?_ ?_
  all_goals repeat' first|exact Qqp _|refine Qjf.mpr ⟨?_,?_⟩|apply MS.RwK.fn|apply MS.RwK.me|apply MS.ClK.mk|apply MS.GlK.mk|apply MS.GdK.mk|exact MS.vNil|exact MS.eNil|apply MS.vCons|apply MS.eCons|apply MS.vTup
  all_goals try dsimp only
  all_goals first|exact MS.vInt|exact MS.vStr|k_is|rfl

